import PyProof.Rows.All
import Wide.All
import OpenK.AllK
import Wide.FinOn
import HandS.ForMost
import HandS.Evl
import KE.LtSeq
import HandS.RaiseMore
import KE.GoesEnum
import HandS.DictComp
import HandS.Flow
import KE.KSortTupAny
import HandS.Sort
import HandS.SortOrd
import HandS.SortRule
import KE.KDictSum
import KE.KDictList
import HandS.DictTup
import HandS.More
import KE.DataEq
import HandS.IsInst
import HandS.GenList
import HandS.AnyAll
import HandS.Zip
import HandS.EndBits
import HandS.EndTab
import HandS.EndOwn
import HandS.TupAny
import PySem.Challenge.RW_echohall_k10_walks_looked_at
set_option Elab.async false
set_option linter.all false
set_option maxRecDepth 100000
set_option maxHeartbeats 4000000
namespace Eh
open PySem PySem.Spec PyProof.Rows L2 Evl
def topS (i : Nat) : Stmt := PySem.Challenge.pw_echohall_k10_walks_looked_at.main.body.getD i (.Pass ⟨0, 0, 0, 0⟩)
abbrev sOrderOf : Stmt := topS 5
abbrev sNeedWord : Stmt := topS 6
abbrev sAnswers : Stmt := topS 8
abbrev sAlone : Stmt := topS 9
abbrev sNeedShut : Stmt := topS 10
abbrev sIsBegin : Stmt := topS 12
abbrev sLetterOf : Stmt := topS 14
abbrev sAreMovesBy : Stmt := topS 15
abbrev sAreMarksKept : Stmt := topS 16
abbrev sIsWalk : Stmt := topS 17
abbrev sBlend : Stmt := topS 19
abbrev sPot : Stmt := topS 20
abbrev sPick : Stmt := topS 21
abbrev sLetters : Stmt := topS 22
abbrev sSheet : Stmt := topS 23
abbrev sLawMachine : Stmt := topS 24
abbrev sLawOwnWalk : Stmt := topS 25
abbrev sLawIsWalk : Stmt := topS 26
abbrev sLawOther : Stmt := topS 27
abbrev sLawJudged : Stmt := topS 28
abbrev sLaw : Stmt := topS 29
theorem scBlend : FnScope ["cell", "at", "one", "two", "three"] ["cell", "at"] (defScope sBlend) := ⟨rfl, rfl, rfl, by decide +kernel, rfl, by decide +kernel, by decide +kernel⟩
theorem scPot : FnScope ["script", "cells", "k", "cell"] ["script"] (defScope sPot) := ⟨rfl, rfl, rfl, by decide +kernel, rfl, by decide +kernel, by decide +kernel⟩
theorem scPick : FnScope ["pot", "many", "at", "cell", "found"] ["pot", "many"] (defScope sPick) := ⟨rfl, rfl, rfl, by decide +kernel, rfl, by decide +kernel, by decide +kernel⟩
theorem scLetters : FnScope ["pot", "many", "small", "k", "rest", "spot", "turn", "size", "found", "part", "at"] ["pot", "many"] (defScope sLetters) := ⟨rfl, rfl, rfl, by decide +kernel, rfl, by decide +kernel, by decide +kernel⟩
theorem scSheet : FnScope ["pot", "most", "letters", "turn", "opens", "plains", "closes"] ["pot", "most"] (defScope sSheet) := ⟨rfl, rfl, rfl, by decide +kernel, rfl, by decide +kernel, by decide +kernel⟩
end Eh
set_option Elab.async false
set_option linter.all false
set_option maxRecDepth 100000
set_option maxHeartbeats 4000000
namespace Eh
open PySem PySem.Spec PyProof.Rows L2 Evl
/-! heaps -/
def Keep (p : Addr) (H H' : Hp) : Prop := ∀ b o, b ≠ p → H b = some o → H' b = some o
theorem Keep.refl (p : Addr) (H : Hp) : Keep p H H := fun _ _ _ h => h
theorem Keep.trans {p : Addr} {H H1 H2 : Hp} (a : Keep p H H1) (b : Keep p H1 H2) : Keep p H H2 := fun x o n h => b x o n (a x o n h)
theorem Keep.ofEx {p : Addr} {H H' : Hp} (e : Ex H H') : Keep p H H' := fun b o _ h => e b o h
theorem Keep.new {p q : Addr} {H H' : Hp} {o : HO} (k : Keep p H H') (h : H q = none) : Keep p H (upd H' q o) := fun b u n e => by
  rw [upd_ne (ne_of_none e h)]
  exact k b u n e
theorem Keep.at {p : Addr} {H H' : Hp} {o : HO} (k : Keep p H H') : Keep p H (upd H' p o) := fun b u n e => by
  rw [upd_ne n]
  exact k b u n e
/-- the drawing pot: its cells stand still, how many were drawn and the rest change -/
def Pot (p c : Addr) (ns : List Int) (H : Hp) : Prop := ∃ a r : Int, 0 ≤ a ∧ H p = some (.lst [.ref c, .int a, .int r]) ∧ H c = some (.lst (ns.map V.int))
theorem Pot.ne {p c : Addr} {ns : List Int} {H : Hp} (h : Pot p c ns H) : c ≠ p := by
  obtain ⟨a, r, _, h1, h2⟩ := h
  intro e
  subst e
  have q : [V.ref c, .int a, .int r] = ns.map V.int := by
    have := h1.symm.trans h2
    injection this with this
    injection this
  cases ns with
  | nil => cases q
  | cons x t => cases q
theorem Pot.ex {p c : Addr} {ns : List Int} {H H' : Hp} (h : Pot p c ns H) (e : Ex H H') : Pot p c ns H' := by
  obtain ⟨a, r, h0, h1, h2⟩ := h
  exact ⟨a, r, h0, e _ _ h1, e _ _ h2⟩
theorem Pot.new {p c q : Addr} {ns : List Int} {H : Hp} {o : HO} (h : Pot p c ns H) (hp : p ≠ q) (hc : c ≠ q) : Pot p c ns (upd H q o) := by
  obtain ⟨a, r, h0, h1, h2⟩ := h
  exact ⟨a, r, h0, by rw [upd_ne hp]; exact h1, by rw [upd_ne hc]; exact h2⟩
section
variable {P : Program} {w : World} {K : PySem.W.Frag} {mg : Str → Option Value} {base : Heap}
def spBlend : Sp := fun vs H Q _ => ∃ x a : Int, vs = [.int x, .int a] ∧ ∀ v : Int, Q (.int v) H
theorem ok_blend {f : Addr} {fd : FuncData} {k : Nat} (F : Fun K "_law_blend" "_law_blend" sBlend f fd) : FnOk P w K mg base CX0 (k + 1) f fd ["cell", "at"] spBlend := by
  refine F.ok scBlend (fun vs H Q E h => ?_) (fun cdv A outer s H vs Q E hr h => ?_)
  · obtain ⟨x, a, rfl, _⟩ := h
    rfl
  · obtain ⟨x, a, rfl, q⟩ := h
    refine ⟨_, pss_cons (ps_if (pt_cmpR op_ge (pv 0) (pe_op op_pow pe_int pe_int) (nomark _)) (pss_one (ps_ret (pv 0))) pss_nil)
      (pss_cons (ps_set (i := 2) scBlend.nd rfl (.inl rfl) (pe_op op_mod (pe_op op_add (pe_op op_add (pe_op op_mul (pe_op op_mod (pv 0) pe_int) pe_int) (pe_op op_mul (pv 1) pe_int)) pe_int) pe_int))
      (pss_cons (ps_set (i := 3) scBlend.nd rfl (.inl rfl) (pe_op op_mod (pe_op op_add (pe_op op_add (pe_op op_mul (pv 2) (pv 2)) (pe_op op_mul (pv 1) pe_int)) (pe_op op_mod (pv 0) pe_int)) pe_int))
      (pss_cons (ps_set (i := 4) scBlend.nd rfl (.inl rfl) (pe_op op_mod (pe_op op_add (pe_op op_add (pe_op op_mul (pv 3) (pv 3)) (pe_op op_mul (pv 2) pe_int)) pe_int) pe_int))
      (pss_one (ps_ret (pe_op op_add (pe_op op_mul (pe_op op_add (pe_op op_mul (pv 2) pe_int) (pv 3)) pe_int) (pv 4))))))), ?_⟩
    refine ⟨_, rfl, 10, 18, rfl, rfl, ⟨by decide, by decide, by decide⟩, _, _, rfl, rfl, _, rfl, ite2 (fun e => ?_) (fun e => ?_)⟩
    · exact ⟨_, rfl, q _⟩
    · have big : ∀ j : Int, 0 < j → j < 4294967296 → ∀ y : Int, CMul (y % j) (y % j) := fun j h0 h1 y => .inl ⟨by have := Int.emod_nonneg y (show j ≠ 0 by omega); omega, by have := Int.emod_lt_of_pos y h0; omega⟩
      refine ⟨_, rfl, _, _, rfl, rfl, (by show (0 : Int) < _; decide), _, _, rfl, rfl, .inr ⟨by decide, by decide⟩, _, rfl, _, _, rfl, rfl, .inr ⟨by decide, by decide⟩, _, _, rfl, rfl, _, _, rfl, rfl, _, _, rfl, rfl, (by show (0 : Int) < _; decide), ?_⟩
      refine ⟨_, rfl, _, rfl, _, _, rfl, rfl, big _ (by decide) (by decide) _, _, rfl, _, _, rfl, rfl, .inr ⟨by decide, by decide⟩, _, _, rfl, rfl, _, rfl, _, _, rfl, rfl, (by show (0 : Int) < _; decide), _, _, rfl, rfl, _, _, rfl, rfl, (by show (0 : Int) < _; decide), ?_⟩
      refine ⟨_, rfl, _, rfl, _, _, rfl, rfl, big _ (by decide) (by decide) _, _, rfl, _, _, rfl, rfl, .inr ⟨by decide, by decide⟩, _, _, rfl, rfl, _, _, rfl, rfl, _, _, rfl, rfl, (by show (0 : Int) < _; decide), ?_⟩
      exact ⟨_, rfl, _, _, rfl, rfl, .inr ⟨by decide, by decide⟩, _, rfl, _, _, rfl, rfl, _, _, rfl, rfl, .inr ⟨by decide, by decide⟩, _, rfl, _, _, rfl, rfl, q _⟩
end
end Eh
set_option Elab.async false
set_option linter.all false
set_option maxRecDepth 100000
set_option maxHeartbeats 4000000
namespace Eh
open PySem PySem.Spec PyProof.Rows L2 Evl
theorem dpInts {K : PySem.W.Frag} {H : Hp} : ∀ ns : List Int, DpAll K H (ns.map V.int) (ns.map PyData.int)
  | [] => .nil
  | n :: r => .cons (.int n) (dpInts r)
theorem layInts : ∀ ns : List Int, PyData.canLayAll0 (ns.map PyData.int) = true
  | [] => rfl
  | n :: r => by
    show (true && PyData.canLayAll0 (r.map PyData.int)) = true
    rw [layInts r]
    rfl
theorem deepInts : ∀ ns : List Int, PyData.depthAll (ns.map PyData.int) = 0
  | [] => rfl
  | n :: r => by
    show max 0 (PyData.depthAll (r.map PyData.int)) = 0
    rw [deepInts r]
    rfl
theorem shapedInts (ns : List Int) : SeqAt.shaped (.list (ns.map PyData.int)) = true := by
  unfold SeqAt.shaped
  have h1 : PyData.canLay0 (.list (ns.map PyData.int)) = true := layInts ns
  have h2 : PyData.depth (.list (ns.map PyData.int)) = 1 := by
    show PyData.depthAll (ns.map PyData.int) + 1 = 1
    rw [deepInts]
  rw [h1, h2]
  rfl
theorem shapedNil : SeqAt.shaped (.list []) = true := by decide +kernel
section
variable {P : Program} {w : World} {K : PySem.W.Frag} {mg : Str → Option Value} {base : Heap}
def spPick : Sp := fun vs H Q _ => ∃ (p c : Addr) (ns : List Int) (m : Int), vs = [.ref p, .int m] ∧ 0 < m ∧ m < 1073741824 ∧ Pot p c ns H ∧ ∀ (v : Nat) H', (v : Int) < m → Keep p H H' → Pot p c ns H' → Q (.int v) H'
theorem ok_pick {f fB : Addr} {fd fdB : FuncData} {k : Nat} (F : Fun K "_law_pick" "_law_pick" sPick f fd) (FB : Fun K "_law_blend" "_law_blend" sBlend fB fdB) (bB : Binds K fdB ["cell", "at"] []) (gB : mg "_law_blend" = some (.ref fB)) (ml : mg "len" = none) :
    FnOk P w K mg base CX0 (k + 2) f fd ["pot", "many"] spPick := by
  have GB : FnOk P w K mg base CX0 (k + 1) fB fdB ["cell", "at"] spBlend := ok_blend FB
  have nd := scPick.nd
  refine F.ok scPick (fun vs H Q E h => ?_) (fun cdv A outer s H vs Q E hr h => ?_)
  · obtain ⟨p, c, ns, m, rfl, _⟩ := h
    rfl
  · obtain ⟨p, c, ns, m, rfl, m0, m1, hP, q⟩ := h
    refine ⟨_, pss_cut (ps_if (pt_cmpR op_lt (pe_ix ix_list (pv 0) pe_int (fun _ _ => rfl)) (pv 1) (nomark _))
       (pss_cons (ps_set (i := 2) nd rfl (.inl rfl) (pe_ix ix_list (pv 0) pe_int (fun _ _ => rfl)))
       (pss_cons (ps_set (i := 3) nd rfl (.inl rfl) (pe_op op_mul pe_int (pv 2)))
       (pss_cut (ps_if (pt_cmpR op_lt (pv 2) (pe_callB call_len_seq (by rfl) ml PySem.boot_len (pa_cons (pe_ix ix_list (pv 0) pe_int (fun _ _ => rfl)) pa_nil)) (nomark _))
            (pss_one (ps_set (i := 3) nd rfl (.inl rfl) (pe_ix ix_list (pe_ix ix_list (pv 0) pe_int (fun _ _ => rfl)) (pv 2) (fun _ _ => rfl))))
            (pss_one (ps_if (pt_cmpR (op_neD hr.units) (pe_ix ix_list (pv 0) pe_int (fun _ _ => rfl)) (pe_lst pa_nil) (nomark _))
              (pss_one (ps_set (i := 3) nd rfl (.inl rfl) (pe_op op_mod (pe_ix ix_list (pe_ix ix_list (pv 0) pe_int (fun _ _ => rfl)) (pe_op op_mod (pe_op op_add (pe_op op_mul (pv 2) pe_int) pe_int) (pe_callB call_len_seq (by rfl) ml PySem.boot_len (pa_cons (pe_ix ix_list (pv 0) pe_int (fun _ _ => rfl)) pa_nil))) (fun _ _ => rfl)) (pe_op op_add (pe_op op_pow pe_int pe_int) (pe_op op_mul pe_int (pv 2)))))) pss_nil)))
       (pss_cons (ps_asg (pe_op op_add (pv 2) pe_int) (pg_sub (pv 0) pe_int set_list))
       (pss_one (ps_asg (pe_call GB hr (by rfl) gB FB.kp bB .nil pass0 (pa_cons (pv 3) (pa_cons (pv 2) pa_nil))) (pg_sub (pv 0) pe_int set_list)))))))
       pss_nil)
      (pss_cons (ps_set (i := 4) nd rfl (.inl rfl) (pe_op op_mod (pe_ix ix_list (pv 0) pe_int (fun _ _ => rfl)) (pv 1)))
      (pss_cons (ps_asg (pe_op op_fdiv (pe_ix ix_list (pv 0) pe_int (fun _ _ => rfl)) (pv 1)) (pg_sub (pv 0) pe_int set_list))
      (pss_one (ps_ret (pv 4))))), ?_⟩
    have hne := hP.ne
    obtain ⟨a, r, a0, hp, hc⟩ := hP
    refine ⟨fun σ' H' => (∃ y2 y3, σ' = [some (.ref p), some (.int m), y2, y3, none]) ∧ Keep p H H' ∧ Pot p c ns H', ?_, ?_⟩
    · refine ⟨_, rfl, p, _, 2, .int r, rfl, rfl, sq_of hp, rfl, _, rfl, _, _, rfl, rfl, _, rfl, ite2 (fun e => ?_) (fun e => ?_)⟩
      · refine ⟨_, rfl, p, _, 1, .int a, rfl, rfl, sq_of hp, rfl, ?_⟩
        refine ⟨_, rfl, _, _, rfl, rfl, .inl ⟨by decide, by decide⟩, ?_⟩
        refine ⟨fun σ' H' => ∃ y3 : Int, σ' = [some (.ref p), some (.int m), some (.int a), some (.int y3), none] ∧ Ex H H', ?_, ?_⟩
        · refine ⟨_, rfl, _, rfl, p, _, 0, .ref c, rfl, rfl, sq_of hp, rfl, c, _, rfl, .inl (sq_of hc), _, _, rfl, rfl, _, rfl, ite2 (fun e => ?_) (fun e => ?_)⟩
          · have ha : a < (ns.map V.int).length := of_decide_eq_true e
            have hb : a.toNat < ns.length := by
              rw [List.length_map] at ha
              omega
            refine ⟨_, rfl, p, _, 0, .ref c, rfl, rfl, sq_of hp, rfl, _, rfl, c, _, a, .int ns[a.toNat], rfl, rfl, sq_of hc, at_of (j := a.toNat) (by omega) ?_, _, rfl, Ex.refl _⟩
            rw [List.getElem?_map, List.getElem?_eq_getElem hb]
            rfl
          · refine ⟨_, rfl, p, _, 0, .ref c, rfl, rfl, sq_of hp, rfl, Nat.zero_le _, fun u hu => ?_⟩
            have e1 : Ex H (upd H u (.lst [])) := Ex.new hu
            refine ⟨.list (ns.map PyData.int), .list [], .lst (sq_of (e1 _ _ hc)) (dpInts ns), .lst (sq_of upd_same) .nil, shapedInts ns, shapedNil, _, rfl, ite2 (fun e => ?_) (fun e => ?_)⟩
            · have h0 : 0 < ns.length := by
                cases ns with
                | nil => exact absurd e (by decide)
                | cons x t => exact Nat.succ_pos _
              have hl : (0 : Int) < ((ns.map V.int).length : Int) := by
                rw [List.length_map]
                omega
              have g0 := Int.emod_nonneg (a * 7 + 1) (show ((ns.map V.int).length : Int) ≠ 0 by omega)
              have g1 := Int.emod_lt_of_pos (a * 7 + 1) hl
              have hb : ((a * 7 + 1) % ((ns.map V.int).length : Int)).toNat < ns.length := by
                rw [List.length_map] at g0 g1 ⊢
                omega
              refine ⟨_, rfl, p, _, 0, .ref c, rfl, rfl, sq_of (e1 _ _ hp), rfl, _, rfl, _, _, rfl, rfl, .inr ⟨by decide, by decide⟩, _, _, rfl, rfl, _, rfl, p, _, 0, .ref c, rfl, rfl, sq_of (e1 _ _ hp), rfl, c, _, rfl, .inl (sq_of (e1 _ _ hc)), _, _, rfl, rfl, hl, c, _, _, .int ns[((a * 7 + 1) % ((ns.map V.int).length : Int)).toNat], rfl, rfl, sq_of (e1 _ _ hc), at_of (j := ((a * 7 + 1) % ((ns.map V.int).length : Int)).toNat) (by omega) ?_, _, _, rfl, rfl, ⟨by decide, by decide, by decide⟩, _, rfl, _, _, rfl, rfl, .inl ⟨by decide, by decide⟩, _, _, rfl, rfl, _, _, rfl, rfl, ?_, _, rfl, e1⟩
              · rw [List.getElem?_map, List.getElem?_eq_getElem hb]
                rfl
              · show (0 : Int) < 10 ^ (17 : Int).toNat + 3 * a
                have : (10 : Int) ^ (17 : Int).toNat = 100000000000000000 := by decide
                omega
            · exact ⟨_, rfl, e1⟩
        · rintro σ' H' ⟨y3, rfl, e1⟩
          refine ⟨_, rfl, _, _, rfl, rfl, _, rfl, p, _, 1, 1, rfl, rfl, e1 _ _ hp, rfl, ?_⟩
          refine ⟨_, rfl, _, rfl, _, _, rfl, fun v => ⟨_, rfl, p, _, 2, 2, rfl, rfl, upd_same, rfl, ⟨_, _, rfl⟩, ?_, a + 1, v, by omega, upd_same, ?_⟩⟩
          · exact ((Keep.ofEx e1).at).at
          · rw [upd_ne hne, upd_ne hne]
            exact e1 _ _ hc
      · exact ⟨⟨_, _, rfl⟩, Keep.refl _ _, a, r, a0, hp, hc⟩
    · rintro σ' H' ⟨⟨y2, y3, rfl⟩, kp, a', r', a0', hp', hc'⟩
      have g0 := Int.emod_nonneg r' (show m ≠ 0 by omega)
      have g1 := Int.emod_lt_of_pos r' m0
      refine ⟨_, rfl, p, _, 2, .int r', rfl, rfl, sq_of hp', rfl, _, rfl, _, _, rfl, rfl, m0, ?_⟩
      refine ⟨_, rfl, p, _, 2, .int r', rfl, rfl, sq_of hp', rfl, _, rfl, _, _, rfl, rfl, ⟨m0, m1⟩, _, rfl, p, _, 2, 2, rfl, rfl, hp', rfl, ?_⟩
      refine ⟨_, rfl, ?_⟩
      have e : r' % m = ((r' % m).toNat : Int) := by omega
      show Q (.int (r' % m)) _
      rw [e]
      refine q _ _ (by omega) kp.at ⟨a', r' / m, a0', upd_same, ?_⟩
      rw [upd_ne hne]
      exact hc'
end
end Eh
set_option Elab.async false
set_option linter.all false
set_option maxRecDepth 100000
set_option maxHeartbeats 4000000
namespace Eh
open PySem PySem.Spec PyProof.Rows L2 Evl
/-- for i, x in enumerate(list) -/
theorem for_enum {K : PySem.W.Frag} {a : Addr} {xs : List V} {tb : TS} {D : Ends} {σ : L2.St} {H : Hp} {i1 i2 : Nat} (Pv : Nat → L2.St → Hp → Prop) (h0 : Pv 0 σ H) (hl : ∀ i σ H, i ≤ xs.length → Pv i σ H → SqL K H a xs)
    (hs : ∀ i x σ H T, xs[i]? = some x → Pv i σ H → H T = none → tb { D with nx := Pv (i + 1), ct := Pv (i + 1), bk := D.nx } ((σ.set i1 (some (.int (i : Nat)))).set i2 (some x)) (upd H T (.tup [.int (i : Nat), x])))
    (hd : ∀ σ H, Pv xs.length σ H → D.nx σ H) :
    ∃ W : Nat → Nat → L2.St → Hp → Prop, (∃ m, W 0 m σ H) ∧ ∀ i m σ H, W i m σ H →
      ((Ite K a).stop i H ∧ D.nx σ H) ∨ ((Ite K a).go i H ∧ ∃ N : L2.St → Hp → Prop, (∀ σ' H', N σ' H' → ∃ m', m' < m ∧ W (i + 1) m' σ' H') ∧ ∀ x H', (Ite K a).yld i H x H' → gTup K 2 (gCons (gName i1) (gCons (gName i2) gNil)) x σ H' fun σ2 H2 => tb { D with nx := N, ct := N, bk := D.nx } σ2 H2) := by
  refine ⟨fun i m σ H => m = xs.length - i ∧ i ≤ xs.length ∧ Pv i σ H, ⟨xs.length, by omega, Nat.zero_le _, h0⟩, ?_⟩
  rintro i m σ H ⟨rfl, hi, p⟩
  have q := hl i σ H hi p
  by_cases hlt : i < xs.length
  · refine .inr ⟨⟨xs, xs[i], q, List.getElem?_eq_getElem hlt⟩, Pv (i + 1), fun σ' H' p' => ⟨xs.length - (i + 1), by omega, rfl, hlt, p'⟩, fun v H' y => ?_⟩
    obtain ⟨T, x, rfl, nT, rfl, f⟩ := y
    exact ⟨T, [.int (i : Nat), x], rfl, st_of upd_same, rfl, _, _, rfl, _, _, rfl, rfl, hs i x σ H T (f xs q) p nT⟩
  · have e : i = xs.length := by omega
    subst e
    exact .inl ⟨⟨xs, q, Nat.le_refl _⟩, hd σ H p⟩
theorem cut0 (xs : List V) (n : Nat) : cutV xs none (some (n : Int)) = xs.take n := by
  unfold cutV
  rw [HT.sIx_none, HT.sIx_nat, List.drop_zero, Nat.sub_zero]
  rw [List.take_eq_take_iff]
  omega
theorem cutF (xs : List V) (n : Nat) : cutV xs (some (n : Int)) none = xs.drop n := by
  unfold cutV
  rw [HT.sIx_none, HT.sIx_nat]
  by_cases h : n ≤ xs.length
  · rw [Nat.min_eq_left h]
    exact List.take_of_length_le (by rw [List.length_drop]; exact Nat.le_refl _)
  · rw [Nat.min_eq_right (by omega), List.drop_of_length_le (Nat.le_refl _), List.drop_of_length_le (by omega)]
    exact List.take_nil
theorem cutLH (xs : List V) (n m : Nat) : cutV xs (some (n : Int)) (some (m : Int)) = (xs.take m).drop n := by
  unfold cutV
  rw [HT.sIx_nat, HT.sIx_nat, List.drop_take]
  by_cases h : n ≤ xs.length
  · rw [Nat.min_eq_left h, List.take_eq_take_iff, List.length_drop]
    omega
  · rw [Nat.min_eq_right (show xs.length ≤ n by omega), List.drop_of_length_le (Nat.le_refl _), List.drop_of_length_le (show xs.length ≤ n by omega), List.take_nil, List.take_nil]
section
variable {P : Program} {w : World} {K : PySem.W.Frag} {mg : Str → Option Value} {base : Heap}
def spPot (K : PySem.W.Frag) : Sp := fun vs H Q _ => ∃ (a : Addr) (ns : List Int), vs = [.ref a] ∧ SqL K H a (ns.map V.int) ∧ ns.length ≤ 63 ∧ ∀ (p c : Addr) (ms : List Int) H', Ex H H' → Pot p c ms H' → H p = none → H c = none → Q (.ref p) H'
theorem ok_pot {f : Addr} {fd : FuncData} {k : Nat} (F : Fun K "_law_pot" "_law_pot" sPot f fd) (ml : mg "list" = none) (me : mg "enumerate" = none) :
    FnOk P w K mg base CX0 (k + 1) f fd ["script"] (spPot K) := by
  have nd := scPot.nd
  refine F.ok scPot (fun vs H Q E h => ?_) (fun cdv A outer s H vs Q E hr h => ?_)
  · obtain ⟨a, ns, rfl, _⟩ := h
    rfl
  · obtain ⟨a, ns, rfl, hS, hl, q⟩ := h
    refine ⟨_, pss_cons (ps_set (i := 1) nd rfl (.inl rfl) (pe_callTy call_list_of (by rfl) ml (by decide +kernel) (pa_cons (pe_slice sl_list (pv 0) po_none (po_some pe_int)) pa_nil)))
      (pss_cons (ps_for PassesOwn.never rfl (pi_enum (by rfl) me (pa_cons (pe_slice sl_list (pv 0) (po_some pe_int) (po_some pe_int)) pa_nil)) (pg_tup rfl (pgs_cons (pg_name (i := 2) nd rfl (.inl rfl)) (pgs_cons (pg_name (i := 3) nd rfl (.inl rfl)) pgs_nil)))
         (pss_one (ps_asg (pe_op op_add (pe_ix ix_list (pv 1) (pe_op op_mod (pv 2) pe_int) (fun _ _ => rfl)) (pv 3)) (pg_sub (pv 1) (pe_op op_mod (pv 2) pe_int) set_list))))
      (pss_one (ps_ret (pe_lst (pa_cons (pv 1) (pa_cons pe_int (pa_cons pe_int pa_nil))))))), ?_⟩
    refine ⟨_, rfl, 12, rfl, a, _, rfl, hS, fun u hu => ⟨u, _, rfl, .inl (sq_of upd_same), fun c hc => ?_⟩⟩
    have hcu : c ≠ u := fun e => by
      rw [e, upd_same] at hc
      cases hc
    have hcH : H c = none := by rw [← hc, upd_ne hcu]
    have e1 : Ex H (upd (upd H u (.lst (cutV (ns.map V.int) none (some 12)))) c (.lst (cutV (ns.map V.int) none (some 12)))) := (Ex.new hu).trans (Ex.new hc)
    have ec : cutV (ns.map V.int) none (some 12) = (ns.take 12).map V.int := by
      rw [show (some 12 : Option Int) = some ((12 : Nat) : Int) from rfl, cut0, List.map_take]
    rw [ec] at e1
    rw [ec]
    generalize hH1 : upd (upd H u (.lst ((ns.take 12).map V.int))) c (.lst ((ns.take 12).map V.int)) = H1 at e1 ⊢
    have hc1 : H1 c = some (.lst ((ns.take 12).map V.int)) := by
      rw [← hH1]
      exact upd_same
    refine ⟨_, rfl, 12, rfl, 63, rfl, a, _, rfl, ex_l e1 hS, fun l nl => ?_⟩
    have es : cutV (ns.map V.int) (some 12) (some 63) = ((ns.take 63).drop 12).map V.int := by
      rw [show (some 12 : Option Int) = some ((12 : Nat) : Int) from rfl, show (some 63 : Option Int) = some ((63 : Nat) : Int) from rfl, cutLH, List.map_drop, List.map_take]
    rw [es]
    have nlc : l ≠ c := fun e => by
      rw [e, hc1] at nl
      cases nl
    refine ⟨l, _, rfl, sq_of upd_same, for_enum (xs := ((ns.take 63).drop 12).map V.int) (fun i σ H' => (∃ y2 y3, σ = [some (.ref a), some (.ref c), y2, y3]) ∧ Ex H H' ∧ H' l = some (.lst (((ns.take 63).drop 12).map V.int)) ∧ ∃ ms : List Int, ms.length = min 12 ns.length ∧ H' c = some (.lst (ms.map V.int))) ?_ ?_ ?_ ?_⟩
    · refine ⟨⟨_, _, rfl⟩, e1.trans (Ex.new nl), upd_same, ns.take 12, ?_, ?_⟩
      · rw [List.length_take]
      · rw [upd_ne nlc.symm]
        exact hc1
    · rintro i σ H' _ ⟨_, _, h, _⟩
      exact sq_of h
    · rintro i x σ H' T hx ⟨⟨y2, y3, rfl⟩, eH, hl', ms, hms, hc'⟩ nT
      have ex : ∃ z : Int, x = .int z := by
        rw [List.getElem?_map] at hx
        obtain ⟨z, _, e⟩ := Option.map_eq_some_iff.mp hx
        exact ⟨z, e.symm⟩
      obtain ⟨z, rfl⟩ := ex
      have hi : 12 < ns.length := by
        have := (List.getElem?_eq_some_iff.mp hx).1
        rw [List.length_map, List.length_drop, List.length_take] at this
        omega
      have g0 : ((i : Int) % 12) = ((i % 12 : Nat) : Int) := by omega
      have hj : i % 12 < ms.length := by
        rw [hms]
        have := Nat.mod_lt i (show 0 < 12 by decide)
        omega
      have eT : Ex H' (upd H' T (.tup [.int (i : Nat), .int z])) := Ex.new nT
      have ix : (ms.map V.int)[i % 12]? = some (.int ms[i % 12]) := by
        rw [List.getElem?_map, List.getElem?_eq_getElem hj]
        rfl
      refine ⟨_, rfl, _, rfl, _, _, rfl, rfl, (by show (0 : Int) < _; decide), c, _, _, _, rfl, rfl, sq_of (eT _ _ hc'), at_of (j := i % 12) g0 ix, _, rfl, _, _, rfl, rfl, _, rfl, _, rfl, _, _, rfl, rfl, (by show (0 : Int) < _; decide), c, _, _, i % 12, rfl, rfl, eT _ _ hc', ?_, ⟨_, _, rfl⟩, ?_, ?_, ms.set (i % 12) (ms[i % 12] + z), ?_, ?_⟩
      · show ixN _ ((i : Int) % 12) = _
        rw [g0]
        exact ixN_nat (by rw [List.length_map]; exact hj)
      · exact Ex.mut (eH.trans eT) hcH
      · rw [upd_ne nlc]
        exact eT _ _ hl'
      · rw [List.length_set]
        exact hms
      · rw [upd_same, List.map_set]
    · rintro σ H' ⟨⟨y2, y3, rfl⟩, eH, hl', ms, hms, hc'⟩
      refine ⟨_, rfl, (by show 3 ≤ sizeLine; decide), fun p np => q p c ms _ (eH.trans (Ex.new np)) ⟨0, 0, by decide, upd_same, ?_⟩ (fresh_back eH np) hcH⟩
      have : c ≠ p := fun e => by
        rw [← e, hc'] at np
        cases np
      rw [upd_ne this]
      exact hc'
end
end Eh
set_option Elab.async false
set_option linter.all false
set_option maxRecDepth 100000
set_option maxHeartbeats 4000000
namespace Eh
open PySem PySem.Spec PyProof.Rows L2 Evl TL
/-! texts as lists of codes -/
abbrev cs (w : Str) : List Nat := w.cps.toList
theorem cs_ext {x y : Str} (h : cs x = cs y) : x = y := by
  cases x with | mk a => cases y with | mk b =>
  have : a = b := by
    apply Array.ext'
    exact h
  rw [this]
def az (c : Nat) : Prop := 97 ≤ c ∧ c < 123
/-- what is drawn as a letter -/
def Ltr (w : Str) : Prop := (∀ c ∈ cs w, az c) ∧ 1 ≤ (cs w).length ∧ (cs w).length ≤ 8
def spotAt (spot n : Nat) : Nat := if spot = 0 then 0 else if spot = 1 then n else n / 2
def mkL (rest : List Nat) (spot turn size k : Nat) : List Nat :=
  (rest.take ((size + k * (spot % 2)) % 8)).take (spotAt spot (rest.take ((size + k * (spot % 2)) % 8)).length) ++ ([97 + (turn + 5 * k) % 26] ++ (rest.take ((size + k * (spot % 2)) % 8)).drop (spotAt spot (rest.take ((size + k * (spot % 2)) % 8)).length))
theorem mkL_inj {rest : List Nat} {spot turn size k1 k2 : Nat} (hs : spot < 3) (h1 : k1 < 26) (h2 : k2 < 26) (h : mkL rest spot turn size k1 = mkL rest spot turn size k2) : k1 = k2 := by
  have key : 97 + (turn + 5 * k1) % 26 = 97 + (turn + 5 * k2) % 26 → k1 = k2 := fun e => by omega
  apply key
  unfold mkL at h
  have cases3 : spot = 0 ∨ spot = 1 ∨ spot = 2 := by omega
  rcases cases3 with rfl | rfl | rfl
  · simp only [spotAt, if_true, List.take_zero, List.nil_append, List.cons_append] at h
    exact (List.cons.inj h).1
  · have n1 : ∀ l : List Nat, spotAt 1 l.length = l.length := fun l => rfl
    rw [n1, n1, List.take_length, List.take_length, List.drop_length, List.drop_length, List.append_nil, List.append_nil] at h
    exact (List.cons.inj (List.append_inj' h rfl).2).1
  · rw [show k1 * (2 % 2) = 0 from Nat.mul_zero _, show k2 * (2 % 2) = 0 from Nat.mul_zero _] at h
    have := List.append_cancel_left h
    exact (List.cons.inj this).1
theorem mkL_len {rest : List Nat} {spot turn size k : Nat} : (mkL rest spot turn size k).length = (rest.take ((size + k * (spot % 2)) % 8)).length + 1 := by
  unfold mkL
  generalize rest.take ((size + k * (spot % 2)) % 8) = l
  rw [List.length_append, List.length_append, List.length_take, List.length_drop, List.length_singleton]
  omega
theorem mkL_az {rest : List Nat} {spot turn size k : Nat} (h : ∀ c ∈ rest, az c) : ∀ c ∈ mkL rest spot turn size k, az c := by
  intro c hc
  unfold mkL at hc
  rcases List.mem_append.mp hc with q | q
  · exact h c (List.mem_of_mem_take (List.mem_of_mem_take q))
  · rcases List.mem_append.mp q with q | q
    · rw [List.mem_singleton.mp q]
      unfold az
      omega
    · exact h c (List.mem_of_mem_take (List.mem_of_mem_drop q))
def mkS (rest : List Nat) (spot turn size k : Nat) : Str := ⟨(mkL rest spot turn size k).toArray⟩
theorem cs_mkS {rest : List Nat} {spot turn size k : Nat} : cs (mkS rest spot turn size k) = mkL rest spot turn size k := rfl
def mkAll (rest : List Nat) (spot turn size n : Nat) : List Str := (List.range n).map (mkS rest spot turn size)
theorem mkAll_nodup {rest : List Nat} {spot turn size n : Nat} (hs : spot < 3) (hn : n ≤ 26) : (mkAll rest spot turn size n).Nodup := by
  unfold mkAll
  rw [List.Nodup, List.pairwise_map]
  refine List.Pairwise.imp_of_mem (fun {a b} ha hb hab e => hab ?_) (List.nodup_range (n := n))
  have ha' := List.mem_range.mp ha
  have hb' := List.mem_range.mp hb
  exact mkL_inj hs (by omega) (by omega) (by
    have := congrArg cs e
    exact this)
theorem mkAll_ltr {rest : List Nat} {spot turn size n : Nat} (h : ∀ c ∈ rest, az c) : ∀ w ∈ mkAll rest spot turn size n, Ltr w := by
  intro w hw
  obtain ⟨k, _, rfl⟩ := List.mem_map.mp hw
  refine ⟨fun c hc => mkL_az h c hc, ?_, ?_⟩
  · rw [cs_mkS, mkL_len]
    omega
  · rw [cs_mkS, mkL_len, List.length_take]
    omega
theorem joinL_nil : ∀ ls : List (List Nat), joinL [] ls = ls.flatten
  | [] => rfl
  | [p] => by simp [joinL]
  | p :: q :: r => by
    show p ++ ([] ++ joinL [] (q :: r)) = (p :: q :: r).flatten
    rw [joinL_nil (q :: r), List.nil_append]
    rfl
theorem flat_one : ∀ ds : List Nat, (ds.map fun c => [c]).flatten = ds
  | [] => rfl
  | d :: r => by
    show [d] ++ (r.map fun c => [c]).flatten = d :: r
    rw [flat_one r]
    rfl
theorem cs_join (ds : List Nat) : cs (Txt.join (Str.ofString "") (ds.map fun c => (⟨#[c]⟩ : Str))) = ds := by
  have h := tl_join (Str.ofString "") (ds.map fun c => (⟨#[c]⟩ : Str))
  rw [← join_eq, show tl (Str.ofString "") = [] from rfl, joinL_nil, List.map_map] at h
  exact h.trans (flat_one ds)
abbrev alpha : Str := Str.ofString "abcdefghijklmnopqrstuvwxyz"
theorem cs_alpha : cs alpha = (List.range 26).map (97 + ·) := by decide +kernel
theorem alpha_at {v : Nat} (h : v < 26) : atI (cs alpha) (v : Int) = some (97 + v) := by
  refine atI_nat ?_
  rw [cs_alpha, List.getElem?_map, List.getElem?_range h]
  rfl
theorem cs_app (x y : Str) : cs (x ++ y) = cs x ++ cs y := tl_append x y
theorem len_cs (x : Str) : x.length = (cs x).length := by simp [Str.length]
theorem cs_cut0 (x : Str) (n : Nat) : cs (cutS x none (some (n : Int))) = (cs x).take n := by
  unfold cutS
  rw [HT.sIx_none, HT.sIx_nat]
  show ((cs x).drop 0).take _ = _
  rw [List.drop_zero, Nat.sub_zero, List.take_eq_take_iff, len_cs]
  omega
theorem cs_cutF (x : Str) (n : Nat) : cs (cutS x (some (n : Int)) none) = (cs x).drop n := by
  unfold cutS
  rw [HT.sIx_none, HT.sIx_nat, len_cs]
  show ((cs x).drop _).take _ = _
  by_cases h : n ≤ (cs x).length
  · rw [Nat.min_eq_left h]
    exact List.take_of_length_le (by rw [List.length_drop]; exact Nat.le_refl _)
  · rw [Nat.min_eq_right (show (cs x).length ≤ n by omega), List.drop_of_length_le (Nat.le_refl _), List.drop_of_length_le (show (cs x).length ≤ n by omega), List.take_nil]
end Eh
set_option Elab.async false
set_option linter.all false
set_option maxRecDepth 100000
set_option maxHeartbeats 4000000
namespace Eh
open PySem PySem.Spec PyProof.Rows L2
section
variable {X : Cx}
theorem call_repr_bl : CallR X (.builtin "repr") (fun xs H Q => ∃ b, xs = [.bl b] ∧ Q (.str (if b then "True" else "False")) H) := by
  intro pins s σ H xs us Q I r h
  obtain ⟨b, rfl, q⟩ := h
  cases r with
  | cons r1 rr =>
    cases rr
    cases r1
    exact PySem.P.repr_of_bool ⟨.str _, H, I.tok _, ⟨_, rfl⟩, q⟩
/-- a text so often -/
def repS (x : Str) (n : Nat) : Str := ⟨(List.replicate n x.cps).foldl (· ++ ·) #[]⟩
theorem foldl_app (l : List (Array Nat)) (a : Array Nat) : (l.foldl (· ++ ·) a).toList = a.toList ++ (l.map (·.toList)).flatten := by
  induction l generalizing a with
  | nil => simp
  | cons x r ih =>
    rw [List.foldl_cons, ih]
    simp
theorem repS_cs (x : Str) (n : Nat) : (repS x n).cps.toList = (List.replicate n x.cps.toList).flatten := by
  unfold repS
  rw [foldl_app, List.map_replicate]
  rfl
theorem op_repS : OpR X (binaryOp .Mult) (fun x y H Q => ∃ (z : Str) (n : Nat), x = .str z ∧ y = .int (n : Int) ∧ z.length ≤ 1000 ∧ n ≤ 1000 ∧ Q (.str (repS z n)) H) := by
  intro pins s σ H x y v u Q I rx ry h
  obtain ⟨z, n, rfl, rfl, hz, hn, q⟩ := h
  obtain ⟨t, rfl⟩ := rx
  obtain ⟨t', rfl⟩ := ry
  have e0 : n < 1 → repS z n = Str.empty := fun h => by
    have : n = 0 := by omega
    subst this
    rfl
  have ext : ∀ a b : Str, a.cps.toList = b.cps.toList → a = b := fun a b h => by
    cases a
    cases b
    congr 1
    exact Array.toList_inj.mp h
  have e1 : (n = 1 ∨ z.length = 0) → ¬ n < 1 → repS z n = z := fun h h1 => by
    apply ext
    rw [repS_cs]
    rcases h with h | h
    · subst h
      simp
    · have hz0 : z.cps.toList = [] := by
        have : z.cps.size = 0 := h
        exact List.eq_nil_of_length_eq_zero (by simpa using this)
      rw [hz0]
      simp
  have hm : z.length * n ≤ 1000000 := Nat.le_trans (Nat.mul_le_mul hz hn) (by decide)
  refine PySem.P.mul_str (by rw [decide_eq_false (by omega), decide_eq_false (by omega)]; rfl) (fun h1 _ => ?_) (fun h1 _ => ?_) ?_
  · have h2 : (1 : Int) ≤ n := by omega
    have h3 : (9223372036854775807 : Int) / (n : Int) ≥ 9223372036854775807 / 1000 := by
      refine Int.le_ediv_of_mul_le (by omega) ?_
      omega
    show ¬ ((z.length : Int) > (2 ^ 63 - 1) / (n : Int))
    have e2 : ((2 : Int) ^ 63 - 1) = 9223372036854775807 := by decide
    rw [e2]
    omega
  · rw [Int.toNat_natCast]
    show decide (z.length * n > sizeLine) = false
    rw [sizeLine_eq]
    exact decide_eq_false (by omega)
  · by_cases h1 : (n : Int) < 1
    · rw [if_pos h1]
      refine ⟨by decide, .str (repS z n), H, I.tok _, ⟨s.toks, ?_⟩, q⟩
      rw [e0 (by omega)]
    · rw [if_neg h1]
      by_cases h2 : ((n : Int) == 1 || z.length == 0) = true
      · rw [if_pos h2]
        have h3 : n = 1 ∨ z.length = 0 := by
          simp at h2
          omega
        have h4 := e1 h3 (by omega)
        rw [h4] at q
        exact ⟨.str z, H, I, ⟨_, rfl⟩, q⟩
      · rw [if_neg h2]
        have hl : (repS z n).length ≤ sizeLine := by
          have : (repS z n).length = n * z.length := by
            show (repS z n).cps.size = n * z.cps.size
            rw [← Array.length_toList, repS_cs]
            simp
          rw [this, sizeLine_eq, Nat.mul_comm]
          omega
        exact ⟨hl, .str (repS z n), H, I.tok _, ⟨_, rfl⟩, q⟩
/-- xs < ys, lists of ints -/
theorem firstLt_lex : ∀ (ns ms : List Int) (k : Nat) (e r : Nat → Bool), (∀ j, j < ns.length → j < ms.length → e (k + j) = decide (ns[j]? = ms[j]?)) → (∀ j, j < ns.length → j < ms.length → r (k + j) = decide (ns.getD j 0 < ms.getD j 0)) → SeqAt.firstLt e r (decide (ns.length < ms.length)) ((List.range (min ns.length ms.length)).map (k + ·)) = HT.lexLt ns ms
  | [], [], k, e, r, _, _ => rfl
  | [], y :: ms, k, e, r, _, _ => by simp [SeqAt.firstLt, HT.lexLt]
  | x :: ns, [], k, e, r, _, _ => by simp [SeqAt.firstLt, HT.lexLt]
  | x :: ns, y :: ms, k, e, r, he, hr => by
    rw [HT.lexLt_cons, List.length_cons, List.length_cons, show min (ns.length + 1) (ms.length + 1) = min ns.length ms.length + 1 by omega, List.range_succ_eq_map, List.map_cons, List.map_map]
    have e0 := he 0 (by simp) (by simp)
    have r0 := hr 0 (by simp) (by simp)
    have ih := firstLt_lex ns ms (k + 1) e r (fun j h1 h2 => by
      have := he (j + 1) (by simpa using h1) (by simpa using h2)
      rw [show k + 1 + j = k + (j + 1) by omega, this]
      simp) (fun j h1 h2 => by
      have := hr (j + 1) (by simpa using h1) (by simpa using h2)
      rw [show k + 1 + j = k + (j + 1) by omega, this]
      simp)
    by_cases h : x = y
    · rw [if_pos h, SeqAt.firstLt_yes (by rw [e0]; simp [h])]
      rw [show (decide (ns.length + 1 < ms.length + 1)) = decide (ns.length < ms.length) by simp, show ((fun x => k + x) ∘ Nat.succ) = (fun x => k + 1 + x) by funext z; show k + (z + 1) = k + 1 + z; omega]
      exact ih
    · rw [if_neg h, SeqAt.firstLt_no (by rw [e0]; simp [h]), r0]
      rfl
def rLtL (K : PySem.W.Frag) : R2 := fun x y H Q => ∃ (a b : Addr) (ns ms : List Int), x = .ref a ∧ y = .ref b ∧ SqL K H a (ns.map V.int) ∧ SqL K H b (ms.map V.int) ∧ Q (.bl (HT.lexLt ns ms)) H
theorem op_ltL (hu : X.A.units < cLine) : OpR X (compareOp .Lt) (rLtL X.K) := by
  intro pins s σ H x y v u Q I rx ry h
  obtain ⟨a, b, ns, ms, rfl, rfl, ha, hb, q⟩ := h
  cases rx
  cases ry
  obtain ⟨its, r1, p1, _⟩ := I.list ha
  obtain ⟨its2, r2, p2, _⟩ := I.list hb
  have l1 : its.length = ns.length := by
    have := r1.length
    rw [List.length_map] at this
    exact this.symm
  have l2 : its2.length = ms.length := by
    have := r2.length
    rw [List.length_map] at this
    exact this.symm
  have g1 : ∀ j (h : j < ns.length), ∃ t, its[j]'(by omega) = .int ns[j] t := fun j h => by
    obtain ⟨u, hu, t, ru⟩ := r1.get (i := j) (show (ns.map V.int)[j]? = some (.int ns[j]) by rw [List.getElem?_map, List.getElem?_eq_getElem h]; rfl)
    obtain ⟨_, e⟩ := List.getElem?_eq_some_iff.mp hu
    exact ⟨t, e.trans ru⟩
  have g2 : ∀ j (h : j < ms.length), ∃ t, its2[j]'(by omega) = .int ms[j] t := fun j h => by
    obtain ⟨u, hu, t, ru⟩ := r2.get (i := j) (show (ms.map V.int)[j]? = some (.int ms[j]) by rw [List.getElem?_map, List.getElem?_eq_getElem h]; rfl)
    obtain ⟨_, e⟩ := List.getElem?_eq_some_iff.mp hu
    exact ⟨t, e.trans ru⟩
  have key := SeqAt.RcLt.lists (A := X.A) (s := s) (e := fun j => decide (ns[j]? = ms[j]?)) (r := fun j => decide (ns.getD j 0 < ms.getD j 0)) p1.isList p2.isList hu (fun j h1 h2 => ?_) (fun j h1 h2 hj => ?_)
  · have e : SeqAt.firstLt (fun j => decide (ns[j]? = ms[j]?)) (fun j => decide (ns.getD j 0 < ms.getD j 0)) (decide (its.toArray.size < its2.toArray.size)) (List.range (min its.toArray.size its2.toArray.size)) = HT.lexLt ns ms := by
      have := firstLt_lex ns ms 0 (fun j => decide (ns[j]? = ms[j]?)) (fun j => decide (ns.getD j 0 < ms.getD j 0)) (fun j _ _ => by rw [Nat.zero_add]) (fun j _ _ => by rw [Nat.zero_add])
      rw [← this]
      simp [l1, l2]
    rw [e] at key
    exact key _ _ _ _ ⟨.bl _, H, I, rfl, q⟩
  · have h1' : j < ns.length := by simpa [l1] using h1
    have h2' : j < ms.length := by simpa [l2] using h2
    obtain ⟨t1, e1⟩ := g1 j h1'
    obtain ⟨t2, e2⟩ := g2 j h2'
    have e3 : its.toArray[j] = .int ns[j] t1 := by simpa using e1
    have e4 : its2.toArray[j] = .int ms[j] t2 := by simpa using e2
    rw [e3, e4]
    have := SeqAt.EqAt.int_int (A := X.A.in1) (s := s) ns[j] t1 ms[j] t2
    have e5 : decide (ns[j]? = ms[j]?) = (ns[j] == ms[j]) := by
      rw [List.getElem?_eq_getElem h1', List.getElem?_eq_getElem h2']
      by_cases z : ns[j] = ms[j] <;> simp [z]
    simp only [e5]
    exact this
  · have h1' : j < ns.length := by simpa [l1] using h1
    have h2' : j < ms.length := by simpa [l2] using h2
    obtain ⟨t1, e1⟩ := g1 j h1'
    obtain ⟨t2, e2⟩ := g2 j h2'
    have e3 : its.toArray[j] = .int ns[j] t1 := by simpa using e1
    have e4 : its2.toArray[j] = .int ms[j] t2 := by simpa using e2
    rw [e3, e4]
    have e5 : decide (ns.getD j 0 < ms.getD j 0) = decide (ns[j] < ms[j]) := by
      rw [List.getD_eq_getElem?_getD, List.getD_eq_getElem?_getD, List.getElem?_eq_getElem h1', List.getElem?_eq_getElem h2']
      rfl
    simp only [e5]
    intro prog w E Q hq
    exact HT.rcLt_int _ _ _ _ _ _ prog w E Q hq
end
end Eh
set_option Elab.async false
set_option linter.all false
set_option maxRecDepth 100000
set_option maxHeartbeats 4000000
namespace Eh
open PySem PySem.Spec PyProof.Rows L2 Evl
abbrev lS (ws : List Str) : HO := .lst (ws.map V.str)
abbrev nLetters : List Str := ["pot", "many", "small", "k", "rest", "spot", "turn", "size", "found", "part", "at"]
theorem yesT {σ : L2.St} {H : Hp} {A B : Hp → Prop} (h : A H) : tYes σ H (fun b H3 => if b = true then A H3 else B H3) := by
  show if true = true then A H else B H
  exact iteT h
theorem Pot.ne_new {p c q : Addr} {ns : List Int} {H : Hp} (h : Pot p c ns H) (hq : H q = none) : p ≠ q ∧ c ≠ q := by
  obtain ⟨a, r, h0, h1, h2⟩ := h
  exact ⟨ne_of_none h1 hq, ne_of_none h2 hq⟩
/-! one sign so often -/
def mk3 (turn k : Nat) : Str := repS ⟨#[97 + (turn + 5 * (k / 6)) % 26]⟩ (1 + k % 6)
theorem cs_mk3 (turn k : Nat) : cs (mk3 turn k) = List.replicate (1 + k % 6) (97 + (turn + 5 * (k / 6)) % 26) := by
  show (mk3 turn k).cps.toList = _
  unfold mk3
  rw [repS_cs]
  show (List.replicate (1 + k % 6) [97 + (turn + 5 * (k / 6)) % 26]).flatten = _
  generalize 1 + k % 6 = n
  induction n with
  | zero => rfl
  | succ n ih =>
    rw [List.replicate_succ, List.replicate_succ, List.flatten_cons, ih]
    rfl
theorem mk3_inj {turn k1 k2 : Nat} (h1 : k1 < 26) (h2 : k2 < 26) (h : mk3 turn k1 = mk3 turn k2) : k1 = k2 := by
  have e := congrArg cs h
  rw [cs_mk3, cs_mk3] at e
  have l := congrArg List.length e
  rw [List.length_replicate, List.length_replicate] at l
  have c : (List.replicate (1 + k1 % 6) (97 + (turn + 5 * (k1 / 6)) % 26))[0]? = (List.replicate (1 + k2 % 6) (97 + (turn + 5 * (k2 / 6)) % 26))[0]? := by rw [e]
  rw [List.getElem?_replicate, List.getElem?_replicate, if_pos (by omega), if_pos (by omega)] at c
  have c' := Option.some.inj c
  omega
theorem mk3_ltr (turn k : Nat) : Ltr (mk3 turn k) := by
  refine ⟨fun c hc => ?_, ?_, ?_⟩
  · rw [cs_mk3] at hc
    rw [List.eq_of_mem_replicate hc]
    unfold az
    omega
  · rw [cs_mk3, List.length_replicate]
    omega
  · rw [cs_mk3, List.length_replicate]
    omega
def all3 (turn n : Nat) : List Str := (List.range n).map (mk3 turn)
theorem all3_nodup {turn n : Nat} (h : n ≤ 26) : (all3 turn n).Nodup := by
  unfold all3
  refine List.pairwise_map.mpr (List.Pairwise.imp_of_mem ?_ List.nodup_range)
  intro a b ha hb hne e
  exact hne (mk3_inj (by have := List.mem_range.mp ha; omega) (by have := List.mem_range.mp hb; omega) e)
theorem Keep.back {p q : Addr} {H H' : Hp} (k : Keep p H H') (hq : q ≠ p) (h : H' q = none) : H q = none := by
  cases e : H q with
  | none => rfl
  | some o =>
    rw [k q o hq e] at h
    cases h
section
variable {P : Program} {w : World} {K : PySem.W.Frag} {mg : Str → Option Value} {base : Heap}
def spLetters : Sp := fun vs H Q _ => ∃ (p c : Addr) (ns : List Int) (m : Nat), vs = [.ref p, .int (m : Int)] ∧ m ≤ 26 ∧ Pot p c ns H ∧
  ∀ (ws : List Str) l H', ws.length = m → ws.Nodup → (∀ x ∈ ws, Ltr x) → Keep p H H' → Pot p c ns H' → H l = none → H' l = some (lS ws) → Q (.ref l) H'
theorem ok_letters {f fP : Addr} {fd fdP : FuncData} {k : Nat} (F : Fun K "_law_letters" "_law_letters" sLetters f fd) (FP : Fun K "_law_pick" "_law_pick" sPick fP fdP) (GP : FnOk P w K mg base CX0 (k + 1) fP fdP ["pot", "many"] spPick) (bP : Binds K fdP ["pot", "many"] []) (gP : mg "_law_pick" = some (.ref fP)) (ml : mg "len" = none) (mr : mg "range" = none) :
    FnOk P w K mg base CX0 (k + 2) f fd ["pot", "many"] spLetters := by
  have nd := scLetters.nd
  refine F.ok scLetters (fun vs H Q E h => ?_) (fun cdv A outer s H vs Q E hr h => ?_)
  · obtain ⟨p, c, ns, m, rfl, _⟩ := h
    rfl
  · obtain ⟨p, c, ns, m, rfl, m1, hP, q⟩ := h
    refine ⟨_, pss_cons (ps_set (i := 2) nd rfl (.inr rfl) pe_str)
      (pss_cons (ps_set (i := 4) nd rfl (.inl rfl) (pe_join pe_str (pe_lc (own := [("k", 3)]) (g := gName 3) (tt := tYes) (by rfl) nd (pi_range1 (by rfl) mr (pa_cons pe_int pa_nil)) (blkOk_by (own := [("k", 3)]) (N := nLetters) (sc := defScope sLetters) (by decide +kernel)) (fun _ _ _ _ _ => pg_name (i := 3) nd rfl (Or.inl rfl)) (fun _ _ _ _ _ => pts_nil)
          (fun _ _ _ _ _ => pe_ix ix_str (pv 2) (pe_call GP hr (by rfl) gP FP.kp bP .nil pass0 (pa_cons (pv 0) (pa_cons pe_int pa_nil))) (fun _ _ => rfl)))))
      (pss_cons (ps_set (i := 5) nd rfl (.inl rfl) (pe_call GP hr (by rfl) gP FP.kp bP .nil pass0 (pa_cons (pv 0) (pa_cons pe_int pa_nil))))
      (pss_cons (ps_set (i := 6) nd rfl (.inr rfl) (pe_call GP hr (by rfl) gP FP.kp bP .nil pass0 (pa_cons (pv 0) (pa_cons pe_int pa_nil))))
      (pss_cons (ps_set (i := 7) nd rfl (.inl rfl) (pe_call GP hr (by rfl) gP FP.kp bP .nil pass0 (pa_cons (pv 0) (pa_cons pe_int pa_nil))))
      (pss_cons (ps_if (pt_cmpR op_eq (pv 5) pe_int (nomark _)) (pss_one (ps_ret (pe_lc (own := [("k", 3)]) (g := gName 3) (tt := tYes) (by rfl) nd (pi_range1 (by rfl) mr (pa_cons (pv 1) pa_nil)) (blkOk_by (own := [("k", 3)]) (N := nLetters) (sc := defScope sLetters) (by decide +kernel)) (fun _ _ _ _ _ => pg_name (i := 3) nd rfl (Or.inl rfl)) (fun _ _ _ _ _ => pts_nil)
          (fun _ _ _ _ _ => pe_op op_repS (pe_ix ix_str (pv 2) (pe_op op_mod (pe_op op_add (pv 6) (pe_op op_mul pe_int (pe_op op_fdiv (pv 3) pe_int))) pe_int) (fun _ _ => rfl)) (pe_op op_add pe_int (pe_op op_mod (pv 3) pe_int)))))) pss_nil)
      (pss_cons (ps_set (i := 8) nd rfl (.inl rfl) (pe_lst pa_nil))
      (pss_cons (ps_for PassesOwn.never rfl (pi_range1 (by rfl) mr (pa_cons (pv 1) pa_nil)) (pg_name (i := 3) nd rfl (.inl rfl))
        (pss_cons (ps_set (i := 9) nd rfl (.inl rfl) (pe_slice sl_str (pv 4) po_none (po_some (pe_op op_mod (pe_op op_add (pv 7) (pe_op op_mul (pv 3) (pe_op op_mod (pv 5) pe_int))) pe_int))))
        (pss_cons (ps_set (i := 10) nd rfl (.inl rfl) (pe_ix ix_list (pe_lst (pa_cons pe_int (pa_cons (pe_callB call_len_str (by rfl) ml PySem.boot_len (pa_cons (pv 9) pa_nil)) (pa_cons (pe_op op_fdiv (pe_callB call_len_str (by rfl) ml PySem.boot_len (pa_cons (pv 9) pa_nil)) pe_int) pa_nil)))) (pv 5) (fun _ _ => rfl)))
        (pss_one (ps_expr (pe_bm PySem.F.plainAttrs_list PySem.F.slot_list_append PySem.F.type_list_append mt_append (pv 8) (pa_cons (pe_op op_add_str (pe_op op_add_str (pe_slice sl_str (pv 9) po_none (po_some (pv 10))) (pe_ix ix_str (pv 2) (pe_op op_mod (pe_op op_add (pv 6) (pe_op op_mul pe_int (pv 3))) pe_int) (fun _ _ => rfl))) (pe_slice sl_str (pv 9) (po_some (pv 10)) po_none)) pa_nil)))))))
      (pss_one (ps_ret (pv 8)))))))))), ?_⟩
    -- rest
    refine ⟨⟨_, rfl⟩, 7, rfl, by decide, by decide, fun D nD => ?_⟩
    refine lc_range (lo := 0) (n := 7) (fun i H' => ∃ ds : List Nat, ds.length = i ∧ (∀ d ∈ ds, az d) ∧ H' D = some (.lst (ds.map fun d => .str ⟨#[d]⟩)) ∧ Keep p H H' ∧ Pot p c ns H') ?_ ?_ ?_
    · exact ⟨[], rfl, fun d hd => (List.not_mem_nil hd).elim, upd_same, (Keep.refl p H).new nD, hP.new (hP.ne_new nD).1 (hP.ne_new nD).2⟩
    · rintro i H' hi ⟨ds, hds, haz, hD, kp, hP'⟩
      refine ⟨rfl, ?_⟩
      refine yesT ?_
      refine ⟨_, rfl, _, rfl, p, c, ns, 26, rfl, by decide, by decide, hP', fun v H2 hv kp2 hP2 => ?_⟩
      have hv' : v < 26 := by omega
      have hpD := (hP.ne_new nD).1
      have hD2 : H2 D = some (.lst (ds.map fun d => .str ⟨#[d]⟩)) := kp2 _ _ hpD.symm hD
      refine ⟨_, _, 97 + v, rfl, rfl, by decide, alpha_at hv', _, hD2, ?_, ds ++ [97 + v], ?_, ?_, ?_, ?_, ?_⟩
      · rw [List.length_map]
        exact sz_lt (by omega)
      · rw [List.length_append, hds]
        rfl
      · intro d hd
        rcases List.mem_append.mp hd with z | z
        · exact haz d z
        · rw [List.mem_singleton.mp z]
          unfold az
          omega
      · rw [upd_same, List.map_append]
        rfl
      · exact (kp.trans kp2).new nD
      · exact hP2.new hpD (hP.ne_new nD).2
    · rintro H1 ⟨ds, hds, haz, hD, kp, hP1⟩
      have hlen : ((ds.map fun d => (⟨#[d]⟩ : Str)).map (·.length)).sum ≤ 100 := by
        have : ∀ l : List Nat, ((l.map fun d => (⟨#[d]⟩ : Str)).map (·.length)).sum = l.length := fun l => by
          induction l with
          | nil => rfl
          | cons x r ih =>
            rw [List.map_cons, List.map_cons, List.sum_cons, ih, List.length_cons, show (⟨#[x]⟩ : Str).length = 1 from rfl]
            omega
        rw [this]
        omega
      refine ⟨_, D, ds.map fun d => (⟨#[d]⟩ : Str), rfl, rfl, .inl (sq_of (by rw [List.map_map]; exact hD)), ?_, ?_⟩
      · rw [List.length_map, show (Str.ofString "").length = 0 from rfl]
        omega
      · generalize hR : Txt.join (Str.ofString "") (ds.map fun d => (⟨#[d]⟩ : Str)) = rest
        have cR : cs rest = ds := by
          rw [← hR]
          exact cs_join ds
        -- spot, turn, size
        refine ⟨_, rfl, p, c, ns, 4, rfl, by decide, by decide, hP1, fun spot H2 hspot4 kp2 hP2 => ?_⟩
        refine ⟨_, rfl, p, c, ns, 26, rfl, by decide, by decide, hP2, fun turn H3 hturn kp3 hP3 => ?_⟩
        refine ⟨_, rfl, p, c, ns, 8, rfl, by decide, by decide, hP3, fun size H4 hsize kp4 hP4 => ?_⟩
        have kp04 : Keep p H H4 := ((kp.trans kp2).trans kp3).trans kp4
        refine ⟨_, rfl, rfl, _, rfl, ite2 (fun h3 => ?_) (fun h3 => ?_)⟩
        · refine ⟨_, rfl, m, rfl, by omega, by omega, fun l nl => ?_⟩
          have hpl := hP4.ne_new nl
          have nlH : H l = none := Keep.back kp04 hpl.1.symm nl
          refine lc_range (lo := 0) (n := ((m : Int)).toNat) (fun i H' => H' = upd H4 l (lS (all3 turn i))) rfl ?_ ?_
          · rintro i H' hi rfl
            have hlt : (turn + 5 * (i / 6)) % 26 < 26 := Nat.mod_lt _ (by decide)
            have e0 : (0 : Int) + (i : Int) = (i : Int) := Int.zero_add _
            rw [e0]
            have e2 : ((turn : Int) + 5 * ((i : Int) / 6)) % 26 = (((turn + 5 * (i / 6)) % 26 : Nat) : Int) := by omega
            have hat : atI (cs alpha) (((turn : Int) + 5 * ((i : Int) / 6)) % 26) = some (97 + (turn + 5 * (i / 6)) % 26) := by
              rw [e2]
              exact alpha_at hlt
            refine ⟨rfl, yesT ⟨_, rfl, _, rfl, _, rfl, _, _, rfl, rfl, ⟨by decide, by decide⟩, _, _, rfl, rfl, .inl ⟨by decide, by decide⟩, _, _, rfl, rfl, _, _, rfl, rfl, (by show (0 : Int) < _; decide), _, _, _, rfl, rfl, by decide, hat, _, rfl, _, _, rfl, rfl, (by show (0 : Int) < _; decide), _, _, rfl, rfl, _, 1 + i % 6, rfl, ?_, (by show 1 ≤ 1000; decide), by omega, _, upd_same, ?_, ?_⟩⟩
            · show V.int (1 + (i : Int) % 6) = V.int ((1 + i % 6 : Nat) : Int)
              congr 1
            · rw [List.length_map]
              unfold all3
              rw [List.length_map, List.length_range]
              exact sz_lt (by omega)
            · funext b
              by_cases hb : b = l
              · rw [hb, upd_same, upd_same]
                unfold lS all3
                rw [List.range_succ, List.map_append, List.map_append]
                rfl
              · rw [upd_ne hb, upd_ne hb, upd_ne hb]
          · rintro H' rfl
            rw [Int.toNat_natCast]
            refine q (all3 turn m) l _ ?_ (all3_nodup m1) (fun x hx => ?_) (kp04.new nlH) (hP4.new hpl.1 hpl.2) nlH upd_same
            · unfold all3
              rw [List.length_map, List.length_range]
            · unfold all3 at hx
              obtain ⟨k, _, rfl⟩ := List.mem_map.mp hx
              exact mk3_ltr turn k
        have hspot : (spot : Int) < 3 := by
          have : spot ≠ 3 := fun z => h3 (by rw [z]; rfl)
          omega
        refine ⟨Nat.zero_le _, fun l nl => ?_⟩
        have hpl := hP4.ne_new nl
        have nlH : H l = none := by
          cases e : H l with
          | none => rfl
          | some o =>
            by_cases z : l = p
            · exact absurd z.symm hpl.1
            · rw [kp04 l o z e] at nl
              cases nl
        refine ⟨_, rfl, m, rfl, by omega, by omega, for_range (lo := 0) (n := ((m : Int)).toNat) (fun i σ H' => (∃ y3 y9 y10, σ = [some (.ref p), some (.int (m : Int)), some (.str alpha), y3, some (.str rest), some (.int (spot : Int)), some (.int (turn : Int)), some (.int (size : Int)), some (.ref l), y9, y10]) ∧ Keep p H H' ∧ Pot p c ns H' ∧ H' l = some (lS (mkAll (cs rest) spot turn size i))) ?_ ?_ ?_⟩
        · exact ⟨⟨_, _, _, rfl⟩, kp04.new nlH, hP4.new hpl.1 hpl.2, upd_same⟩
        · rintro i σ H' hi ⟨⟨y3, y9, y10, rfl⟩, kp', hP', hl'⟩
          have hi' : i < m := by omega
          have e0 : (0 : Int) + (i : Int) = (i : Int) := Int.zero_add _
          rw [e0]
          have e1 : ((size : Int) + (i : Int) * ((spot : Int) % 2)) % 8 = (((size + i * (spot % 2)) % 8 : Nat) : Int) := by
            rw [show ((spot : Int) % 2) = ((spot % 2 : Nat) : Int) by omega, ← Int.natCast_mul]
            generalize i * (spot % 2) = z
            omega
          have lenR : rest.length ≤ sizeLine := sz_of (by rw [len_cs, cR]; omega)
          refine ⟨_, rfl, _, rfl, _, rfl, _, rfl, _, _, rfl, rfl, (by show (0 : Int) < _; decide), _, _, rfl, rfl, .inr (by rcases (show spot % 2 = 0 ∨ spot % 2 = 1 by omega) with z | z <;> exact ⟨by show -(2 ^ 64) < (spot : Int) % 2; omega, by show (spot : Int) % 2 < 2 ^ 64; omega⟩), _, _, rfl, rfl, _, _, rfl, rfl, (by show (0 : Int) < _; decide), _, rfl, rest, rfl, lenR, ?_⟩
          show tSeq _ _ _ [some (.ref p), some (.int (m : Int)), some (.str alpha), some (.int (i : Int)), some (.str rest), some (.int (spot : Int)), some (.int (turn : Int)), some (.int (size : Int)), some (.ref l), some (.str (cutS rest none (some (((size : Int) + (i : Int) * ((spot : Int) % 2)) % 8)))), y10] H'
          rw [e1]
          have cP := cs_cut0 rest ((size + i * (spot % 2)) % 8)
          generalize cutS rest none (some (((size + i * (spot % 2)) % 8 : Nat) : Int)) = part at cP
          have lp : part.length ≤ 8 := by
            rw [len_cs, cP, List.length_take, cR]
            omega
          have lpS : part.length ≤ sizeLine := sz_of (by omega)
          -- at
          refine ⟨_, rfl, part, rfl, lpS, _, rfl, part, rfl, lpS, _, _, rfl, rfl, ⟨by decide, by decide⟩, (by show 3 ≤ sizeLine; decide), fun t nt => ?_⟩
          have eT : Ex H' (upd H' t (.lst [.int 0, .int (part.length : Int), .int ((part.length : Int) / 2)])) := Ex.new nt
          refine ⟨_, rfl, t, _, _, .int (spotAt spot part.length : Nat), rfl, rfl, sq_of upd_same, at_of (j := spot) rfl ?_, ?_⟩
          · rcases (show spot = 0 ∨ spot = 1 ∨ spot = 2 by omega) with rfl | rfl | rfl
            · rfl
            · rfl
            · show some (V.int ((part.length : Int) / 2)) = some (V.int ((part.length / 2 : Nat) : Int))
              rw [show ((part.length / 2 : Nat) : Int) = (part.length : Int) / 2 by omega]
          -- append
          · have e2 : ((turn : Int) + 5 * (i : Int)) % 26 = (((turn + 5 * i) % 26 : Nat) : Int) := by omega
            have hlt : (turn + 5 * i) % 26 < 26 := Nat.mod_lt _ (by decide)
            have hat : atI (cs alpha) (((turn : Int) + 5 * (i : Int)) % 26) = some (97 + (turn + 5 * i) % 26) := by
              rw [e2]
              exact alpha_at hlt
            have hl2 := eT _ _ hl'
            have c1 := cs_cut0 part (spotAt spot part.length)
            have c2 := cs_cutF part (spotAt spot part.length)
            have k1 : (cutS part none (some ((spotAt spot part.length : Nat) : Int))).length ≤ 8 := by
              rw [len_cs, c1, List.length_take, ← len_cs]
              omega
            have k2 : (cutS part (some ((spotAt spot part.length : Nat) : Int)) none).length ≤ 8 := by
              rw [len_cs, c2, List.length_drop, ← len_cs]
              omega
            refine ⟨_, rfl, .inl ⟨rfl, _, sq_of hl2⟩, _, rfl, _, rfl, _, rfl, part, rfl, lpS, _, rfl, _, rfl, _, rfl, _, _, rfl, rfl, .inl ⟨by decide, by decide⟩, _, _, rfl, rfl, _, _, rfl, rfl, (by show (0 : Int) < _; decide), _, _, _, rfl, rfl, by decide, hat, _, _, rfl, rfl, ?_, _, rfl, _, rfl, _, rfl, part, rfl, lpS, _, _, rfl, rfl, ?_, l, _, _, rfl, rfl, hl2, ?_, ⟨_, _, _, rfl⟩, ?_, ?_, ?_⟩
            · exact sz_of (by
                have : (⟨#[97 + (turn + 5 * i) % 26]⟩ : Str).length = 1 := rfl
                omega)
            · exact sz_of (by
                rw [len_cs, cs_app, List.length_append, ← len_cs, ← len_cs]
                have : (⟨#[97 + (turn + 5 * i) % 26]⟩ : Str).length = 1 := rfl
                omega)
            · rw [List.length_map]
              exact sz_lt (by unfold mkAll; rw [List.length_map, List.length_range]; omega)
            · exact (kp'.trans (Keep.ofEx eT)).new nlH
            · exact (hP'.ex eT).new hpl.1 hpl.2
            · rw [upd_same]
              have e3 : cutS part none (some ((spotAt spot part.length : Nat) : Int)) ++ (⟨#[97 + (turn + 5 * i) % 26]⟩ : Str) ++ cutS part (some ((spotAt spot part.length : Nat) : Int)) none = mkS (cs rest) spot turn size i := by
                apply cs_ext
                rw [cs_app, cs_app, c1, c2, cs_mkS, len_cs, cP, List.append_assoc]
                rfl
              rw [e3]
              unfold lS mkAll
              rw [List.range_succ, List.map_append, List.map_append]
              rfl
        · rintro σ H' ⟨⟨y3, y9, y10, rfl⟩, kp', hP', hl'⟩
          refine ⟨_, rfl, q (mkAll (cs rest) spot turn size m) l H' ?_ (mkAll_nodup (by omega) m1) (mkAll_ltr (by rw [cR]; exact haz)) kp' hP' nlH ?_⟩
          · unfold mkAll
            rw [List.length_map, List.length_range]
          · rw [Int.toNat_natCast] at hl'
            exact hl'
end
end Eh
set_option Elab.async false
set_option linter.all false
set_option maxRecDepth 100000
set_option maxHeartbeats 4000000
namespace Eh
open PySem PySem.Spec PyProof.Rows L2 Evl
/-- a sheet: its opens, plains, closes -/
structure Sht (os ps qs : List Str) : Prop where
  nd : (os ++ ps ++ qs).Nodup
  lt : ∀ x ∈ os ++ ps ++ qs, Ltr x
  o1 : 1 ≤ os.length
  o4 : os.length ≤ 4
  p4 : ps.length ≤ 4
  c1 : 1 ≤ qs.length
  c4 : qs.length ≤ 4
def SheetAt (H : Hp) (s : Addr) (os ps qs : List Str) : Prop := ∃ ao ap ac, H s = some (.tup [.ref ao, .ref ap, .ref ac]) ∧ H ao = some (.tup (os.map V.str)) ∧ H ap = some (.tup (ps.map V.str)) ∧ H ac = some (.tup (qs.map V.str))
theorem Pot.ne_tup {p c a : Addr} {ns : List Int} {H : Hp} {xs : List V} (h : Pot p c ns H) (ha : H a = some (.tup xs)) : a ≠ p := fun e => by
  obtain ⟨_, _, _, h1, _⟩ := h
  rw [e, h1] at ha
  cases ha
theorem SheetAt.ex {H H' : Hp} {s : Addr} {os ps qs : List Str} (h : SheetAt H s os ps qs) (e : Ex H H') : SheetAt H' s os ps qs := by
  obtain ⟨ao, ap, ac, h0, h1, h2, h3⟩ := h
  exact ⟨ao, ap, ac, e _ _ h0, e _ _ h1, e _ _ h2, e _ _ h3⟩
theorem SheetAt.keep {H H' : Hp} {s p c : Addr} {ns : List Int} {os ps qs : List Str} (h : SheetAt H s os ps qs) (hP : Pot p c ns H) (k : Keep p H H') : SheetAt H' s os ps qs := by
  obtain ⟨ao, ap, ac, h0, h1, h2, h3⟩ := h
  exact ⟨ao, ap, ac, k _ _ (hP.ne_tup h0) h0, k _ _ (hP.ne_tup h1) h1, k _ _ (hP.ne_tup h2) h2, k _ _ (hP.ne_tup h3) h3⟩
theorem rot_nodup {L : List Str} (t : Nat) (h : L.Nodup) : (L.drop t ++ L.take t).Nodup := by
  refine (List.perm_append_comm.nodup_iff).mp ?_
  rw [List.take_append_drop]
  exact h
theorem rot_mem {L : List Str} {t : Nat} {x : Str} (h : x ∈ L.drop t ++ L.take t) : x ∈ L := by
  rcases List.mem_append.mp h with q | q
  · exact List.mem_of_mem_drop q
  · exact List.mem_of_mem_take q
theorem sub12 {L : List Str} {a b d : Nat} (ha : a ≤ 4) (hb : b ≤ 4) : ((L.take a) ++ (L.take (4 + b)).drop 4 ++ (L.take (8 + d)).drop 8).Sublist L := by
  have e : L = L.take 4 ++ (L.take 8).drop 4 ++ L.drop 8 := by
    have e1 : L.take 4 ++ (L.take 8).drop 4 = L.take 8 := by
      have := List.take_append_drop 4 (L.take 8)
      rw [List.take_take] at this
      exact this
    rw [e1, List.take_append_drop]
  have s1 : (L.take a).Sublist (L.take 4) := by
    have : L.take a = (L.take 4).take a := by rw [List.take_take, Nat.min_eq_left ha]
    rw [this]
    exact List.take_sublist _ _
  have s2 : ((L.take (4 + b)).drop 4).Sublist ((L.take 8).drop 4) := by
    refine List.Sublist.drop ?_ 4
    have : L.take (4 + b) = (L.take 8).take (4 + b) := by rw [List.take_take, Nat.min_eq_left (by omega)]
    rw [this]
    exact List.take_sublist _ _
  have s3 : ((L.take (8 + d)).drop 8).Sublist (L.drop 8) := List.Sublist.drop (List.take_sublist _ _) 8
  have := (s1.append s2).append s3
  rw [← e] at this
  exact this
theorem sht_of {L : List Str} (hn : L.Nodup) (hl : ∀ x ∈ L, Ltr x) (h12 : L.length = 12) {a b d : Nat} (a1 : 1 ≤ a) (a4 : a ≤ 4) (b4 : b ≤ 4) (d1 : 1 ≤ d) (d4 : d ≤ 4) : Sht (L.take a) ((L.take (4 + b)).drop 4) ((L.take (8 + d)).drop 8) := by
  refine ⟨(sub12 a4 b4).nodup hn, fun x hx => hl x ((sub12 a4 b4).subset hx), ?_, ?_, ?_, ?_, ?_⟩ <;> simp only [List.length_take, List.length_drop, h12] <;> omega
theorem menu1 {v : Nat} (h : v < 5) : ∃ x : Nat, ([.int 1, .int 1, .int 2, .int 2, .int 4] : List V)[v]? = some (.int (x : Int)) ∧ 1 ≤ x ∧ x ≤ 4 := by
  rcases (show v = 0 ∨ v = 1 ∨ v = 2 ∨ v = 3 ∨ v = 4 by omega) with rfl | rfl | rfl | rfl | rfl
  · exact ⟨1, rfl, by omega⟩
  · exact ⟨1, rfl, by omega⟩
  · exact ⟨2, rfl, by omega⟩
  · exact ⟨2, rfl, by omega⟩
  · exact ⟨4, rfl, by omega⟩
theorem menu0 {v : Nat} (h : v < 5) : ∃ x : Nat, ([.int 0, .int 1, .int 1, .int 2, .int 4] : List V)[v]? = some (.int (x : Int)) ∧ x ≤ 4 := by
  rcases (show v = 0 ∨ v = 1 ∨ v = 2 ∨ v = 3 ∨ v = 4 by omega) with rfl | rfl | rfl | rfl | rfl
  · exact ⟨0, rfl, by omega⟩
  · exact ⟨1, rfl, by omega⟩
  · exact ⟨1, rfl, by omega⟩
  · exact ⟨2, rfl, by omega⟩
  · exact ⟨4, rfl, by omega⟩
theorem minI (m x : Nat) : (if (x : Int) < (m : Int) then (x : Int) else (m : Int)) = ((min m x : Nat) : Int) := by
  split <;> omega
theorem map_cut0 (L : List Str) (n : Nat) : cutV (L.map V.str) none (some (n : Int)) = (L.take n).map V.str := by rw [cut0, List.map_take]
theorem map_cutF (L : List Str) (n : Nat) : cutV (L.map V.str) (some (n : Int)) none = (L.drop n).map V.str := by rw [cutF, List.map_drop]
theorem map_cutLH (L : List Str) (n m : Nat) : cutV (L.map V.str) (some (n : Int)) (some (m : Int)) = ((L.take m).drop n).map V.str := by rw [cutLH, List.map_drop, List.map_take]
theorem lS_ne {p c l : Addr} {ns : List Int} {H : Hp} {ws : List Str} (h : Pot p c ns H) (hl : H l = some (lS ws)) : l ≠ p := fun e => by
  obtain ⟨_, _, _, h1, _⟩ := h
  rw [e, h1] at hl
  injection hl with hl
  injection hl with hl
  cases ws <;> cases hl
theorem menu_rd {K : PySem.W.Frag} {p c : Addr} {ns : List Int} {H : Hp} {σ : L2.St} {xs : List V} {Q : VK} {ta : TA} {n : Int} (hP : Pot p c ns H) (hσ : σ[0]? = some (some (.ref p))) (n0 : 0 < n) (n1 : n < 1073741824) (hta : ∀ Q : List V → Hp → Prop, Q xs H → ta σ H Q) (hxs : xs.length ≤ 1000)
    (k : ∀ (v : Nat) H', (v : Int) < n → Keep p H H' → Pot p c ns H' → ∃ z, xs[v]? = some z ∧ Q z H') : tOp (rIxL K) (tLst ta) (tCall spPick [] E0 (tCons (tVar 0) (tCons (tC (.int n)) tNil))) σ H Q := by
  refine hta _ ⟨sz_of (by omega), fun t nt => ⟨_, hσ, p, c, ns, n, rfl, n0, n1, hP.ex (Ex.new nt), fun v H5 hv kp5 hP5 => ?_⟩⟩
  obtain ⟨z, hz, q⟩ := k v H5 hv ((Keep.ofEx (Ex.new nt)).trans kp5) hP5
  exact ⟨t, xs, (v : Int), z, rfl, rfl, sq_of (kp5 _ _ (hP.ne_new nt).1.symm upd_same), atI_nat hz, q⟩
section
variable {P : Program} {w : World} {K : PySem.W.Frag} {mg : Str → Option Value} {base : Heap}
def spSheet : Sp := fun vs H Q _ => ∃ (p c : Addr) (ns : List Int) (m : Nat), vs = [.ref p, .int (m : Int)] ∧ 1 ≤ m ∧ m ≤ 4 ∧ Pot p c ns H ∧
  ∀ (os ps qs : List Str) s H', Sht os ps qs → SheetAt H' s os ps qs → Keep p H H' → Pot p c ns H' → Q (.ref s) H'
theorem ok_sheet {f fP fL : Addr} {fd fdP fdL : FuncData} {k : Nat} (F : Fun K "_law_sheet" "_law_sheet" sSheet f fd) (FP : Fun K "_law_pick" "_law_pick" sPick fP fdP) (GP : FnOk P w K mg base CX0 (k + 1) fP fdP ["pot", "many"] spPick) (bP : Binds K fdP ["pot", "many"] []) (gP : mg "_law_pick" = some (.ref fP))
    (FL : Fun K "_law_letters" "_law_letters" sLetters fL fdL) (GL : FnOk P w K mg base CX0 (k + 2) fL fdL ["pot", "many"] spLetters) (bL : Binds K fdL ["pot", "many"] []) (gL : mg "_law_letters" = some (.ref fL)) (mm : mg "min" = none) (mt : mg "tuple" = none) :
    FnOk P w K mg base CX0 (k + 3) f fd ["pot", "most"] spSheet := by
  have nd := scSheet.nd
  refine F.ok scSheet (fun vs H Q E h => ?_) (fun cdv A outer s H vs Q E hr h => ?_)
  · obtain ⟨p, c, ns, m, rfl, _⟩ := h
    rfl
  · obtain ⟨p, c, ns, m, rfl, m1, m4, hP, q⟩ := h
    have hr1 : Room (k + 1) _ := hr.mono (Nat.le_succ _)
    refine ⟨_, pss_cons (ps_set (i := 2) nd rfl (.inl rfl) (pe_call GL hr (by rfl) gL FL.kp bL .nil pass0 (pa_cons (pv 0) (pa_cons pe_int pa_nil))))
      (pss_cons (ps_set (i := 3) nd rfl (.inl rfl) (pe_call GP hr1 (by rfl) gP FP.kp bP .nil pass0 (pa_cons (pv 0) (pa_cons pe_int pa_nil))))
      (pss_cons (ps_set (i := 2) nd rfl (.inl rfl) (pe_op op_cat (pe_slice sl_list (pv 2) (po_some (pv 3)) po_none) (pe_slice sl_list (pv 2) po_none (po_some (pv 3)))))
      (pss_cons (ps_set (i := 4) nd rfl (.inl rfl) (pe_slice sl_list (pv 2) po_none (po_some (pe_callB (call_min2 rfl) (by rfl) mm (by decide +kernel) (pa_cons (pv 1) (pa_cons (pe_ix ix_list (pe_lst (pa_cons pe_int (pa_cons pe_int (pa_cons pe_int (pa_cons pe_int (pa_cons pe_int pa_nil)))))) (pe_call GP hr1 (by rfl) gP FP.kp bP .nil pass0 (pa_cons (pv 0) (pa_cons pe_int pa_nil))) (fun _ _ => rfl)) pa_nil))))))
      (pss_cons (ps_set (i := 5) nd rfl (.inl rfl) (pe_slice sl_list (pv 2) (po_some pe_int) (po_some (pe_op op_add pe_int (pe_callB (call_min2 rfl) (by rfl) mm (by decide +kernel) (pa_cons (pv 1) (pa_cons (pe_ix ix_list (pe_lst (pa_cons pe_int (pa_cons pe_int (pa_cons pe_int (pa_cons pe_int (pa_cons pe_int pa_nil)))))) (pe_call GP hr1 (by rfl) gP FP.kp bP .nil pass0 (pa_cons (pv 0) (pa_cons pe_int pa_nil))) (fun _ _ => rfl)) pa_nil)))))))
      (pss_cons (ps_set (i := 6) nd rfl (.inl rfl) (pe_slice sl_list (pv 2) (po_some pe_int) (po_some (pe_op op_add pe_int (pe_callB (call_min2 rfl) (by rfl) mm (by decide +kernel) (pa_cons (pv 1) (pa_cons (pe_ix ix_list (pe_lst (pa_cons pe_int (pa_cons pe_int (pa_cons pe_int (pa_cons pe_int (pa_cons pe_int pa_nil)))))) (pe_call GP hr1 (by rfl) gP FP.kp bP .nil pass0 (pa_cons (pv 0) (pa_cons pe_int pa_nil))) (fun _ _ => rfl)) pa_nil)))))))
      (pss_one (ps_ret (pe_tup (pa_cons (pe_callTy call_tuple_of (by rfl) mt (by decide +kernel) (pa_cons (pv 4) pa_nil)) (pa_cons (pe_callTy call_tuple_of (by rfl) mt (by decide +kernel) (pa_cons (pv 5) pa_nil)) (pa_cons (pe_callTy call_tuple_of (by rfl) mt (by decide +kernel) (pa_cons (pv 6) pa_nil)) pa_nil)))))))))))  , ?_⟩
    refine ⟨_, rfl, p, c, ns, 12, rfl, by decide, hP, fun ws l H1 hlen hnd hlt kp1 hP1 nl hl => ?_⟩
    refine ⟨_, rfl, p, c, ns, 12, rfl, by decide, by decide, hP1, fun turn H2 hturn kp2 hP2 => ?_⟩
    have hl2 : H2 l = some (lS ws) := kp2 _ _ (lS_ne hP1 hl) hl
    refine ⟨_, rfl, _, rfl, _, rfl, l, _, rfl, sq_of hl2, fun u nu => ?_⟩
    have e2 : Ex H2 (upd H2 u (.lst (cutV (ws.map V.str) (some (turn : Int)) none))) := Ex.new nu
    refine ⟨_, rfl, _, rfl, _, rfl, l, _, rfl, sq_of (e2 _ _ hl2), fun u' nu' => ?_⟩
    have e3 : Ex H2 (upd (upd H2 u (.lst (cutV (ws.map V.str) (some (turn : Int)) none))) u' (.lst (cutV (ws.map V.str) none (some (turn : Int))))) := e2.trans (Ex.new nu')
    have nuu : u ≠ u' := ne_of_none upd_same nu'
    have hu3 : (upd (upd H2 u (.lst (cutV (ws.map V.str) (some (turn : Int)) none))) u' (.lst (cutV (ws.map V.str) none (some (turn : Int))))) u = some (.lst ((ws.drop turn).map V.str)) := by
      rw [upd_ne nuu, upd_same, map_cutF]
    have hu3' : (upd (upd H2 u (.lst (cutV (ws.map V.str) (some (turn : Int)) none))) u' (.lst (cutV (ws.map V.str) none (some (turn : Int))))) u' = some (.lst ((ws.take turn).map V.str)) := by
      rw [upd_same, map_cut0]
    generalize (upd (upd H2 u (.lst (cutV (ws.map V.str) (some (turn : Int)) none))) u' (.lst (cutV (ws.map V.str) none (some (turn : Int))))) = H3 at e3 hu3 hu3' ⊢
    have hLn : (ws.drop turn ++ ws.take turn).length = 12 := by
      rw [List.length_append, List.length_drop, List.length_take]
      omega
    refine ⟨u, u', _, _, rfl, rfl, hu3, hu3', ?_, fun r nr => ?_⟩
    · rw [← List.length_append, ← List.map_append, List.length_map]
      exact sz_of (by omega)
    rw [← List.map_append]
    have hLd := rot_nodup turn hnd
    have hLt : ∀ x ∈ ws.drop turn ++ ws.take turn, Ltr x := fun x hx => hlt x (rot_mem hx)
    generalize ws.drop turn ++ ws.take turn = L at hLn hLd hLt ⊢
    have hP3 := hP2.ex e3
    have e4 : Ex H3 (upd H3 r (lS L)) := Ex.new nr
    have hP4 := hP3.ex e4
    have kp4 : Keep p H (upd H3 r (lS L)) := ((kp1.trans kp2).trans (Keep.ofEx e3)).trans (Keep.ofEx e4)
    have hr4 : (upd H3 r (lS L)) r = some (lS L) := upd_same
    show tSeq _ _ _ [some (.ref p), some (.int (m : Int)), some (.ref r), some (.int (turn : Int)), none, none, none] (upd H3 r (lS L))
    generalize upd H3 r (lS L) = H4 at e4 hP4 kp4 hr4 ⊢
    -- opens
    refine ⟨_, rfl, _, rfl, menu_rd (xs := [.int 1, .int 1, .int 2, .int 2, .int 4]) hP4 rfl (by decide) (by decide) (fun Q z => z) (by decide) fun v H5 hv kp5 hP5 => ?_⟩
    obtain ⟨x, hx, x1, x4⟩ := menu1 (show v < 5 by omega)
    refine ⟨_, hx, _, _, rfl, _, rfl, r, _, rfl, sq_of (kp5 _ _ (lS_ne hP4 hr4) hr4), fun o no => ?_⟩
    rw [minI, map_cut0]
    have hr5 : H5 r = some (lS L) := kp5 _ _ (lS_ne hP4 hr4) hr4
    have e6 : Ex H5 (upd H5 o (lS (L.take (min m x)))) := Ex.new no
    have hP6 := hP5.ex e6
    have hr6 := e6 _ _ hr5
    have ho6 : (upd H5 o (lS (L.take (min m x)))) o = some (lS (L.take (min m x))) := upd_same
    have kp6 : Keep p H (upd H5 o (lS (L.take (min m x)))) := (kp4.trans kp5).trans (Keep.ofEx e6)
    show tSeq _ _ _ [some (.ref p), some (.int (m : Int)), some (.ref r), some (.int (turn : Int)), some (.ref o), none, none] (upd H5 o (lS (L.take (min m x))))
    generalize upd H5 o (lS (L.take (min m x))) = H6 at hP6 hr6 ho6 kp6 ⊢
    -- plains
    refine ⟨_, rfl, _, rfl, _, rfl, menu_rd (xs := [.int 0, .int 1, .int 1, .int 2, .int 4]) hP6 rfl (by decide) (by decide) (fun Q z => z) (by decide) fun v H7 hv kp7 hP7 => ?_⟩
    obtain ⟨y, hy, y4⟩ := menu0 (show v < 5 by omega)
    have hr7 : H7 r = some (lS L) := kp7 _ _ (lS_ne hP6 hr6) hr6
    have ho7 : H7 o = some (lS (L.take (min m x))) := kp7 _ _ (lS_ne hP6 ho6) ho6
    refine ⟨_, hy, _, _, rfl, _, _, rfl, rfl, _, rfl, r, _, rfl, sq_of hr7, fun u1 nu1 => ?_⟩
    have ey : (4 : Int) + (if (y : Int) < (m : Int) then (y : Int) else (m : Int)) = ((4 + min m y : Nat) : Int) := by
      rw [minI]
      omega
    rw [ey, show (some 4 : Option Int) = some ((4 : Nat) : Int) from rfl, map_cutLH]
    have e8 : Ex H7 (upd H7 u1 (lS ((L.take (4 + min m y)).drop 4))) := Ex.new nu1
    have hP8 := hP7.ex e8
    have hr8 := e8 _ _ hr7
    have ho8 := e8 _ _ ho7
    have hu8 : (upd H7 u1 (lS ((L.take (4 + min m y)).drop 4))) u1 = some (lS ((L.take (4 + min m y)).drop 4)) := upd_same
    have kp8 : Keep p H (upd H7 u1 (lS ((L.take (4 + min m y)).drop 4))) := (kp6.trans kp7).trans (Keep.ofEx e8)
    show tSeq _ _ _ [some (.ref p), some (.int (m : Int)), some (.ref r), some (.int (turn : Int)), some (.ref o), some (.ref u1), none] (upd H7 u1 (lS ((L.take (4 + min m y)).drop 4)))
    generalize upd H7 u1 (lS ((L.take (4 + min m y)).drop 4)) = H8 at hP8 hr8 ho8 hu8 kp8 ⊢
    -- closes
    refine ⟨_, rfl, _, rfl, _, rfl, menu_rd (xs := [.int 1, .int 1, .int 2, .int 2, .int 4]) hP8 rfl (by decide) (by decide) (fun Q z => z) (by decide) fun v H9 hv kp9 hP9 => ?_⟩
    obtain ⟨z, hz, z1, z4⟩ := menu1 (show v < 5 by omega)
    have hr9 : H9 r = some (lS L) := kp9 _ _ (lS_ne hP8 hr8) hr8
    have ho9 : H9 o = some (lS (L.take (min m x))) := kp9 _ _ (lS_ne hP8 ho8) ho8
    have hu9 := kp9 _ _ (lS_ne hP8 hu8) hu8
    refine ⟨_, hz, _, _, rfl, _, _, rfl, rfl, _, rfl, r, _, rfl, sq_of hr9, fun u2 nu2 => ?_⟩
    have ez : (8 : Int) + (if (z : Int) < (m : Int) then (z : Int) else (m : Int)) = ((8 + min m z : Nat) : Int) := by
      rw [minI]
      omega
    rw [ez, show (some 8 : Option Int) = some ((8 : Nat) : Int) from rfl, map_cutLH]
    have e10 : Ex H9 (upd H9 u2 (lS ((L.take (8 + min m z)).drop 8))) := Ex.new nu2
    have hP10 := hP9.ex e10
    have ho10 := e10 _ _ ho9
    have hu10 := e10 _ _ hu9
    have hv10 : (upd H9 u2 (lS ((L.take (8 + min m z)).drop 8))) u2 = some (lS ((L.take (8 + min m z)).drop 8)) := upd_same
    have kp10 : Keep p H (upd H9 u2 (lS ((L.take (8 + min m z)).drop 8))) := (kp8.trans kp9).trans (Keep.ofEx e10)
    refine ⟨_, rfl, o, _, rfl, .inl ⟨sq_of ho10, fun ao nao => ?_⟩⟩
    have f1 : Ex _ _ := Ex.new (o := .tup ((L.take (min m x)).map V.str)) nao
    refine ⟨_, rfl, u1, _, rfl, .inl ⟨sq_of (f1 _ _ hu10), fun ap nap => ?_⟩⟩
    have f2 : Ex _ _ := Ex.new (o := .tup (((L.take (4 + min m y)).drop 4).map V.str)) nap
    refine ⟨_, rfl, u2, _, rfl, .inl ⟨sq_of (f2 _ _ (f1 _ _ hv10)), fun ac nac => ?_⟩⟩
    have f3 : Ex _ _ := Ex.new (o := .tup (((L.take (8 + min m z)).drop 8).map V.str)) nac
    refine ⟨(by show 3 ≤ sizeLine; decide), fun sh nsh => ?_⟩
    have f4 : Ex _ _ := Ex.new (o := .tup [.ref ao, .ref ap, .ref ac]) nsh
    exact q _ _ _ sh _ (sht_of hLd hLt hLn (by omega) (by omega) (by omega) (by omega) (by omega)) ⟨ao, ap, ac, upd_same, f4 _ _ (f3 _ _ (f2 _ _ upd_same)), f4 _ _ (f3 _ _ upd_same), f4 _ _ upd_same⟩ (kp10.trans (Keep.ofEx (((f1.trans f2).trans f3).trans f4))) (hP10.ex (((f1.trans f2).trans f3).trans f4))
end
end Eh
set_option Elab.async false
set_option linter.all false
set_option maxRecDepth 100000
set_option maxHeartbeats 4000000
namespace Eh
open PySem PySem.Spec PyProof.Rows L2 Evl
open Sem (wp)
open AutoSeq1 (wpAny_loadPart')
/-! enumerate of a tuple -/
theorem enumT_meets {v : Value} {ob : Obj} {G : Heap → Prop} (B : Begins v ob G) : Meets (Builtin.«enumerate.__new__» ⟨[.type "enumerate", v], []⟩) (fun _ R s1 => G s1.heap ∧ R (.ok (.ret (.ref (s1.heap.push ob).objs.size))) { s1 with heap := (s1.heap.push ob).push { cls := .type "enumerate", data := .fields #[.none, .bool false, .ref s1.heap.objs.size, rawInt 0, .none, .none] } }) :=
  .of_wp fun pr wo ar R s1 hyp => by
    obtain ⟨hp, gg, dd, tt, oo⟩ := s1; obtain ⟨hg, hyp⟩ := hyp
    have hsb := sub_enumerate
    have hit : ∀ {A' : Around} {E : Value → Shared → Prop} {Q : Value → Shared → Prop}, Q (.ref hp.objs.size) ⟨hp.push ob, gg, dd, tt, oo⟩ → wpAny (model pr wo) A' (pyIter v) Q E ⟨hp, gg, dd, tt, oo⟩ := fun q => B.iter pr wo _ _ ⟨hp, gg, dd, tt, oo⟩ _ hg q
    wp_walk using hit
    refine wpAny_stack_any fun stk => wpAny_pure ?_
    split
    · rename_i cl _ _ _ _ _; cases (cl == Value.type "enumerate") <;> (wp_walk using hit; exact ⟨_, rfl, hyp⟩)
    · wp_walk using hit; exact ⟨_, rfl, hyp⟩
theorem enumT_call {prog : Program} {w : World} {A : Around} {E : Value → Shared → Prop} {s : Shared} {v : Value} {ob : Obj} {G : Heap → Prop} {Q : Value → Shared → Prop} (B : Begins v ob G) (hg : G s.heap)
    (hyp : ∀ h', IsEnum h' (s.heap.objs.size + 1) s.heap.objs.size 0 .none → h'.get? s.heap.objs.size = some ob → h'.objs.size = s.heap.objs.size + 2 → (∀ b o, s.heap.get? b = some o → h'.get? b = some o) → Q (.ref (s.heap.objs.size + 1)) { s with heap := h' }) : wpAny (model prog w) A (call (.type "enumerate") [v]) Q E s := by
  refine callType_new F.called_enumerate (by decide) (F.typeCall_enumerate_1 _) (F.newCall_enumerate_1 _) (fun x => F.args_object_init_2 x _) F.entry_enumerate_new (enumT_meets B) ⟨hg, ?_⟩
  have sz : (s.heap.push ob).objs.size = s.heap.objs.size + 1 := Heap.size_push ..
  show _ ∧ _
  rw [sz]
  have en : IsEnum ((s.heap.push ob).push { cls := .type "enumerate", data := .fields #[.none, .bool false, .ref s.heap.objs.size, rawInt 0, .none, .none] }) (s.heap.objs.size + 1) s.heap.objs.size 0 .none := by
    have z := Heap.get?_push_size (s.heap.push ob) (o := { cls := .type "enumerate", data := .fields #[.none, .bool false, .ref s.heap.objs.size, rawInt 0, .none, .none] }) rfl
    rw [sz] at z; exact z
  exact ⟨⟨_, en, rfl⟩, hyp _ en (Heap.get?_push_of_some _ (Heap.get?_push_size _ B.free)) (by rw [Heap.size_push, sz]) fun b o x => Heap.get?_push_of_some _ (Heap.get?_push_of_some _ x)⟩
def IteT (K : PySem.W.Frag) (a : Addr) : It :=
  ⟨fun i H => ∃ (xs : List V) (x : V), SqT K H a xs ∧ xs[i]? = some x, fun i H v H' => ∃ T x, v = .ref T ∧ H T = none ∧ H' = upd H T (.tup [.int (i : Nat), x]) ∧ ∀ xs, SqT K H a xs → xs[i]? = some x, fun i H => ∃ xs : List V, SqT K H a xs ∧ xs.length = i⟩
theorem apart_cls {h : Heap} {a b : Addr} {o1 o2 : Obj} {x y : String} (h1 : h.get? a = some o1) (c1 : o1.cls = .type x) (h2 : h.get? b = some o2) (c2 : o2.cls = .type y) (n : x ≠ y) : a ≠ b := fun z => by
  subst z
  rw [h1] at h2
  have e : o1 = o2 := Option.some.inj h2
  rw [e, c2] at c1
  injection c1 with c1
  exact n c1.symm
theorem turn_enumT {P : Program} {w : World} {K : PySem.W.Frag} {elts : List Expr} {kk : Nat} {tpos : Pos} (a e it : Addr) :
    Turn P w K (.Tuple elts kk tpos) (IteT K a) [e, it] e (fun i h => (∃ old, IsEnum h e it ((i : Nat) : Int) old) ∧ h.IsTupleIter it a i ∧ e ≠ it) where
  mem := by simp
  obj := fun i h tn b hb => by
    obtain ⟨⟨old, en⟩, ⟨ob, h1, h2, h3⟩, _⟩ := tn
    rcases (show b = e ∨ b = it by simpa using hb) with z | z
    · subst z; exact ⟨_, en, fun v q => nomatch q⟩
    · subst z; exact ⟨ob, h1, fun v q => by rw [h3] at q; cases q⟩
  keep := fun i h h' tn kk => let ⟨⟨old, en⟩, ti, ne⟩ := tn; ⟨⟨old, kk e (by simp) _ en⟩, ti.at fun o q => kk it (by simp) o q, ne⟩
  item := by
    intro X eP ew eK hc i pins s σ H E I fpo tn go
    subst eP ew eK
    obtain ⟨⟨old, en⟩, ti, ne⟩ := tn
    obtain ⟨xs, x, sq, hx⟩ := go
    obtain ⟨its, rv, pt, _⟩ := I.tuple sq
    obtain ⟨u, hu, ru⟩ := rv.get hx
    have le : e < s.heap.objs.size := Heap.lt_size en
    have li : it < s.heap.objs.size := by obtain ⟨_, q, _⟩ := ti; exact Heap.lt_size q
    have nai : a ≠ it := by
      obtain ⟨o1, g1, c1, _⟩ := id ti
      obtain ⟨o2, g2, c2, _⟩ := id pt
      exact apart_cls g2 c2 g1 c1 (by decide)
    have nea : e ≠ a := by
      obtain ⟨o2, g2, c2, _⟩ := id pt
      exact apart_cls en rfl g2 c2 (by decide)
    have DD := Draws.tuple (prog := X.prog) (w := X.w) (A := X.A.in1) (I.ok.hd hc) it a nai its.toArray
    refine wpAny_pyNext_enum_itemC DD en ⟨ti, pt⟩ (by have h1 := (List.getElem?_eq_some_iff.mp hu).1; rw [List.size_toArray]; exact h1) ne (by simp [ne, nea]) fun y h' tk hy out st' hT hsz kp => ?_
    have ey : y = u := by
      have hy' : its.toArray[i]? = some y := hy
      rw [List.getElem?_toArray, hu] at hy'
      exact (Option.some.inj hy').symm
    subst ey
    refine ⟨_, rfl, wpAny_letOwnedTupleGo_enum (s := { s with heap := h', toks := tk + 1 }) out fun h'' en' sb => ?_⟩
    have hT' : h''.get? s.heap.objs.size = some { cls := .type "tuple", data := .seq #[.int i tk, y] } := (sb.2 _ (Nat.ne_of_gt le)).trans hT
    have nw : ObjOk X.prog X.w (upd H s.heap.objs.size (.tup [.int (i : Nat), x])) h'' s.heap.objs.size (.tup [.int (i : Nat), x]) := ⟨by show 2 ≤ sizeLine; decide, [.int i tk, y], .cons ⟨_, rfl⟩ (.cons ru .nil), ⟨_, hT', rfl, _, rfl⟩⟩
    have J1 : Inv X pins σ (upd H s.heap.objs.size (.tup [.int (i : Nat), x])) { s with heap := h'', toks := tk + 1 } := I.turnedNew (ch := [e, it]) (fun b o hb q => (sb.2 b (fun z => hb (by simp [z]))).trans (kp b o (fun z => hb (by simp [z])) (fun z => hb (by simp [z])) q)) fpo (Nat.le_refl _) nw
    refine ⟨.ref s.heap.objs.size, _, J1, rfl, ⟨_, x, rfl, I.hok.fresh (Nat.le_refl _), rfl, fun ys hs => by rw [I.tuple_inj hs sq]; exact hx⟩, ⟨⟨y, ?_⟩, st'.1.at fun o q => (sb.2 it (Ne.symm ne)).trans q, ne⟩, fun b hb => ?_⟩
    · rw [show ((i + 1 : Nat) : Int) = (i : Int) + 1 by omega]
      exact en'
    · have lb : b < s.heap.objs.size := by
        rcases (show b = e ∨ b = it by simpa using hb) with z | z
        · subst z; exact le
        · subst z; exact li
      rw [upd_ne (Nat.ne_of_lt lb)]
      exact (fpo b hb).1
  done := by
    intro X eP ew eK hc i pins s σ H E I fpo tn stp
    subst eP ew eK
    obtain ⟨⟨old, en⟩, ti, ne⟩ := tn
    obtain ⟨xs, sq, hx⟩ := stp
    obtain ⟨its, rv, pt, _⟩ := I.tuple sq
    obtain ⟨f0, f1, _, f3, f4, f5⟩ := fpo it (by simp)
    have nai : a ≠ it := by
      obtain ⟨o1, g1, c1, _⟩ := id ti
      obtain ⟨o2, g2, c2, _⟩ := id pt
      exact apart_cls g2 c2 g1 c1 (by decide)
    have DD := Draws.tuple (prog := X.prog) (w := X.w) (A := X.A.in1) (I.ok.hd hc) it a nai its.toArray
    have en' : its.toArray.size = i := by rw [List.size_toArray, ← rv.length, hx]
    exact wpAny_pyNext_enum_endD DD en (by rw [en']; exact ⟨ti, pt⟩) fun h' eb => ⟨rfl, I.turned (t' := s.toks) (fun b o hb q => eb b o hb q) f0 f1 f3 f4 f5⟩
  self := fun A i s Q E tn hq => let ⟨⟨_, en⟩, _⟩ := tn; wpAny_pyIter_enum en hq
def iEnumT (K : PySem.W.Frag) (ta : TA) : TI := fun σ H R => ta σ H fun vs H1 => ∃ a xs, vs = [.ref a] ∧ SqT K H1 a xs ∧ R (IteT K a) H1
theorem pi_enumT {X : Cx} {e : Expr} {ta : TA} {p pos tpos : Pos} {elts : List Expr} {kk : Nat} (hg : Gl X "enumerate") (hm : X.mg "enumerate" = none) (ha : PA X [e] ta) (hs : starEach [e] X.env = [(false, eval e X.env)] := by rfl) : PI X (.Tuple elts kk tpos) (.Call (.Name "enumerate" p) [e] [] pos) (iEnumT X.K ta) := by
  refine ⟨fun pins s σ H R I hyp => Call_ (ld_blt I hg hm boot_enumerate (PyProof.Rows.callWith_type1 (thn (ha.run pos pins s σ H _ I hyp) fun us s1 ⟨vs, H1, I1, r1, q1⟩ => ?_) hs rfl))⟩
  obtain ⟨a, xs, ev, sq, q⟩ := q1
  subst ev
  obtain ⟨u, rfl, ru⟩ := vals1 r1
  cases ru
  obtain ⟨its, rv, pt, _⟩ := I1.tuple sq
  refine enumT_call (begins_tuple a its.toArray) pt fun h' en hit hsz kp => wpAny_pyIter_enum en ?_
  have I2 : Inv X pins σ H1 { s1 with heap := h' } := I1.kept (t' := s1.toks) kp
  refine ⟨s1.heap.objs.size + 1, [s1.heap.objs.size + 1, s1.heap.objs.size], _, _, H1, rfl, I2, turn_enumT a (s1.heap.objs.size + 1) s1.heap.objs.size, ⟨⟨.none, en⟩, ⟨_, hit, rfl, rfl⟩, Nat.succ_ne_self _⟩, fun b hb => ?_, q⟩
  have lb : s1.heap.objs.size ≤ b := by
    rcases (show b = s1.heap.objs.size + 1 ∨ b = s1.heap.objs.size by simpa using hb) with z | z
    · rw [z]; exact Nat.le_add_right ..
    · rw [z]; exact Nat.le_refl ..
  exact I1.fpOk lb (I1.hok.fresh lb)
end Eh
set_option linter.all false
namespace Eh
/-! what answers what: the mathematics -/
inductive Kd | op | pl | cl
deriving DecidableEq
def tv (t : List (Option Nat)) (j : Nat) : Option Nat := t.getD j none
theorem tv_set {t : List (Option Nat)} {a : Nat} {v : Option Nat} (h : a < t.length) (j : Nat) : tv (t.set a v) j = if j = a then v else tv t j := by
  unfold tv
  rw [List.getD_eq_getElem?_getD, List.getD_eq_getElem?_getD, List.getElem?_set]
  by_cases e : j = a
  · subst e
    simp [h]
  · rw [if_neg (fun z => e z.symm), if_neg e]
theorem tv_rep (n j : Nat) : tv (List.replicate n none) j = none := by
  unfold tv
  rw [List.getD_eq_getElem?_getD, List.getElem?_replicate]
  split <;> rfl
theorem tv_get {t : List (Option Nat)} {j : Nat} (h : j < t.length) : t[j]? = some (tv t j) := by
  unfold tv
  rw [List.getD_eq_getElem?_getD, List.getElem?_eq_getElem h]
  rfl
def step (kf : Nat → Kd) (i : Nat) (S : List (Option Nat) × List Nat) : List (Option Nat) × List Nat :=
  match kf i with
  | .op => (S.1, i :: S.2)
  | .pl => S
  | .cl => match S.2 with
    | [] => S
    | b :: r => ((S.1.set b (some i)).set i (some b), r)
def run (kf : Nat → Kd) (n : Nat) : Nat → List (Option Nat) × List Nat
  | 0 => (List.replicate n none, [])
  | i + 1 => step kf i (run kf n i)
structure Good (kf : Nat → Kd) (n i : Nat) (t : List (Option Nat)) (st : List Nat) : Prop where
  len : t.length = n
  srt : st.Pairwise (· > ·)
  bd : ∀ b ∈ st, b < i ∧ kf b = .op ∧ tv t b = none
  opn : ∀ j, j < i → kf j = .op → tv t j = none → j ∈ st
  hi : ∀ j, i ≤ j → tv t j = none
  pr : ∀ j m, tv t j = some m → j < i ∧ m < i ∧ tv t m = some j ∧ ((kf j = .op ∧ kf m = .cl ∧ j < m ∧ ∀ b ∈ st, ¬ (j ≤ b ∧ b ≤ m)) ∨ (kf j = .cl ∧ kf m = .op ∧ m < j ∧ ∀ b ∈ st, ¬ (m ≤ b ∧ b ≤ j)))
theorem good_run (kf : Nat → Kd) (n : Nat) : ∀ i, i ≤ n → Good kf n i (run kf n i).1 (run kf n i).2
  | 0, _ => by
    refine ⟨List.length_replicate, List.Pairwise.nil, fun b hb => (List.not_mem_nil hb).elim, fun j hj => absurd hj (Nat.not_lt_zero j), fun j _ => tv_rep n j, fun j m h => ?_⟩
    have := tv_rep n j
    rw [show (run kf n 0).1 = List.replicate n none from rfl, this] at h
    cases h
  | i + 1, hi => by
    have G := good_run kf n i (by omega)
    show Good kf n (i + 1) (step kf i (run kf n i)).1 (step kf i (run kf n i)).2
    generalize run kf n i = S at G ⊢
    obtain ⟨t, st⟩ := S
    replace G : Good kf n i t st := G
    unfold step
    cases hk : kf i with
    | pl =>
      refine ⟨G.len, G.srt, fun b hb => ⟨by have := (G.bd b hb).1; omega, (G.bd b hb).2⟩, fun j hj ho hn => ?_, fun j hj => G.hi j (by omega), fun j m h => ?_⟩
      · rcases Nat.lt_succ_iff_lt_or_eq.mp hj with z | z
        · exact G.opn j z ho hn
        · subst z
          rw [hk] at ho
          cases ho
      · obtain ⟨a, b, c, d⟩ := G.pr j m h
        exact ⟨by omega, by omega, c, d⟩
    | op =>
      have hn := G.hi i (Nat.le_refl i)
      refine ⟨G.len, List.Pairwise.cons (fun b hb => (G.bd b hb).1) G.srt, fun b hb => ?_, fun j hj ho hn => ?_, fun j hj => G.hi j (by omega), fun j m h => ?_⟩
      · rcases List.mem_cons.mp hb with z | z
        · subst z
          exact ⟨by omega, hk, hn⟩
        · exact ⟨by have := (G.bd b z).1; omega, (G.bd b z).2⟩
      · rcases Nat.lt_succ_iff_lt_or_eq.mp hj with z | z
        · exact List.mem_cons_of_mem _ (G.opn j z ho hn)
        · subst z
          exact List.mem_cons_self ..
      · obtain ⟨a, b, c, d⟩ := G.pr j m h
        refine ⟨by omega, by omega, c, ?_⟩
        rcases d with ⟨d1, d2, d3, d4⟩ | ⟨d1, d2, d3, d4⟩
        · refine .inl ⟨d1, d2, d3, fun x hx => ?_⟩
          rcases List.mem_cons.mp hx with z | z
          · omega
          · exact d4 x z
        · refine .inr ⟨d1, d2, d3, fun x hx => ?_⟩
          rcases List.mem_cons.mp hx with z | z
          · omega
          · exact d4 x z
    | cl =>
      cases st with
      | nil =>
        refine ⟨G.len, G.srt, fun b hb => (List.not_mem_nil hb).elim, fun j hj ho hn => ?_, fun j hj => G.hi j (by omega), fun j m h => ?_⟩
        · rcases Nat.lt_succ_iff_lt_or_eq.mp hj with z | z
          · exact G.opn j z ho hn
          · subst z
            rw [hk] at ho
            cases ho
        · obtain ⟨a, b, c, d⟩ := G.pr j m h
          exact ⟨by omega, by omega, c, d⟩
      | cons b r =>
        obtain ⟨hb1, hb2, hb3⟩ := G.bd b (List.mem_cons_self ..)
        have hlen := G.len
        obtain ⟨hs1, hs2⟩ := List.pairwise_cons.mp G.srt
        have T : ∀ j, tv ((t.set b (some i)).set i (some b)) j = if j = i then some b else if j = b then some i else tv t j := fun j => by
          rw [tv_set (by rw [List.length_set]; omega), tv_set (by omega)]
        refine ⟨by simp [G.len], hs2, fun c hc => ?_, fun j hj ho hn => ?_, fun j hj => ?_, fun j m h => ?_⟩
        · obtain ⟨c1, c2, c3⟩ := G.bd c (List.mem_cons_of_mem _ hc)
          have := hs1 c hc
          refine ⟨by omega, c2, ?_⟩
          rw [T, if_neg (by omega), if_neg (by omega)]
          exact c3
        · rw [T] at hn
          by_cases e1 : j = i
          · rw [if_pos e1] at hn
            cases hn
          · rw [if_neg e1] at hn
            by_cases e2 : j = b
            · rw [if_pos e2] at hn
              cases hn
            · rw [if_neg e2] at hn
              exact (List.mem_cons.mp (G.opn j (by omega) ho hn)).resolve_left e2
        · rw [T, if_neg (by omega), if_neg (by omega)]
          exact G.hi j (by omega)
        · rw [T] at h
          by_cases e1 : j = i
          · rw [if_pos e1] at h
            have em : b = m := Option.some.inj h
            subst em
            subst e1
            refine ⟨by omega, by omega, ?_, .inr ⟨hk, hb2, hb1, fun c hc => by have := hs1 c hc; omega⟩⟩
            rw [T, if_neg (by omega), if_pos rfl]
          · rw [if_neg e1] at h
            by_cases e2 : j = b
            · rw [if_pos e2] at h
              have em : i = m := Option.some.inj h
              subst em
              subst e2
              refine ⟨by omega, by omega, ?_, .inl ⟨hb2, hk, hb1, fun c hc => by have := hs1 c hc; omega⟩⟩
              rw [T, if_pos rfl]
            · rw [if_neg e2] at h
              obtain ⟨g1, g2, g3, g4⟩ := G.pr j m h
              refine ⟨by omega, by omega, ?_, ?_⟩
              · rw [T, if_neg (by omega), if_neg (fun z => by
                  rw [z, hb3] at g3
                  cases g3)]
                exact g3
              · rcases g4 with ⟨d1, d2, d3, d4⟩ | ⟨d1, d2, d3, d4⟩
                · exact .inl ⟨d1, d2, d3, fun c hc => d4 c (List.mem_cons_of_mem _ hc)⟩
                · exact .inr ⟨d1, d2, d3, fun c hc => d4 c (List.mem_cons_of_mem _ hc)⟩
/-- what was told stays; what is told later is of later places -/
theorem run_later (kf : Nat → Kd) (n i j : Nat) : ∀ d, i + d ≤ n → (∀ m, tv (run kf n i).1 j = some m → tv (run kf n (i + d)).1 j = some m) ∧ (j < i → tv (run kf n i).1 j = none → tv (run kf n (i + d)).1 j = none ∨ ∃ m, i ≤ m ∧ tv (run kf n (i + d)).1 j = some m)
  | 0, _ => ⟨fun m h => h, fun _ h => .inl h⟩
  | d + 1, hd => by
    obtain ⟨ih1, ih2⟩ := run_later kf n i j d (by omega)
    have G := good_run kf n (i + d) (by omega)
    show (∀ m, tv (run kf n i).1 j = some m → tv (step kf (i + d) (run kf n (i + d))).1 j = some m) ∧ (j < i → tv (run kf n i).1 j = none → tv (step kf (i + d) (run kf n (i + d))).1 j = none ∨ ∃ m, i ≤ m ∧ tv (step kf (i + d) (run kf n (i + d))).1 j = some m)
    generalize run kf n (i + d) = S at G ih1 ih2 ⊢
    obtain ⟨t, st⟩ := S
    replace G : Good kf n (i + d) t st := G
    replace ih1 : ∀ m, tv (run kf n i).1 j = some m → tv t j = some m := ih1
    replace ih2 : j < i → tv (run kf n i).1 j = none → tv t j = none ∨ ∃ m, i ≤ m ∧ tv t j = some m := ih2
    unfold step
    cases hk : kf (i + d) with
    | pl => exact ⟨ih1, ih2⟩
    | op => exact ⟨ih1, ih2⟩
    | cl =>
      cases st with
      | nil => exact ⟨ih1, ih2⟩
      | cons b r =>
        obtain ⟨hb1, hb2, hb3⟩ := G.bd b (List.mem_cons_self ..)
        have hlen := G.len
        have T : tv ((t.set b (some (i + d))).set (i + d) (some b)) j = if j = i + d then some b else if j = b then some (i + d) else tv t j := by
          rw [tv_set (by rw [List.length_set]; omega), tv_set (by omega)]
        constructor
        · intro m h
          have h' := ih1 m h
          have := (G.pr j m h').1
          show tv ((t.set b (some (i + d))).set (i + d) (some b)) j = some m
          rw [T, if_neg (by omega), if_neg (fun z => by rw [z, hb3] at h'; cases h')]
          exact h'
        · intro hj h
          show tv ((t.set b (some (i + d))).set (i + d) (some b)) j = none ∨ ∃ m, i ≤ m ∧ tv ((t.set b (some (i + d))).set (i + d) (some b)) j = some m
          rw [T, if_neg (by omega)]
          by_cases e : j = b
          · rw [if_pos e]
            exact .inr ⟨i + d, by omega, rfl⟩
          · rw [if_neg e]
            exact ih2 hj h
/-- a falling row as the places that are in it -/
theorem filter_desc : ∀ (i : Nat) (st : List Nat), st.Pairwise (· > ·) → (∀ b ∈ st, b < i) → (List.range i).filter (fun a => decide (a ∈ st)) = st.reverse
  | 0, st, _, h => by
    cases st with
    | nil => rfl
    | cons b r => exact absurd (h b (List.mem_cons_self ..)) (Nat.not_lt_zero b)
  | i + 1, st, hs, h => by
    rw [List.range_succ, List.filter_append]
    by_cases hm : i ∈ st
    · cases st with
      | nil => exact (List.not_mem_nil hm).elim
      | cons b r =>
        obtain ⟨h1, h2⟩ := List.pairwise_cons.mp hs
        have hb : b = i := by
          rcases List.mem_cons.mp hm with z | z
          · exact z.symm
          · have := h1 i z
            have := h b (List.mem_cons_self ..)
            omega
        subst hb
        have ih := filter_desc b r h2 (fun c hc => h1 c hc)
        have e : (List.range b).filter (fun a => decide (a ∈ b :: r)) = (List.range b).filter (fun a => decide (a ∈ r)) := by
          refine List.filter_congr fun a ha => ?_
          have := List.mem_range.mp ha
          have : (a ∈ b :: r) ↔ a ∈ r := ⟨fun z => (List.mem_cons.mp z).resolve_left (by omega), fun z => List.mem_cons_of_mem _ z⟩
          simp only [this]
        rw [e, ih, List.reverse_cons, List.filter_cons, if_pos (decide_eq_true hm)]
        rfl
    · have ih := filter_desc i st hs (fun b hb => by
        have := h b hb
        have : b ≠ i := fun z => hm (z ▸ hb)
        omega)
      rw [ih, List.filter_cons, if_neg (by rw [decide_eq_false hm]; exact Bool.false_ne_true)]
      exact List.append_nil _
/-- the opens ahead of a place that are answered behind it, or never, are those that wait -/
theorem waits (kf : Nat → Kd) (n i : Nat) (hi : i ≤ n) : (List.range i).filter (fun a => decide (kf a = .op) && (decide (tv (run kf n n).1 a = none) || decide (∃ m, tv (run kf n n).1 a = some m ∧ i ≤ m))) = (run kf n i).2.reverse := by
  have G := good_run kf n i hi
  rw [← filter_desc i _ G.srt fun b hb => (G.bd b hb).1]
  refine List.filter_congr fun a ha => ?_
  have ha := List.mem_range.mp ha
  obtain ⟨l1, l2⟩ := run_later kf n i a (n - i) (by omega)
  rw [show i + (n - i) = n by omega] at l1 l2
  rw [Bool.eq_iff_iff]
  simp only [Bool.and_eq_true, Bool.or_eq_true, decide_eq_true_eq]
  constructor
  · rintro ⟨ho, hn⟩
    refine G.opn a ha ho ?_
    cases e : tv (run kf n i).1 a with
    | none => rfl
    | some m =>
      have e' := l1 m e
      have := (G.pr a m e).2.1
      rcases hn with z | ⟨m', z, hm⟩
      · rw [e'] at z
        cases z
      · rw [e'] at z
        have := Option.some.inj z
        omega
  · intro hm
    obtain ⟨_, h2, h3⟩ := G.bd a hm
    refine ⟨h2, ?_⟩
    rcases l2 ha h3 with z | ⟨m, hm, z⟩
    · exact .inl z
    · exact .inr ⟨m, z, hm⟩
def dep (kf : Nat → Kd) (n : Nat) : Nat → Nat
  | 0 => 0
  | i + 1 => max (dep kf n i) (run kf n (i + 1)).2.length
theorem dep_ge (kf : Nat → Kd) (n : Nat) : ∀ i, (run kf n i).2.length ≤ dep kf n i
  | 0 => Nat.le_refl _
  | i + 1 => Nat.le_max_right _ _
end Eh
set_option Elab.async false
set_option linter.all false
set_option maxRecDepth 100000
set_option maxHeartbeats 4000000
namespace Eh
open PySem PySem.Spec PyProof.Rows L2 Evl
def kdOf (os qs : List Str) (x : Str) : Kd := if x ∈ os then .op else if x ∈ qs then .cl else .pl
def kfOf (os qs ws : List Str) (i : Nat) : Kd := match ws[i]? with
  | some x => kdOf os qs x
  | none => .pl
theorem kfOf_at {os qs ws : List Str} {i : Nat} {x : Str} (h : ws[i]? = some x) : kfOf os qs ws i = kdOf os qs x := by
  unfold kfOf
  rw [h]
theorem inV_str (x : Str) : ∀ os : List Str, inV (.str x) (os.map V.str) = decide (x ∈ os)
  | [] => rfl
  | y :: r => by
    show (eqV (.str y) (.str x) || inV (.str x) (r.map V.str)) = _
    rw [inV_str x r, show eqV (.str y) (.str x) = (y == x) from rfl]
    by_cases e : y = x
    · subst e
      simp
    · have e' : ¬ x = y := fun z => e z.symm
      simp [e, e']
theorem flat_str (os : List Str) : (os.map V.str).all flatV = true := by
  rw [List.all_eq_true]
  intro v hv
  obtain ⟨x, _, rfl⟩ := List.mem_map.mp hv
  rfl
def oV : Option Nat → V
  | none => .non
  | some j => .int (j : Int)
def nV (j : Nat) : V := .int (j : Int)
abbrev tO (t : List (Option Nat)) : HO := .lst (t.map oV)
abbrev tN (st : List Nat) : HO := .lst (st.map nV)
def ansOf (os qs ws : List Str) : List (Option Nat) := (run (kfOf os qs ws) ws.length ws.length).1
theorem flat_rep {α : Type} (x : α) : ∀ n, (List.replicate n [x]).flatten = List.replicate n x
  | 0 => rfl
  | n + 1 => by
    rw [List.replicate_succ, List.flatten_cons, flat_rep x n, List.replicate_succ]
    rfl
theorem Sht.apart {os ps qs : List Str} (h : Sht os ps qs) {x : Str} (h1 : x ∈ os) (h2 : x ∈ qs) : False := by
  have := List.nodup_append.mp h.nd
  exact this.2.2 x (List.mem_append.mpr (.inl h1)) x h2 rfl
theorem kd_op {os qs : List Str} {x : Str} : kdOf os qs x = .op ↔ x ∈ os := by
  unfold kdOf
  by_cases h : x ∈ os
  · rw [if_pos h]
    exact ⟨fun _ => h, fun _ => rfl⟩
  · rw [if_neg h]
    refine ⟨fun e => ?_, fun z => absurd z h⟩
    split at e <;> cases e
theorem kd_cl {os ps qs : List Str} (hS : Sht os ps qs) {x : Str} : kdOf os qs x = .cl ↔ x ∈ qs := by
  unfold kdOf
  by_cases h : x ∈ os
  · rw [if_pos h]
    exact ⟨fun e => (nomatch e), fun z => (hS.apart h z).elim⟩
  · rw [if_neg h]
    by_cases h2 : x ∈ qs
    · rw [if_pos h2]
      exact ⟨fun _ => h2, fun _ => rfl⟩
    · rw [if_neg h2]
      exact ⟨fun e => (nomatch e), fun z => absurd z h2⟩
theorem Sht.plain {os ps qs : List Str} (hS : Sht os ps qs) {x : Str} (h : x ∈ ps) : kdOf os qs x = .pl := by
  have h1 := List.nodup_append.mp hS.nd
  have h2 := List.nodup_append.mp h1.1
  unfold kdOf
  rw [if_neg (fun z => h2.2.2 x z x h rfl), if_neg (fun z => h1.2.2 x (List.mem_append.mpr (.inr h)) x z rfl)]
end Eh
set_option Elab.async false
set_option linter.all false
set_option maxRecDepth 100000
set_option maxHeartbeats 4000000
namespace Eh
open PySem PySem.Spec PyProof.Rows L2 Evl
/-! texts compared at depth -/
theorem strOk_ltr {x : Str} (h : ∀ c ∈ cs x, az c) : PyData.strOk x = true := by
  unfold PyData.strOk
  rw [Array.all_eq_true_iff_forall_mem]
  intro c hc
  have := (h c (by simpa using hc)).2
  simp
  omega
theorem dpStrs {K : PySem.W.Frag} {H : Hp} : ∀ ws : List Str, DpAll K H (ws.map V.str) (ws.map PyData.str)
  | [] => .nil
  | x :: r => .cons (.str x) (dpStrs r)
theorem layStrs : ∀ ws : List Str, (∀ x ∈ ws, ∀ c ∈ cs x, az c) → PyData.canLayAll0 (ws.map PyData.str) = true
  | [], _ => rfl
  | x :: r, h => by
    show (PyData.strOk x && PyData.canLayAll0 (r.map PyData.str)) = true
    rw [layStrs r fun y hy => h y (List.mem_cons_of_mem _ hy), strOk_ltr (h x (List.mem_cons_self ..))]
    rfl
theorem deepStrs : ∀ ws : List Str, PyData.depthAll (ws.map PyData.str) = 0
  | [] => rfl
  | x :: r => by
    show max 0 (PyData.depthAll (r.map PyData.str)) = 0
    rw [deepStrs r]
    rfl
theorem shapedT {ws : List Str} (h : ∀ x ∈ ws, ∀ c ∈ cs x, az c) : SeqAt.shaped (.tuple (ws.map PyData.str)) = true := by
  unfold SeqAt.shaped
  rw [show PyData.canLay0 (.tuple (ws.map PyData.str)) = true from layStrs ws h, show PyData.depth (.tuple (ws.map PyData.str)) = 1 by
    show PyData.depthAll (ws.map PyData.str) + 1 = 1
    rw [deepStrs]]
  rfl
theorem shapedL {ws : List Str} (h : ∀ x ∈ ws, ∀ c ∈ cs x, az c) : SeqAt.shaped (.list (ws.map PyData.str)) = true := by
  unfold SeqAt.shaped
  rw [show PyData.canLay0 (.list (ws.map PyData.str)) = true from layStrs ws h, show PyData.depth (.list (ws.map PyData.str)) = 1 by
    show PyData.depthAll (ws.map PyData.str) + 1 = 1
    rw [deepStrs]]
  rfl
theorem shapedT0 : SeqAt.shaped (.tuple []) = true := by decide +kernel
theorem eqv_nilT (ws : List Str) : PyData.eqv (.tuple (ws.map PyData.str)) (.tuple []) = decide (ws = []) := by
  cases ws with
  | nil => rfl
  | cons x r => exact (decide_eq_false (fun z => nomatch z)).symm
/-! a letter of one part drawn -/
theorem draw_rd {K : PySem.W.Frag} {p c s ad : Addr} {ns : List Int} {H : Hp} {σ : L2.St} {xs : List V} {ys : List Str} {Q : VK} {j : Nat} {z : Int} (hP : Pot p c ns H) (h0 : σ[0]? = some (some (.ref p))) (hj : σ[j]? = some (some (.ref s))) (hs : H s = some (.tup xs)) (ha : atI xs z = some (.ref ad)) (hy : H ad = some (.tup (ys.map V.str))) (y0 : ys ≠ []) (y1 : ys.length ≤ 1000)
    (k : ∀ x H', x ∈ ys → Keep p H H' → Pot p c ns H' → Q (.str x) H') : tOp (rIxT K) (tOp (rIxT K) (tVar j) (tC (.int z))) (tCall spPick [] E0 (tCons (tVar 0) (tCons (tCB (rLenS K) (tCons (tOp (rIxT K) (tVar j) (tC (.int z))) tNil)) tNil))) σ H Q := by
  have hl : 0 < ys.length := by
    cases ys with
    | nil => exact absurd rfl y0
    | cons _ _ => exact Nat.succ_pos _
  refine ⟨_, hj, s, xs, z, _, rfl, rfl, st_of hs, ha, _, h0, _, hj, s, xs, z, _, rfl, rfl, st_of hs, ha, ad, _, rfl, .inr (st_of hy), p, c, ns, _, rfl, ?_, ?_, hP, fun v H' hv kp hP' => ?_⟩
  · rw [List.length_map]
    omega
  · rw [List.length_map]
    omega
  · rw [List.length_map] at hv
    have hv' : v < ys.length := by omega
    refine ⟨ad, _, _, .str ys[v], rfl, rfl, st_of (kp _ _ (hP.ne_tup hy) hy), atI_nat ?_, k _ H' (List.getElem_mem hv') kp hP'⟩
    rw [List.getElem?_map, List.getElem?_eq_getElem hv']
    rfl
theorem app_rd {K : PySem.W.Frag} {p c s l ad : Addr} {ns : List Int} {H : Hp} {σ : L2.St} {xs : List V} {ys ws : List Str} {D : Ends} {z : Int} (hP : Pot p c ns H) (h0 : σ[0]? = some (some (.ref p))) (h1 : σ[1]? = some (some (.ref s))) (h3 : σ[3]? = some (some (.ref l))) (hs : H s = some (.tup xs)) (ha : atI xs z = some (.ref ad)) (hy : H ad = some (.tup (ys.map V.str))) (y0 : ys ≠ []) (y1 : ys.length ≤ 1000) (hl : H l = some (lS ws)) (hlp : l ≠ p) (hz : ws.length < 100000)
    (k : ∀ x H', x ∈ ys → Keep p H H' → Pot p c ns H' → D.nx σ (upd H' l (.lst (ws.map V.str ++ [.str x])))) : tDrop (tBM K "list" rAppend (tVar 3) (tCons (tOp (rIxT K) (tOp (rIxT K) (tVar 1) (tC (.int z))) (tCall spPick [] E0 (tCons (tVar 0) (tCons (tCB (rLenS K) (tCons (tOp (rIxT K) (tVar 1) (tC (.int z))) tNil)) tNil)))) tNil)) D σ H :=
  ⟨_, h3, .inl ⟨rfl, _, sq_of hl⟩, draw_rd hP h0 h1 hs ha hy y0 y1 fun x H6 hx kp6 hP6 => ⟨l, _, _, rfl, rfl, kp6 _ _ hlp hl, by rw [List.length_map]; exact sz_lt hz, k x H6 hx kp6 hP6⟩⟩
/-- how many opens wait behind letters; none where a close is bare -/
def bal (os qs : List Str) : List Str → Nat → Option Nat
  | [], n => some n
  | x :: r, n => match kdOf os qs x with
    | .op => bal os qs r (n + 1)
    | .pl => bal os qs r n
    | .cl => match n with
      | 0 => none
      | m + 1 => bal os qs r m
theorem bal_app (os qs : List Str) : ∀ (a b : List Str) (n : Nat), bal os qs (a ++ b) n = (bal os qs a n).bind (bal os qs b)
  | [], b, n => rfl
  | x :: r, b, n => by
    show bal os qs (x :: (r ++ b)) n = (bal os qs (x :: r) n).bind (bal os qs b)
    unfold bal
    cases kdOf os qs x with
    | op => exact bal_app os qs r b (n + 1)
    | pl => exact bal_app os qs r b n
    | cl =>
      cases n with
      | zero => rfl
      | succ m => exact bal_app os qs r b m
theorem bal_one_op {os qs : List Str} {x : Str} (h : x ∈ os) (n : Nat) : bal os qs [x] n = some (n + 1) := by
  unfold bal
  rw [kd_op.mpr h]
  rfl
theorem bal_one_cl {os ps qs : List Str} (hS : Sht os ps qs) {x : Str} (h : x ∈ qs) (n : Nat) : bal os qs [x] (n + 1) = some n := by
  unfold bal
  rw [(kd_cl hS).mpr h]
  rfl
theorem bal_one_pl {os ps qs : List Str} (hS : Sht os ps qs) {x : Str} (h : x ∈ ps) (n : Nat) : bal os qs [x] n = some n := by
  unfold bal
  rw [hS.plain h]
  rfl
theorem lS_add (ws : List Str) (x : Str) : HO.lst (ws.map V.str ++ [.str x]) = lS (ws ++ [x]) := by
  unfold lS
  rw [List.map_append]
  rfl
theorem Keep.fresh {p q : Addr} {H H' : Hp} (k : Keep p H H') (hq : q ≠ p) (h : H' q = none) : H q = none := by
  cases e : H q with
  | none => rfl
  | some o =>
    rw [k q o hq e] at h
    cases h
section
variable {P : Program} {w : World} {K : PySem.W.Frag} {mg : Str → Option Value} {base : Heap}
end
end Eh
set_option Elab.async false
set_option linter.all false
set_option maxRecDepth 100000
set_option maxHeartbeats 4000000
namespace Eh
open PySem PySem.Spec PyProof.Rows L2 Evl
/-! what answers what in a part of a word -/
theorem bal_take {os qs : List Str} {G : List Str} (hb : bal os qs G 0 = some 0) : ∀ i, i ≤ G.length → bal os qs (G.take i) 0 = some (run (kfOf os qs G) G.length i).2.length
  | 0, _ => rfl
  | i + 1, hi => by
    have ih := bal_take hb i (by omega)
    have hi' : i < G.length := by omega
    have e1 : G.take (i + 1) = G.take i ++ [G[i]] := by rw [List.take_succ, List.getElem?_eq_getElem hi']; rfl
    have e2 : G = G.take i ++ G.drop i := (List.take_append_drop i G).symm
    have e3 : G.drop i = G[i] :: G.drop (i + 1) := List.drop_eq_getElem_cons hi'
    have kk : kfOf os qs G i = kdOf os qs G[i] := kfOf_at (List.getElem?_eq_getElem hi')
    rw [e1, bal_app, ih]
    show bal os qs [G[i]] (run (kfOf os qs G) G.length i).2.length = some (step (kfOf os qs G) i (run (kfOf os qs G) G.length i)).2.length
    have hb2 : ((bal os qs (G.take i) 0).bind (bal os qs (G.drop i))) = some 0 := by rw [← bal_app, ← e2]; exact hb
    rw [ih, e3] at hb2
    replace hb2 : bal os qs (G[i] :: G.drop (i + 1)) (run (kfOf os qs G) G.length i).2.length = some 0 := hb2
    unfold step
    rw [kk]
    unfold bal at hb2 ⊢
    cases h : kdOf os qs G[i] with
    | op => rfl
    | pl => rfl
    | cl =>
      rw [h] at hb2
      cases hs : (run (kfOf os qs G) G.length i).2 with
      | nil =>
        rw [hs] at hb2
        cases hb2
      | cons b r => rfl
theorem tv_set2 {t : List (Option Nat)} {a b : Nat} {u v : Option Nat} (ha : a < t.length) (hb : b < t.length) (j : Nat) : tv ((t.set b v).set a u) j = if j = a then u else if j = b then v else tv t j := by
  rw [tv_set (by rw [List.length_set]; exact ha), tv_set hb]
theorem sim {os qs : List Str} {kf : Nat → Kd} {n s : Nat} {G : List Str} (hb : bal os qs G 0 = some 0) (hk : ∀ i, i < G.length → kf (s + i) = kfOf os qs G i) (hn : s + G.length ≤ n) :
    ∀ i, i ≤ G.length → (run kf n (s + i)).2 = (run (kfOf os qs G) G.length i).2.map (· + s) ++ (run kf n s).2 ∧ ∀ j, j < G.length → tv (run kf n (s + i)).1 (s + j) = (tv (run (kfOf os qs G) G.length i).1 j).map (· + s)
  | 0, _ => by
    refine ⟨rfl, fun j hj => ?_⟩
    have g1 := (good_run kf n s (by omega)).hi (s + j) (by omega)
    have g2 := (good_run (kfOf os qs G) G.length 0 (by omega)).hi j (by omega)
    show tv (run kf n s).1 (s + j) = _
    rw [g1, g2]
    rfl
  | i + 1, hi => by
    obtain ⟨ih1, ih2⟩ := sim hb hk hn i (by omega)
    have g1 := good_run kf n (s + i) (by omega)
    have g2 := good_run (kfOf os qs G) G.length i (by omega)
    have hbt := bal_take hb (i + 1) hi
    have kk := hk i (by omega)
    show (step kf (s + i) (run kf n (s + i))).2 = (step (kfOf os qs G) i (run (kfOf os qs G) G.length i)).2.map (· + s) ++ (run kf n s).2 ∧ ∀ j, j < G.length → tv (step kf (s + i) (run kf n (s + i))).1 (s + j) = (tv (step (kfOf os qs G) i (run (kfOf os qs G) G.length i)).1 j).map (· + s)
    have hne : kfOf os qs G i = .cl → (run (kfOf os qs G) G.length i).2 ≠ [] := fun hc hnil => by
      have ht := bal_take hb i (by omega)
      rw [hnil] at ht
      have hi' : i < G.length := by omega
      have e1 : G.take (i + 1) = G.take i ++ [G[i]] := by rw [List.take_succ, List.getElem?_eq_getElem hi']; rfl
      rw [e1, bal_app, ht] at hbt
      have kk2 : kfOf os qs G i = kdOf os qs G[i] := kfOf_at (List.getElem?_eq_getElem hi')
      rw [kk2] at hc
      replace hbt : bal os qs [G[i]] 0 = _ := hbt
      unfold bal at hbt
      rw [hc] at hbt
      cases hbt
    generalize run kf n (s + i) = S at ih1 ih2 g1 ⊢
    generalize run (kfOf os qs G) G.length i = S' at ih1 ih2 g2 hne ⊢
    obtain ⟨t, st⟩ := S
    obtain ⟨t', st'⟩ := S'
    replace g1 : Good kf n (s + i) t st := g1
    replace g2 : Good (kfOf os qs G) G.length i t' st' := g2
    replace ih1 : st = st'.map (· + s) ++ (run kf n s).2 := ih1
    replace ih2 : ∀ j, j < G.length → tv t (s + j) = (tv t' j).map (· + s) := ih2
    unfold step
    rw [kk]
    cases hc : kfOf os qs G i with
    | op =>
      refine ⟨?_, ih2⟩
      show (s + i) :: st = ((i :: st').map (· + s)) ++ _
      rw [ih1, List.map_cons, Nat.add_comm i s]
      rfl
    | pl => exact ⟨ih1, ih2⟩
    | cl =>
      cases st' with
      | nil => exact absurd rfl (hne hc)
      | cons b r =>
        rw [ih1]
        have hb1 : b < i := (g2.bd b (List.mem_cons_self ..)).1
        refine ⟨rfl, fun j hj => ?_⟩
        show tv ((t.set (b + s) (some (s + i))).set (s + i) (some (b + s))) (s + j) = (tv ((t'.set b (some i)).set i (some b)) j).map (· + s)
        have l1 := g1.len
        have l2 := g2.len
        rw [tv_set2 (t := t) (by omega) (by omega), tv_set2 (t := t') (by omega) (by omega)]
        by_cases e1 : j = i
        · subst e1
          rw [if_pos rfl, if_pos rfl]
          rfl
        · rw [if_neg (by omega), if_neg e1]
          by_cases e2 : j = b
          · subst e2
            rw [if_pos (by omega), if_pos rfl]
            show some (s + i) = some (i + s)
            rw [Nat.add_comm]
          · rw [if_neg (by omega), if_neg e2]
            exact ih2 j hj
theorem st_end {os qs : List Str} {G : List Str} (hb : bal os qs G 0 = some 0) : (run (kfOf os qs G) G.length G.length).2 = [] := by
  have := bal_take hb G.length (Nat.le_refl _)
  rw [List.take_length, hb] at this
  exact List.length_eq_zero_iff.mp (Option.some.inj this).symm
theorem kf_mid {os qs A G B : List Str} {i : Nat} (hi : i < G.length) : kfOf os qs (A ++ G ++ B) (A.length + i) = kfOf os qs G i := by
  unfold kfOf
  rw [List.getElem?_append_left (by rw [List.length_append]; omega), List.getElem?_append_right (by omega), Nat.add_sub_cancel_left]
/-- in a balanced part what answers is as in it alone -/
theorem ans_mid {os qs A G B : List Str} (hb : bal os qs G 0 = some 0) {i : Nat} (hi : i < G.length) : tv (ansOf os qs (A ++ G ++ B)) (A.length + i) = (tv (ansOf os qs G) i).map (· + A.length) := by
  have hn : (A ++ G ++ B).length = A.length + G.length + B.length := by rw [List.length_append, List.length_append]
  obtain ⟨s1, s2⟩ := sim (kf := kfOf os qs (A ++ G ++ B)) (n := (A ++ G ++ B).length) (s := A.length) hb (fun i hi => kf_mid hi) (by omega) G.length (Nat.le_refl _)
  have h2 := s2 i hi
  have later := run_later (kfOf os qs (A ++ G ++ B)) (A ++ G ++ B).length (A.length + G.length) (A.length + i) B.length (by omega)
  have gG := good_run (kfOf os qs G) G.length G.length (Nat.le_refl _)
  have gW := good_run (kfOf os qs (A ++ G ++ B)) (A ++ G ++ B).length (A ++ G ++ B).length (Nat.le_refl _)
  have e0 : A.length + G.length + B.length = (A ++ G ++ B).length := hn.symm
  rw [e0] at later
  show tv (run (kfOf os qs (A ++ G ++ B)) (A ++ G ++ B).length (A ++ G ++ B).length).1 (A.length + i) = (tv (run (kfOf os qs G) G.length G.length).1 i).map (· + A.length)
  cases hg : tv (run (kfOf os qs G) G.length G.length).1 i with
  | some m =>
    rw [hg] at h2
    exact later.1 _ h2
  | none =>
    rw [hg] at h2
    cases hw : tv (run (kfOf os qs (A ++ G ++ B)) (A ++ G ++ B).length (A ++ G ++ B).length).1 (A.length + i) with
    | none => rfl
    | some m =>
      exfalso
      rcases later.2 (by omega) h2 with z | ⟨m', hm', z⟩
      · rw [hw] at z
        cases z
      · obtain ⟨p1, p2, p3, p4⟩ := gW.pr _ _ z
        rcases p4 with ⟨k1, k2, k3, k4⟩ | ⟨k1, k2, k3, k4⟩
        · rw [kf_mid hi] at k1
          have := gG.opn i hi k1 hg
          rw [st_end hb] at this
          exact List.not_mem_nil this
        · omega
theorem ans_wrap1 {os ps qs : List Str} (hS : Sht os ps qs) {a c : Str} (ha : a ∈ os) (hc : c ∈ qs) {G : List Str} (hb : bal os qs G 0 = some 0) : tv (ansOf os qs ([a] ++ G ++ [c])) 0 = some (G.length + 1) := by
  have hn : ([a] ++ G ++ [c]).length = G.length + 2 := by rw [List.length_append, List.length_append]; show 1 + G.length + 1 = _; omega
  obtain ⟨s1, _⟩ := sim (kf := kfOf os qs ([a] ++ G ++ [c])) (n := ([a] ++ G ++ [c]).length) (s := [a].length) hb (fun i hi => kf_mid hi) (by rw [hn]; show 1 + G.length ≤ _; omega) G.length (Nat.le_refl _)
  rw [st_end hb] at s1
  have k0 : kfOf os qs ([a] ++ G ++ [c]) 0 = .op := by
    rw [kfOf_at (x := a) rfl]
    exact kd_op.mpr ha
  have kc : kfOf os qs ([a] ++ G ++ [c]) (1 + G.length) = .cl := by
    rw [kfOf_at (x := c) (by rw [List.getElem?_append_right (by rw [List.length_append]; exact Nat.le_refl _), List.length_append]; show [c][1 + G.length - (1 + G.length)]? = _; rw [Nat.sub_self]; rfl)]
    exact (kd_cl hS).mpr hc
  have g := good_run (kfOf os qs ([a] ++ G ++ [c])) ([a] ++ G ++ [c]).length (1 + G.length) (by omega)
  show tv (run (kfOf os qs ([a] ++ G ++ [c])) ([a] ++ G ++ [c]).length ([a] ++ G ++ [c]).length).1 0 = _
  rw [show run (kfOf os qs ([a] ++ G ++ [c])) ([a] ++ G ++ [c]).length ([a] ++ G ++ [c]).length = step (kfOf os qs ([a] ++ G ++ [c])) (1 + G.length) (run (kfOf os qs ([a] ++ G ++ [c])) ([a] ++ G ++ [c]).length (1 + G.length)) by
    conv => lhs; rw [show ([a] ++ G ++ [c]).length = G.length + 1 + 1 from hn]
    conv => rhs; rw [show ([a] ++ G ++ [c]).length = G.length + 1 + 1 from hn]
    rw [Nat.add_comm 1 G.length]
    rfl]
  have s1' : (run (kfOf os qs ([a] ++ G ++ [c])) ([a] ++ G ++ [c]).length (1 + G.length)).2 = [0] := by
    rw [show (1 : Nat) = [a].length from rfl, s1]
    show [] ++ (step (kfOf os qs ([a] ++ G ++ [c])) 0 _).2 = [0]
    unfold step
    rw [k0]
    rfl
  unfold step
  rw [kc, s1']
  show tv (((run _ _ _).1.set 0 (some (1 + G.length))).set (1 + G.length) (some 0)) 0 = _
  have l := g.len
  rw [tv_set (by rw [List.length_set]; omega), if_neg (by omega), tv_set (by omega), if_pos rfl, Nat.add_comm]
theorem ans_inv {os qs W : List Str} {i j : Nat} (h : tv (ansOf os qs W) i = some j) : j < W.length ∧ tv (ansOf os qs W) j = some i := by
  have g := (good_run (kfOf os qs W) W.length W.length (Nat.le_refl _)).pr i j h
  exact ⟨g.2.1, g.2.2.1⟩
theorem ansOf_len' (os qs W : List Str) : (ansOf os qs W).length = W.length := (good_run (kfOf os qs W) W.length W.length (Nat.le_refl _)).len
theorem ans_out {os qs W : List Str} {i : Nat} (h : W.length ≤ i) : tv (ansOf os qs W) i = none := (good_run (kfOf os qs W) W.length W.length (Nat.le_refl _)).hi i h
theorem bal_mid {os ps qs : List Str} (hS : Sht os ps qs) {a c : Str} (ha : a ∈ os) (hc : c ∈ qs) {G : List Str} (hb : ∀ n, bal os qs G n = some n) : ∀ n, bal os qs ([a] ++ G ++ [c]) n = some n := fun n => by
  rw [bal_app, bal_app, bal_one_op ha]
  show ((bal os qs G (n + 1))).bind _ = _
  rw [hb]
  exact bal_one_cl hS hc n
theorem bal_up {os qs : List Str} : ∀ (G : List Str) (n m : Nat), bal os qs G n = some m → ∀ k, bal os qs G (n + k) = some (m + k)
  | [], n, m, h, k => by rw [Option.some.inj h]; rfl
  | x :: r, n, m, h, k => by
    unfold bal at h ⊢
    cases hx : kdOf os qs x with
    | op =>
      rw [hx] at h
      have := bal_up r (n + 1) m h k
      rw [show n + 1 + k = n + k + 1 by omega] at this
      exact this
    | pl =>
      rw [hx] at h
      exact bal_up r n m h k
    | cl =>
      rw [hx] at h
      cases n with
      | zero => cases h
      | succ n' =>
        have := bal_up r n' m h k
        rw [show n' + 1 + k = n' + k + 1 by omega]
        exact this
theorem bal_all {os qs G : List Str} (h : bal os qs G 0 = some 0) (n : Nat) : bal os qs G n = some n := by
  have := bal_up G 0 0 h n
  rw [Nat.zero_add] at this
  exact this
theorem wrap_succ (k : Nat) (a c : Str) (G : List Str) : List.replicate (k + 1) a ++ G ++ List.replicate (k + 1) c = [a] ++ (List.replicate k a ++ G ++ List.replicate k c) ++ [c] := by
  rw [List.replicate_succ, List.replicate_succ']
  simp
theorem bal_wrap {os ps qs : List Str} (hS : Sht os ps qs) {a c : Str} (ha : a ∈ os) (hc : c ∈ qs) {G : List Str} (hb : bal os qs G 0 = some 0) : ∀ k, bal os qs (List.replicate k a ++ G ++ List.replicate k c) 0 = some 0
  | 0 => by
    rw [List.replicate_zero, List.replicate_zero, List.append_nil, List.nil_append]
    exact hb
  | k + 1 => by
    rw [wrap_succ]
    exact bal_mid hS ha hc (bal_all (bal_wrap hS ha hc hb k)) 0
theorem bal_flat {os qs : List Str} : ∀ Ws : List (List Str), (∀ W ∈ Ws, bal os qs W 0 = some 0) → bal os qs Ws.flatten 0 = some 0
  | [], _ => rfl
  | W :: r, h => by
    rw [List.flatten_cons, bal_app, h W (List.mem_cons_self ..)]
    exact bal_flat r fun W hW => h W (List.mem_cons_of_mem _ hW)
theorem ans_wrap {os ps qs : List Str} (hS : Sht os ps qs) {a c : Str} (ha : a ∈ os) (hc : c ∈ qs) {G : List Str} (hb : bal os qs G 0 = some 0) : ∀ (k i : Nat), i < k → tv (ansOf os qs (List.replicate k a ++ G ++ List.replicate k c)) i = some (2 * k + G.length - 1 - i)
  | 0, i, h => absurd h (Nat.not_lt_zero _)
  | k + 1, i, h => by
    have hw := bal_wrap hS ha hc hb k
    have hlen : (List.replicate k a ++ G ++ List.replicate k c).length = 2 * k + G.length := by
      rw [List.length_append, List.length_append, List.length_replicate, List.length_replicate]
      omega
    rw [wrap_succ]
    cases i with
    | zero =>
      rw [ans_wrap1 hS ha hc hw, hlen]
      congr 1
      omega
    | succ i =>
      have e := ans_mid (A := [a]) (B := [c]) hw (i := i) (by omega)
      rw [show i + 1 = [a].length + i by show _ = 1 + i; omega, e, ans_wrap hS ha hc hb k i (by omega)]
      show some (2 * k + G.length - 1 - i + 1) = some (2 * (k + 1) + G.length - 1 - (1 + i))
      congr 1
      omega
/-- a wrap's own letters answer one another from the ends on -/
theorem ans_own {os ps qs : List Str} (hS : Sht os ps qs) {a c : Str} (ha : a ∈ os) (hc : c ∈ qs) {G : List Str} (hb : bal os qs G 0 = some 0) {k i : Nat} (h : i < k ∨ k + G.length ≤ i) (hi : i < 2 * k + G.length) : tv (ansOf os qs (List.replicate k a ++ G ++ List.replicate k c)) i = some (2 * k + G.length - 1 - i) := by
  rcases h with h | h
  · exact ans_wrap hS ha hc hb k i h
  · have := (ans_inv (ans_wrap hS ha hc hb k (2 * k + G.length - 1 - i) (by omega))).2
    rw [show 2 * k + G.length - 1 - (2 * k + G.length - 1 - i) = i by omega] at this
    exact this
end Eh
set_option Elab.async false
set_option linter.all false
set_option maxRecDepth 100000
set_option maxHeartbeats 4000000
namespace Eh
open PySem PySem.Spec PyProof.Rows L2 Evl
def ordKV : List Str → Nat → List (Key × V)
  | [], _ => []
  | x :: r, n => (.inr x, .int (n : Int)) :: ordKV r (n + 1)
theorem ordKV_app : ∀ (a b : List Str) (n : Nat), ordKV (a ++ b) n = ordKV a n ++ ordKV b (n + a.length)
  | [], b, n => rfl
  | x :: r, b, n => by
    show (.inr x, .int (n : Int)) :: ordKV (r ++ b) (n + 1) = (.inr x, .int (n : Int)) :: (ordKV r (n + 1) ++ ordKV b (n + (r.length + 1)))
    rw [ordKV_app r b (n + 1), show n + 1 + r.length = n + (r.length + 1) by omega]
theorem ordKV_len : ∀ (a : List Str) (n : Nat), (ordKV a n).length = a.length
  | [], n => rfl
  | x :: r, n => by
    show (ordKV r (n + 1)).length + 1 = r.length + 1
    rw [ordKV_len r (n + 1)]
theorem ordKV_none : ∀ (a : List Str) (n : Nat) (x : Str), ¬ x ∈ a → valV (ordKV a n) (.inr x) = none
  | [], n, x, _ => rfl
  | y :: r, n, x, h => by
    have h1 : ¬ y = x := fun e => h (by rw [e]; exact List.mem_cons_self ..)
    have h2 : ¬ x ∈ r := fun e => h (List.mem_cons_of_mem _ e)
    show valV ((Sum.inr y, V.int (n : Int)) :: ordKV r (n + 1)) (.inr x) = none
    rw [valV_neg (fun e => h1 (Sum.inr.inj e))]
    exact ordKV_none r (n + 1) x h2
theorem ordKV_some : ∀ (a : List Str) (n : Nat) (x : Str), x ∈ a → valV (ordKV a n) (.inr x) = some (.int ((n + a.idxOf x : Nat) : Int))
  | [], n, x, h => (List.not_mem_nil h).elim
  | y :: r, n, x, h => by
    show valV ((Sum.inr y, V.int (n : Int)) :: ordKV r (n + 1)) (.inr x) = _
    by_cases e : y = x
    · subst e
      rw [valV_pos (by rfl), List.idxOf_cons_self]
      rfl
    · rw [valV_neg (fun z => e (Sum.inr.inj z)), ordKV_some r (n + 1) x ((List.mem_cons.mp h).resolve_left fun z => e z.symm), List.idxOf_cons, show (y == x) = false from beq_false_of_ne e]
      show some (V.int ((n + 1 + r.idxOf x : Nat) : Int)) = some (V.int ((n + (r.idxOf x + 1) : Nat) : Int))
      rw [show n + 1 + r.idxOf x = n + (r.idxOf x + 1) by omega]
/-- one tuple behind the other, the first with something in it -/
theorem cat_rd {K : PySem.W.Frag} {a b : Addr} {xs ys : List V} {H : Hp} {Q : VK} (h1 : SqT K H a xs) (h2 : SqT K H b ys) (n0 : xs ≠ []) (hz : xs.length + ys.length ≤ 1000) (q : ∀ p H', Ex H H' → SqT K H' p (xs ++ ys) → Q (.ref p) H') : rCatT K (.ref a) (.ref b) H Q :=
  ⟨a, b, xs, ys, rfl, rfl, h1, h2, n0, sz_of (by omega), fun e => q a H (Ex.refl H) (by rw [e, List.append_nil]; exact h1), fun _ p np => q p _ (Ex.new np) (st_of upd_same)⟩
/-- {.. for i, x in enumerate(tuple)} -/
theorem dc_enumT {K : PySem.W.Frag} {a : Addr} {xs : List V} {tt : TT} {tk tv : TE} {σ : L2.St} {H1 : Hp} {Dd : Addr} {Qd : Hp → Prop} {i1 i2 : Nat} {vs : List Nat} (Pv : Nat → Hp → Prop) (h0 : Pv 0 (upd H1 Dd (.dK []))) (hl : ∀ i H, i ≤ xs.length → Pv i H → SqT K H a xs)
    (hs : ∀ i x H T, xs[i]? = some x → Pv i H → H T = none → wipe (((wipe σ vs).set i1 (some (.int (i : Nat)))).set i2 (some x)) vs = wipe σ vs ∧ tt (((wipe σ vs).set i1 (some (.int (i : Nat)))).set i2 (some x)) (upd H T (.tup [.int (i : Nat), x])) fun b H3 => if b = true then tk (((wipe σ vs).set i1 (some (.int (i : Nat)))).set i2 (some x)) H3 fun y H4 => tv (((wipe σ vs).set i1 (some (.int (i : Nat)))).set i2 (some x)) H4 fun z H5 => ∃ kvs k, y = kV k ∧ H5 Dd = some (.dK kvs) ∧ kvs.length < sizeLine ∧ Pv (i + 1) (upd H5 Dd (.dK (putK kvs k z))) else Pv (i + 1) H3)
    (hd : ∀ H, Pv xs.length H → Qd H) :
    ∃ W : Nat → Nat → Hp → Prop, (∃ m, W 0 m (upd H1 Dd (.dK []))) ∧ ∀ i m H, W i m H → ((IteT K a).stop i H ∧ Qd H) ∨ ((IteT K a).go i H ∧ ∃ Nx : Hp → Prop, (∀ H', Nx H' → ∃ m', m' < m ∧ W (i + 1) m' H') ∧ ∀ x H', (IteT K a).yld i H x H' → gTup K 2 (gCons (gName i1) (gCons (gName i2) gNil)) x (wipe σ vs) H' fun σ2 H2 => wipe σ2 vs = wipe σ vs ∧ tt σ2 H2 fun b H3 => if b = true then tk σ2 H3 fun y H4 => tv σ2 H4 fun z H5 => ∃ kvs k, y = kV k ∧ H5 Dd = some (.dK kvs) ∧ kvs.length < sizeLine ∧ Nx (upd H5 Dd (.dK (putK kvs k z))) else Nx H3) := by
  refine ⟨fun i m H => m = xs.length - i ∧ i ≤ xs.length ∧ Pv i H, ⟨xs.length, by omega, Nat.zero_le _, h0⟩, ?_⟩
  rintro i m H ⟨rfl, hi, pp⟩
  have sq := hl i H hi pp
  by_cases hlt : i < xs.length
  · refine .inr ⟨⟨xs, xs[i], sq, List.getElem?_eq_getElem hlt⟩, Pv (i + 1), fun H' p' => ⟨xs.length - (i + 1), by omega, rfl, hlt, p'⟩, fun v H' y => ?_⟩
    obtain ⟨T, x, rfl, nT, rfl, f⟩ := y
    exact ⟨T, [.int (i : Nat), x], rfl, st_of upd_same, rfl, _, _, rfl, _, _, rfl, rfl, hs i x H T (f xs sq) pp nT⟩
  · have e : i = xs.length := by omega
    subst e
    exact .inl ⟨⟨xs, sq, rfl⟩, hd H pp⟩
abbrev nOrderOf : List Str := ["sheet", "opens", "plains", "closes", "number", "letter"]
theorem scOrderOf : FnScope nOrderOf ["sheet"] (defScope sOrderOf) := ⟨rfl, rfl, rfl, by decide +kernel, rfl, by decide +kernel, by decide +kernel⟩
theorem scNeedWord : FnScope ["sheet", "word", "order", "place", "letter"] ["sheet", "word"] (defScope sNeedWord) := ⟨rfl, rfl, rfl, by decide +kernel, rfl, by decide +kernel, by decide +kernel⟩
section
variable {P : Program} {w : World} {K : PySem.W.Frag} {mg : Str → Option Value} {base : Heap}
def spOrderOf : Sp := fun vs H Q _ => ∃ (s : Addr) (os ps qs : List Str), vs = [.ref s] ∧ Sht os ps qs ∧ SheetAt H s os ps qs ∧ ∀ d H', Ex H H' → H d = none → H' d = some (.dK (ordKV (os ++ ps ++ qs) 0)) → Q (.ref d) H'
theorem ok_orderOf {f : Addr} {fd : FuncData} {k : Nat} (F : Fun K "order_of" "order_of" sOrderOf f fd) (me : mg "enumerate" = none) : FnOk P w K mg base CX0 (k + 1) f fd ["sheet"] spOrderOf := by
  have nd := scOrderOf.nd
  refine F.ok scOrderOf (fun vs H Q E h => ?_) (fun cdv A outer s H vs Q E hr h => ?_)
  · obtain ⟨s, os, ps, qs, rfl, _⟩ := h
    rfl
  · obtain ⟨s, os, ps, qs, rfl, hS, ⟨ao, ap, ac, h0, h1, h2, h3⟩, q⟩ := h
    refine ⟨_, pss_cons (ps_asg (pv 0) (pg_tup rfl (pgs_cons (pg_name (i := 1) nd rfl (.inl rfl)) (pgs_cons (pg_name (i := 2) nd rfl (.inl rfl)) (pgs_cons (pg_name (i := 3) nd rfl (.inl rfl)) pgs_nil)))))
      (pss_one (ps_ret (pe_dc (own := [("number", 4), ("letter", 5)]) (g := gTup K 2 (gCons (gName 4) (gCons (gName 5) gNil))) (tt := tYes) rfl nd (pi_enumT (by rfl) me (pa_cons (pe_op op_catT (pe_op op_catT (pv 1) (pv 2)) (pv 3)) pa_nil)) (blkOk_by (own := [("number", 4), ("letter", 5)]) (N := nOrderOf) (sc := defScope sOrderOf) (by decide +kernel))
        (fun _ _ _ _ _ => pg_tup rfl (pgs_cons (pg_name (i := 4) nd rfl (.inl rfl)) (pgs_cons (pg_name (i := 5) nd rfl (.inl rfl)) pgs_nil))) (fun _ _ _ _ _ => pts_nil) (fun _ _ _ _ _ => pv 5) (fun _ _ _ _ _ => pv 4)))), ?_⟩
    refine ⟨_, rfl, s, _, rfl, st_of h0, rfl, _, _, rfl, _, _, rfl, _, _, rfl, rfl, ?_⟩
    have on : os.map V.str ≠ [] := fun e => by
      have := hS.o1
      rw [← List.length_map (f := V.str), e] at this
      exact absurd this (by decide)
    have l1 : (os.map V.str).length + (ps.map V.str).length ≤ 1000 := by
      rw [List.length_map, List.length_map]
      have := hS.o4
      have := hS.p4
      omega
    refine ⟨_, rfl, _, rfl, cat_rd (st_of h1) (st_of h2) on l1 fun p1 H1 e1 g1 => ⟨_, rfl, cat_rd g1 (st_of (e1 _ _ h3)) (fun z => on (List.append_eq_nil_iff.mp z).1) ?_ fun p2 H2 e2 g2 => ?_⟩⟩
    · rw [List.length_append, List.length_map, List.length_map, List.length_map]
      have := hS.o4
      have := hS.p4
      have := hS.c4
      omega
    rw [← List.map_append, ← List.map_append] at g2
    generalize hL : os ++ ps ++ qs = L at *
    have hLl : L.length ≤ 12 := by
      rw [← hL, List.length_append, List.length_append]
      have := hS.o4
      have := hS.p4
      have := hS.c4
      omega
    have hLd : L.Nodup := by
      have := hS.nd
      rw [hL] at this
      exact this
    refine ⟨p2, _, rfl, g2, fun Dd nD => dc_enumT (xs := L.map V.str) (fun i H' => Ex H2 H' ∧ H' Dd = some (.dK (ordKV (L.take i) 0))) ⟨Ex.new nD, upd_same⟩ (fun i H' _ hh => ex_t hh.1 g2) ?_ ?_⟩
    · rintro i x H' T hx ⟨eH, hD⟩ nT
      refine ⟨rfl, yesT ?_⟩
      rw [List.getElem?_map] at hx
      obtain ⟨y, hy, rfl⟩ := Option.map_eq_some_iff.mp hx
      have eT : Ex H' (upd H' T (.tup [.int (i : Nat), .str y])) := Ex.new nT
      refine ⟨_, rfl, _, rfl, _, .inr y, rfl, eT _ _ hD, ?_, (eH.trans eT).mut nD, ?_⟩
      · rw [ordKV_len]
        exact sz_lt (by rw [List.length_take]; omega)
      · have hi := (List.getElem?_eq_some_iff.mp hy).1
        rw [upd_same, putK_new _ (ordKV_none _ _ _ ?_), List.take_add_one, hy, ordKV_app, List.length_take, Nat.min_eq_left (by omega), Nat.zero_add]
        · rfl
        · intro hm
          obtain ⟨j, hj, e⟩ := List.mem_take_iff_getElem.mp hm
          have : j = i := (List.getElem_inj hLd).mp (e.trans (List.getElem?_eq_some_iff.mp hy).2.symm)
          omega
    · rintro H' ⟨eH, hD⟩
      rw [List.length_map, List.take_length] at hD
      exact q Dd H' ((e1.trans e2).trans eH) (fresh_back (e1.trans e2) nD) hD
def spNeedWord (K : PySem.W.Frag) : Sp := fun vs H Q _ => ∃ (s l : Addr) (os ps qs ws : List Str), vs = [.ref s, .ref l] ∧ Sht os ps qs ∧ SheetAt H s os ps qs ∧ SqL K H l (ws.map V.str) ∧ (∀ x ∈ ws, x ∈ os ++ ps ++ qs) ∧ ∀ H', Ex H H' → Q .non H'
theorem ok_needWord {f fO : Addr} {fd fdO : FuncData} {k : Nat} (F : Fun K "need_word" "need_word" sNeedWord f fd) (FO : Fun K "order_of" "order_of" sOrderOf fO fdO) (bO : Binds K fdO ["sheet"] []) (gO : mg "order_of" = some (.ref fO)) (me : mg "enumerate" = none) : FnOk P w K mg base CX0 (k + 2) f fd ["sheet", "word"] (spNeedWord K) := by
  have GO : FnOk P w K mg base CX0 (k + 1) fO fdO ["sheet"] spOrderOf := ok_orderOf FO me
  have nd := scNeedWord.nd
  refine F.ok scNeedWord (fun vs H Q E h => ?_) (fun cdv A outer s H vs Q E hr h => ?_)
  · obtain ⟨s, l, os, ps, qs, ws, rfl, _⟩ := h
    rfl
  · obtain ⟨s, l, os, ps, qs, ws, rfl, hS, hs, hl, hw, q⟩ := h
    have hu := hu_of hr
    refine ⟨_, pss_cons (ps_set (i := 2) nd rfl (.inl rfl) (pe_call GO hr (by rfl) gO FO.kp bO .nil pass0 (pa_cons (pv 0) pa_nil)))
      (pss_one (ps_for PassesOwn.never rfl (pi_enum (by rfl) me (pa_cons (pv 1) pa_nil)) (pg_tup rfl (pgs_cons (pg_name (i := 3) nd rfl (.inl rfl)) (pgs_cons (pg_name (i := 4) nd rfl (.inl rfl)) pgs_nil)))
        (pss_one (ps_if (pt_cmp (pc_dnotin hu (pv 4) (pv 2))) (pss_one ps_never) pss_nil)))), ?_⟩
    refine ⟨_, rfl, s, os, ps, qs, rfl, hS, hs, fun d H1 e1 nd1 hd => ?_⟩
    refine ⟨_, rfl, l, _, rfl, ex_l e1 hl, for_enum (xs := ws.map V.str) (fun i σ H' => (∃ y3 y4, σ = [some (.ref s), some (.ref l), some (.ref d), y3, y4]) ∧ Ex H1 H') ⟨⟨_, _, rfl⟩, Ex.refl _⟩ (fun i σ H' _ hh => ex_l (e1.trans hh.2) hl) ?_ ?_⟩
    · rintro i x σ H' T hx ⟨⟨y3, y4, rfl⟩, eH⟩ nT
      rw [List.getElem?_map] at hx
      obtain ⟨y, hy, rfl⟩ := Option.map_eq_some_iff.mp hx
      have eT : Ex H' (upd H' T (.tup [.int (i : Nat), .str y])) := Ex.new nT
      have hin : y ∈ os ++ ps ++ qs := hw y (List.mem_of_getElem? hy)
      refine ⟨_, rfl, _, rfl, d, _, rfl, DGet.k (k := Sum.inr y) (eT _ _ (eH _ _ hd)), ?_⟩
      rw [ordKV_some _ _ _ hin]
      exact ⟨_, rfl, iteF ⟨⟨_, _, rfl⟩, eH.trans eT⟩⟩
    · rintro σ H' ⟨_, eH⟩
      exact q H' (e1.trans eH)
end
end Eh
set_option Elab.async false
set_option linter.all false
set_option maxRecDepth 100000
set_option maxHeartbeats 4000000
namespace Eh
open PySem PySem.Spec PyProof.Rows L2 Evl
theorem scAnswers : FnScope ["sheet", "word", "told", "waiting", "place", "letter", "begun"] ["sheet", "word"] (defScope sAnswers) := ⟨rfl, rfl, rfl, by decide +kernel, rfl, by decide +kernel, by decide +kernel⟩
theorem rv_isN {K : PySem.W.Frag} {x : V} {H : Hp} : RV (fun x y H Q => y = V.non ∧ Q (.bl (decide (x = .non))) H) x .non H (.bl (decide (x = .non))) := fun H1 _ _ q => ⟨rfl, q H1 (Ex.refl H1)⟩
theorem oV_non (o : Option Nat) : decide (oV o = .non) = decide (o = none) := by
  cases o with
  | none => rfl
  | some j => exact (decide_eq_false (fun z => nomatch z)).trans (decide_eq_false (fun z => nomatch z)).symm
section
variable {P : Program} {w : World} {K : PySem.W.Frag} {mg : Str → Option Value} {base : Heap}
def spAnswers (K : PySem.W.Frag) : Sp := fun vs H Q _ => ∃ (s l : Addr) (os ps qs ws : List Str), vs = [.ref s, .ref l] ∧ Sht os ps qs ∧ SheetAt H s os ps qs ∧ SqL K H l (ws.map V.str) ∧ (∀ x ∈ ws, x ∈ os ++ ps ++ qs) ∧ ws.length ≤ 10000 ∧ ∀ a H', Ex H H' → H a = none → H' a = some (tO (ansOf os qs ws)) → Q (.ref a) H'
theorem ok_answers {f fN : Addr} {fd fdN : FuncData} {k : Nat} (F : Fun K "answers" "answers" sAnswers f fd) (FN : Fun K "need_word" "need_word" sNeedWord fN fdN) (GN : FnOk P w K mg base CX0 (k + 1) fN fdN ["sheet", "word"] (spNeedWord K)) (bN : Binds K fdN ["sheet", "word"] []) (gN : mg "need_word" = some (.ref fN)) (ml : mg "len" = none) (me : mg "enumerate" = none) : FnOk P w K mg base CX0 (k + 2) f fd ["sheet", "word"] (spAnswers K) := by
  have nd := scAnswers.nd
  refine F.ok scAnswers (fun vs H Q E h => ?_) (fun cdv A outer s H vs Q E hr h => ?_)
  · obtain ⟨s, l, os, ps, qs, ws, rfl, _⟩ := h
    rfl
  · obtain ⟨s, l, os, ps, qs, ws, rfl, hS, hs, hl, hw, hlen, q⟩ := h
    refine ⟨_, pss_cons (ps_expr (pe_call GN hr (by rfl) gN FN.kp bN .nil pass0 (pa_cons (pv 0) (pa_cons (pv 1) pa_nil))))
      (pss_cons (ps_set (i := 2) nd rfl (.inl rfl) (pe_op op_rep (pe_lst (pa_cons pe_non pa_nil)) (pe_callB call_len_seq (by rfl) ml PySem.boot_len (pa_cons (pv 1) pa_nil))))
      (pss_cons (ps_set (i := 3) nd rfl (.inl rfl) (pe_lst pa_nil))
      (pss_cons (ps_for PassesOwn.never rfl (pi_enum (by rfl) me (pa_cons (pv 1) pa_nil)) (pg_tup rfl (pgs_cons (pg_name (i := 4) nd rfl (.inl rfl)) (pgs_cons (pg_name (i := 5) nd rfl (.inl rfl)) pgs_nil)))
        (pss_one (ps_if (pt_cmpR op_in_seq (pv 5) (pe_ix ix_tup (pv 0) pe_int (fun _ _ => rfl)) (by rfl))
          (pss_one (ps_expr (pe_bm PySem.F.plainAttrs_list PySem.F.slot_list_append PySem.F.type_list_append mt_append (pv 3) (pa_cons (pv 4) pa_nil))))
          (pss_one (ps_if (PW.pt (pw_and (pt_cmpR op_in_seq (pv 5) (pe_ix ix_tup (pv 0) pe_int (fun _ _ => rfl)) (by rfl)) (pw_and1 (pt_truth (pv 3) (by intro _; rfl)))))
            (pss_cons (ps_set (i := 6) nd rfl (.inl rfl) (pe_bm0 PySem.F.plainAttrs_list PySem.F.slot_list_pop PySem.F.type_list_pop mt_pop (pv 3)))
            (pss_cons (ps_asg (pv 4) (pg_sub (pv 2) (pv 6) set_list))
            (pss_one (ps_asg (pv 6) (pg_sub (pv 2) (pv 4) set_list)))))
            pss_nil)))))
      (pss_one (ps_ret (pv 2)))))), ?_⟩
    refine ⟨_, rfl, _, rfl, s, l, os, ps, qs, ws, rfl, hS, hs, hl, hw, fun H1 e1 => ?_⟩
    -- told
    refine ⟨(by show 1 ≤ sizeLine; decide), fun u nu => ?_⟩
    have e2 : Ex H1 (upd H1 u (.lst [.non])) := Ex.new nu
    refine ⟨_, rfl, l, _, rfl, .inl (ex_l (e1.trans e2) hl), u, _, _, rfl, rfl, upd_same, by omega, ?_, ?_, fun T nT => ?_⟩
    · rw [List.length_map]
      omega
    · rw [List.length_map, Int.toNat_natCast]
      exact sz_of (by simp only [List.length_singleton]; omega)
    rw [List.length_map, Int.toNat_natCast, flat_rep, show List.replicate ws.length V.non = (List.replicate ws.length (none : Option Nat)).map oV by rw [List.map_replicate]; rfl]
    have e3 : Ex H (upd (upd H1 u (.lst [.non])) T (tO (List.replicate ws.length none))) := (e1.trans e2).trans (Ex.new nT)
    have nTH : H T = none := fresh_back (e1.trans e2) nT
    have hT3 : (upd (upd H1 u (.lst [.non])) T (tO (List.replicate ws.length none))) T = some (tO (List.replicate ws.length none)) := upd_same
    show tSeq _ _ _ [some (.ref s), some (.ref l), some (.ref T), none, none, none, none] (upd (upd H1 u (.lst [.non])) T (tO (List.replicate ws.length none)))
    generalize upd (upd H1 u (.lst [.non])) T (tO (List.replicate ws.length none)) = H3 at e3 hT3 ⊢
    -- waiting
    refine ⟨Nat.zero_le _, fun W nW => ?_⟩
    have nWH : H W = none := fresh_back e3 nW
    have nTW : T ≠ W := ne_of_none hT3 nW
    have e4 : Ex H (upd H3 W (tN [])) := e3.trans (Ex.new nW)
    obtain ⟨ao, ap, ac, g0, g1, g2, g3⟩ := hs
    refine ⟨_, rfl, l, _, rfl, ex_l e4 hl, for_enum (xs := ws.map V.str) (fun i σ H' => (∃ y4 y5 y6, σ = [some (.ref s), some (.ref l), some (.ref T), some (.ref W), y4, y5, y6]) ∧ Ex H H' ∧ H' T = some (tO (run (kfOf os qs ws) ws.length i).1) ∧ H' W = some (tN (run (kfOf os qs ws) ws.length i).2.reverse)) ⟨⟨_, _, _, rfl⟩, e4, by rw [upd_ne nTW]; exact hT3, upd_same⟩ (fun i σ H' _ hh => ex_l hh.2.1 hl) ?_ ?_⟩
    · rintro i x σ H' Tp hx ⟨⟨y4, y5, y6, rfl⟩, eH, hT, hW⟩ nTp
      rw [List.getElem?_map] at hx
      obtain ⟨y, hy, rfl⟩ := Option.map_eq_some_iff.mp hx
      have hi := (List.getElem?_eq_some_iff.mp hy).1
      have GR := good_run (kfOf os qs ws) ws.length i (by omega)
      have hrun : run (kfOf os qs ws) ws.length (i + 1) = step (kfOf os qs ws) i (run (kfOf os qs ws) ws.length i) := rfl
      have hk : kfOf os qs ws i = kdOf os qs y := kfOf_at hy
      have eT : Ex H' (upd H' Tp (.tup [.int (i : Nat), .str y])) := Ex.new nTp
      have eHT := eH.trans eT
      replace hT := eT _ _ hT
      replace hW := eT _ _ hW
      generalize upd H' Tp (.tup [.int (i : Nat), .str y]) = H'' at eHT hT hW ⊢
      generalize run (kfOf os qs ws) ws.length i = S at GR hrun hT hW ⊢
      obtain ⟨t, st⟩ := S
      replace GR : Good _ _ i t st := GR
      replace hT : H'' T = some (tO t) := hT
      replace hW : H'' W = some (tN st.reverse) := hW
      have hlt := GR.len
      have hst : st.length ≤ i := by
        have := congrArg List.length (filter_desc i st GR.srt fun b hb => (GR.bd b hb).1)
        rw [List.length_reverse] at this
        rw [← this]
        have h2 := List.length_filter_le (fun a => decide (a ∈ st)) (List.range i)
        rw [List.length_range] at h2
        exact h2
      refine ⟨_, rfl, _, rfl, s, _, 0, .ref ao, rfl, rfl, st_of (eHT _ _ g0), rfl, ao, _, rfl, .inr (st_of (eHT _ _ g1)), rfl, flat_str os, _, rfl, ?_⟩
      show if inV (.str y) (os.map V.str) = true then _ else _
      rw [inV_str]
      refine ite2 (fun ho => ?_) (fun ho => ?_)
      · have hko : kfOf os qs ws i = .op := by
          rw [hk]
          unfold kdOf
          rw [if_pos (of_decide_eq_true ho)]
        refine ⟨_, rfl, .inl ⟨rfl, _, sq_of hW⟩, _, rfl, W, _, _, rfl, rfl, hW, ?_, ⟨_, _, _, rfl⟩, eHT.mut nWH, ?_, ?_⟩
        · rw [List.length_map, List.length_reverse]
          exact sz_lt (by omega)
        · rw [upd_ne nTW, hT, hrun]
          unfold step
          rw [hko]
        · rw [upd_same, hrun]
          unfold step
          rw [hko]
          show some (HO.lst (st.reverse.map nV ++ [nV i])) = some (HO.lst ((i :: st).reverse.map nV))
          rw [List.reverse_cons, List.map_append]
          rfl
      · have hno : ¬ y ∈ os := fun z => ho (decide_eq_true z)
        refine ⟨_, rfl, _, rfl, s, _, 2, .ref ac, rfl, rfl, st_of (eHT _ _ g0), rfl, ac, _, rfl, .inr (st_of (eHT _ _ g3)), rfl, flat_str qs, _, rfl, ?_⟩
        show if inV (.str y) (qs.map V.str) = true then _ else _
        rw [inV_str]
        refine ite2 (fun hc => ?_) (fun hc => ?_)
        · have hkc : kfOf os qs ws i = .cl := by
            rw [hk]
            unfold kdOf
            rw [if_neg hno, if_pos (of_decide_eq_true hc)]
          refine ⟨_, rfl, _, .inl ⟨_, sq_of hW, rfl⟩, ?_⟩
          cases st with
          | nil =>
            refine iteF ?_
            refine ⟨⟨_, _, _, rfl⟩, eHT, ?_, ?_⟩
            · rw [hT, hrun]
              unfold step
              rw [hkc]
            · rw [hW, hrun]
              unfold step
              rw [hkc]
          | cons b r =>
            obtain ⟨hb1, hb2, hb3⟩ := GR.bd b (List.mem_cons_self ..)
            have er : ((b :: r).reverse.map nV) = r.reverse.map nV ++ [nV b] := by
              rw [List.reverse_cons, List.map_append]
              rfl
            rw [er]
            have hemp : (!(r.reverse.map nV ++ [nV b]).isEmpty) = true := by
              rw [Bool.not_eq_true']
              cases r.reverse.map nV <;> rfl
            rw [hemp]
            refine iteT ?_
            have hW' : H'' W = some (.lst (r.reverse.map nV ++ [nV b])) := by
              rw [hW]
              unfold tN
              rw [er]
            refine ⟨_, rfl, .inl ⟨rfl, _, sq_of hW'⟩, W, _, nV b, rfl, rfl, hW', ?_, ?_⟩
            · rw [List.length_append, List.length_singleton, Nat.add_sub_cancel, List.getElem?_append_right (Nat.le_refl _), Nat.sub_self]
              rfl
            · rw [List.dropLast_concat]
              have hT1 : (upd H'' W (.lst (r.reverse.map nV))) T = some (tO t) := by
                rw [upd_ne nTW]
                exact hT
              refine ⟨_, rfl, _, rfl, _, rfl, T, _, _, b, rfl, rfl, hT1, ixN_nat (by rw [List.length_map]; omega), ?_⟩
              refine ⟨_, rfl, _, rfl, _, rfl, T, _, _, i, rfl, rfl, upd_same, ixN_nat (by rw [List.length_set, List.length_map]; omega), ⟨_, _, _, rfl⟩, ((eHT.mut nWH).mut nTH).mut nTH, ?_, ?_⟩
              · rw [upd_same, hrun]
                unfold step
                rw [hkc]
                show some (HO.lst (((t.map oV).set b (oV (some i))).set i (oV (some b)))) = some (tO ((t.set b (some i)).set i (some b)))
                rw [← List.map_set, ← List.map_set]
              · rw [upd_ne nTW.symm, upd_ne nTW.symm, upd_same, hrun]
                unfold step
                rw [hkc]
        · have hkp : kfOf os qs ws i = .pl := by
            rw [hk]
            unfold kdOf
            rw [if_neg hno, if_neg (fun z => hc (decide_eq_true z))]
          refine iteF ?_
          refine ⟨⟨_, _, _, rfl⟩, eHT, ?_, ?_⟩
          · rw [hT, hrun]
            unfold step
            rw [hkp]
          · rw [hW, hrun]
            unfold step
            rw [hkp]
    · rintro σ H' ⟨⟨y4, y5, y6, rfl⟩, eH, hT, hW⟩
      rw [List.length_map] at hT
      exact ⟨_, rfl, q T H' eH nTH hT⟩
end
end Eh
set_option Elab.async false
set_option linter.all false
set_option maxRecDepth 100000
set_option maxHeartbeats 4000000
/-! sorted of tuples of ints and texts that are alike up to the first place at which they differ -/
namespace Ms
open PySem PySem.Spec PyProof.Rows L2 PySem.W
def cK : Key → Int ⊕ List Nat
  | .inl i => .inl i
  | .inr x => .inr x.cps.toList
/-- the order of such tuples -/
def ltK (a b : List Key) : Bool := lexLt itemOrd (a.map cK) (b.map cK)
theorem swoK {α : Type} (k : α → List Key) : SrtO.Swo fun x y => ltK (k x) (k y) := by
  refine ⟨fun x y h => ?_, fun x y z h1 h2 => ?_⟩
  · cases e : ltK (k y) (k x) with
    | false => rfl
    | true =>
      have q := lex_trans (O := itemOrd) _ _ _ h e
      rw [lex_irrefl] at q
      cases q
  · cases e : ltK (k z) (k x) with
    | false => rfl
    | true =>
      rcases lex_negTrans (O := itemOrd) _ ((k y).map cK) _ e with q | q
      · rw [show lexLt itemOrd ((k z).map cK) ((k y).map cK) = false from h2] at q
        cases q
      · rw [show lexLt itemOrd ((k y).map cK) ((k x).map cK) = false from h1] at q
        cases q
/-- two of one kind -/
def same : Key → Key → Prop
  | .inl _, .inl _ => True
  | .inr _, .inr _ => True
  | _, _ => False
/-- may be compared -/
def May : List Key → List Key → Prop
  | a :: r, b :: t => (a = b → May r t) ∧ (a ≠ b → same a b)
  | _, _ => True
def isK (v : Value) : Key → Prop
  | .inl i => ∃ t, v = .int i t
  | .inr x => ∃ t, v = .str x t
inductive Its : List Value → List Key → Prop
  | nil : Its [] []
  | cons {v : Value} {k : Key} {vs : List Value} {ks : List Key} : isK v k → Its vs ks → Its (v :: vs) (k :: ks)
theorem Its.len : ∀ {vs : List Value} {ks : List Key}, Its vs ks → vs.length = ks.length
  | _, _, .nil => rfl
  | _, _, .cons _ r => congrArg (· + 1) r.len
section
variable {P : Program} {w : World} {A : Around} {E : Value → Shared → Prop} {s : Shared}
theorem mv_lex {b fin : Bool} {Q : Bool → Shared → Prop} : ∀ {ps qs : List Value} {as bs : List Key} (i : Nat), Its ps as → Its qs bs → May as bs → fin = decide (ps.length < qs.length) → Q (ltK as bs) s → KatLex P w A b fin Q (ps.zip qs) i s
  | _, _, _, _, i, .nil, .nil, _, hf, h => by
    subst hf
    exact kat_nil h
  | _, _, _, _, i, .nil, .cons _ _, _, hf, h => by
    subst hf
    refine kat_nil ?_
    rw [decide_eq_true (by simp)]
    exact h
  | _, _, _, _, i, .cons _ _, .nil, _, hf, h => by
    subst hf
    refine kat_nil ?_
    rw [decide_eq_false (by simp)]
    exact h
  | _, _, .inl n :: as, .inl m :: bs, i, .cons hp hr, .cons hq ht, hm, hf, h => by
    obtain ⟨t, rfl⟩ := hp
    obtain ⟨u, rfl⟩ := hq
    simp only [List.length_cons, Nat.add_lt_add_iff_right] at hf
    refine kat_cons (wpAny_eqBool_int (kat_go (fun e => kat_yes ?_) fun e => kat_no ?_))
    · obtain rfl : n = m := by simpa using e
      refine mv_lex (i + 1) hr ht (hm.1 rfl) hf ?_
      have : ltK (.inl n :: as) (.inl n :: bs) = ltK as bs := lex_self _ _ _
      rw [this] at h
      exact h
    · have ne : ¬ n = m := by simpa using e
      have : ltK (.inl n :: as) (.inl m :: bs) = decide (n < m) := lex_diff fun z => ne (Sum.inl.inj z)
      rw [this] at h
      exact oneLt_any_int h
  | _, _, .inr x :: as, .inr y :: bs, i, .cons hp hr, .cons hq ht, hm, hf, h => by
    obtain ⟨t, rfl⟩ := hp
    obtain ⟨u, rfl⟩ := hq
    simp only [List.length_cons, Nat.add_lt_add_iff_right] at hf
    refine kat_cons (wpAny_eqBool_str (kat_go (fun e => kat_yes ?_) fun e => kat_no ?_))
    · obtain rfl : x = y := of_decide_eq_true e
      refine mv_lex (i + 1) hr ht (hm.1 rfl) hf ?_
      have : ltK (.inr x :: as) (.inr x :: bs) = ltK as bs := lex_self _ _ _
      rw [this] at h
      exact h
    · have ne : ¬ x = y := of_decide_eq_false e
      have ne2 : x.cps.toList ≠ y.cps.toList := fun z => ne (by
        cases x
        cases y
        exact congrArg Str.mk (Array.toList_inj.mp z))
      have : ltK (.inr x :: as) (.inr y :: bs) = decide (x.cps.toList < y.cps.toList) := lex_diff fun z => ne2 (Sum.inr.inj z)
      rw [this] at h
      exact oneLt_any_str h
  | _, _, .inl n :: as, .inr y :: bs, i, .cons hp hr, .cons hq ht, hm, hf, h => (hm.2 (by simp)).elim
  | _, _, .inr x :: as, .inl m :: bs, i, .cons hp hr, .cons hq ht, hm, hf, h => (hm.2 (by simp)).elim
/-- a tuple with a text first -/
def IsMv (h : Heap) (v : Value) (ks : List Key) : Prop := ∃ a o xs n, v = .ref a ∧ h.get? a = some o ∧ o.cls = .type "tuple" ∧ o.data = .seq xs n ∧ Its xs.toList ks ∧ ∃ z r, ks = .inr z :: r
theorem IsMv.keeps {h h' : Heap} {v : Value} {ks : List Key} (m : IsMv h v ks) (k : ∀ b o, h.get? b = some o → o.cls = .type "tuple" → h'.get? b = some o) : IsMv h' v ks := by
  obtain ⟨a, o, xs, n, e, ho, hc, r⟩ := m
  exact ⟨a, o, xs, n, e, k a o ho hc, hc, r⟩
theorem mv_cmp {vs : List Value} {k : Value → List Key} (hv : ∀ v ∈ vs, IsMv s.heap v (k v)) (hm : ∀ v ∈ vs, ∀ u ∈ vs, May (k v) (k u)) : SrtO.Cmp P w A s (tuples' true) (fun p => p.1 ∈ vs) (SrtO.lt2 fun v u => ltK (k v) (k u)) := by
  intro p q hp hq
  obtain ⟨a, o, xs, n, e, ho, _, hd, hi, _⟩ := hv _ hp
  obtain ⟨a', o', xs', n', e', ho', _, hd', hi', _⟩ := hv _ hq
  have mm := hm _ hp _ hq
  show wpAny (model P w) A (keyLt' (tuples' true) p.1 q.1) (fun r z => z = s ∧ r = ltK (k p.1) (k q.1)) (fun _ _ => False) s
  generalize k p.1 = ka at hi mm ⊢
  generalize k q.1 = kb at hi' mm ⊢
  rw [e, e']
  exact kat_lt ho hd ho' hd' (mv_lex 0 hi hi' mm (by rw [Array.length_toList, Array.length_toList]) ⟨rfl, rfl⟩)
theorem mv_firsts {h : Heap} {k : Value → List Key} : ∀ {vs : List Value}, (∀ v ∈ vs, IsMv h v (k v)) → ∃ fs, KatTups h vs fs ∧ fs.length = vs.length ∧ ∀ f ∈ fs, ∃ x t, f = .str x t
  | [], _ => ⟨[], KatTups.nil, rfl, fun _ z => by cases z⟩
  | v :: vs, hv => by
    obtain ⟨fs, h1, h2, h3⟩ := mv_firsts (vs := vs) fun u hu => hv u (.tail _ hu)
    obtain ⟨a, o, xs, n, e, ho, hc, hd, hi, z, r, ek⟩ := hv v (.head _)
    rw [ek] at hi
    generalize hx : xs.toList = l at hi
    cases hi with
    | @cons f _ l' _ hf hr =>
      obtain ⟨t, rfl⟩ := hf
      refine ⟨.str z t :: fs, ?_, congrArg (· + 1) h2, fun f hf => ?_⟩
      · rw [e]
        refine KatTups.cons ho hc hd ?_ h1
        rw [← Array.getElem?_toList, hx]
        rfl
      · rcases List.mem_cons.mp hf with rfl | c
        · exact ⟨z, t, rfl⟩
        · exact h3 f c
theorem mv_sortable {a : Addr} {vs : List Value} {k : Value → List Key} (h0 : 0 < vs.length) (hv : ∀ v ∈ vs, IsMv s.heap v (k v)) (hm : ∀ v ∈ vs, ∀ u ∈ vs, May (k v) (k u)) (ha : ∀ o, s.heap.get? a = some o → o.cls ≠ .type "tuple") : SrtO.SortableO P w A s a vs fun v u => ltK (k v) (k u) := by
  intro h' keep
  have hv' : ∀ v ∈ vs, IsMv h' v (k v) := fun v c => (hv v c).keeps fun b o e c => keep b o (fun z => by subst z; exact ha o e c) e
  obtain ⟨fs, h1, h2, h3⟩ := mv_firsts hv'
  refine ⟨tuples' true, fun Q E hq => ?_, mv_cmp hv' hm⟩
  refine kat_kind (T := .type "str") h1 (by omega) (fun f c => ?_) (by rfl) ?_
  · obtain ⟨x, t, rfl⟩ := h3 f c
    exact Looks.now
  · rw [show (Value.type "str" != Value.type "tuple") = true by first | decide +kernel | rfl | decide]
    exact hq
end
end Ms
set_option Elab.async false
set_option linter.all false
set_option maxRecDepth 100000
set_option maxHeartbeats 4000000
/-! sorted(d), the keys of d such tuples -/
namespace Ms
open PySem PySem.Spec PyProof.Rows L2 PySem.W
section
variable {P : Program} {w : World} {A : Around} {d : Addr} {es : Array DictEntry} {ep : Nat}
theorem walk_raw (hh : A.handled = none) (I : Addr) (ne : d ≠ I) : Walks P w A I [I, d] [I] es.size (fun i v => ∃ en, es[i]? = some en ∧ v = en.key) (fun i h => h.IsKeyIter I d i es.size ep ∧ DT.Raw h d es ep) where
  sub := fun b hb => by
    rw [List.mem_singleton.mp hb]
    exact .head _
  frame := fun _ _ _ st k => ⟨st.1.at fun o e => k I (.head _) o e, st.2.at' fun o e => k d (.tail _ (.head _)) o e⟩
  item := fun i s Q E hi st hQ => by
    obtain ⟨o, ho, _, hd⟩ := id st.2
    refine next_key_item st.1 ho hd rfl (Array.getElem?_eq_getElem hi) fun h' it sb => ?_
    exact hQ _ h' s.toks ⟨_, Array.getElem?_eq_getElem hi, rfl⟩ ⟨it, st.2.at' fun o e => sb.extBut d o ne e⟩ fun b o hb e => sb.extBut b o (fun z => hb (by rw [z]; exact .head _)) e
  done := fun s Q E st hQ => by
    obtain ⟨o, ho, _, hd⟩ := id st.2
    exact next_key_end hh st.1 ho hd rfl (Nat.le_refl _) fun h' eb => hQ h' s.toks fun b o hb e => eb b o (fun z => hb (by rw [z]; exact .head _)) e
  self := fun _ _ _ _ st hQ => wpAny_pyIter_keyiter st.1 hQ
theorem src_raw (lo : (d == sysModules) = false) : KdlSrc P w "dict" d d es.size (fun i v => ∃ en, es[i]? = some en ∧ v = en.key) (fun h => DT.Raw h d es ep) where
  type := fun _ m => m.typeIs
  there := fun _ m => ⟨m.lt, m.lt⟩
  keep := fun _ _ m k => m.at' fun o e => k d (.inl rfl) o e
  notList := by decide
  notTuple := by decide
  hint := fun _ _ _ _ m q => kdl_hint_dict m.typeIs q
  iter := fun _ _ hh m => ⟨_, _, (fun _ _ q => by
    obtain ⟨o, ho, hc, hd⟩ := m
    exact iter_keys lo ho hc hd q), walk_raw hh _ (Nat.ne_of_lt m.lt), ⟨⟨_, Heap.get?_push_size _ rfl, rfl, rfl⟩, m.push _⟩⟩
end
/-- the keys that a tuple's items are -/
def unV : V → Option Key
  | .int i => some (.inl i)
  | .str x => some (.inr x)
  | _ => none
theorem unV_map : ∀ ks : List Key, (ks.map kV).filterMap unV = ks
  | [] => rfl
  | .inl i :: r => by
    show Sum.inl i :: (r.map kV).filterMap unV = _
    rw [unV_map r]
  | .inr x :: r => by
    show Sum.inr x :: (r.map kV).filterMap unV = _
    rw [unV_map r]
def kOf (H : Hp) : Value → List Key
  | .ref t => match H t with
    | some (.tup vs) => vs.filterMap unV
    | _ => []
  | _ => []
theorem kOf_at {H : Hp} {t : Addr} {ks : List Key} (h : H t = some (.tup (ks.map kV))) : kOf H (.ref t) = ks := by
  show (match H t with
    | some (.tup vs) => vs.filterMap unV
    | _ => []) = ks
  rw [h]
  exact unV_map ks
def adr : Value → Addr
  | .ref t => t
  | _ => 0
theorem its_of : ∀ {ks : List Key} {us : List Value}, Vals (ks.map kV) us → Its us ks
  | [], _, .nil => .nil
  | .inl i :: r, _, .cons a b => .cons a (its_of b)
  | .inr x :: r, _, .cons a b => .cons a (its_of b)
/-- sorted(d): the keys in their order, as they stand -/
def rSortMv : List V → Hp → VK → Prop := fun vs H Q => ∃ (a : Addr) (kvs : List (List Key × V)), vs = [.ref a] ∧ H a = some (.dT kvs) ∧ (∀ e ∈ kvs, ∃ z r, e.1 = .inr z :: r) ∧ (∀ e ∈ kvs, ∀ f ∈ kvs, May e.1 f.1) ∧
  ∀ (ps : List (Addr × List Key)) (l : Addr), (ps.map (·.2)).Perm (kvs.map (·.1)) → SrtO.Srtd ltK (ps.map (·.2)) → (∀ q ∈ ps, H q.1 = some (.tup (q.2.map kV))) → H l = none → Q (.ref l) (upd H l (.lst (ps.map fun q => V.ref q.1)))
theorem keys_eq {H : Hp} : ∀ {kvs : List (List Key × V)} {xs : List (List Key × Addr × Value)}, KT H kvs xs → xs.map (·.1) = kvs.map (·.1)
  | _, _, .nil => rfl
  | _, _, .cons a b => by
    rw [List.map_cons, List.map_cons, keys_eq b, a.1]
theorem cr_sortMv {X : Cx} (hc : X.calm = true) : CallR X (.builtin "sorted") rSortMv := by
  intro pins s σ H vs us Q I r h
  obtain ⟨a, kvs, rfl, ha, h1, h2, q⟩ := h
  obtain rfl := Vals.ref1 r
  obtain ⟨hz, lo, xs, rel, o, es, ep, ho, hx, hdat, hes, hrest⟩ := dt_of I.hok ha
  have lx : kvs.length = xs.length := Paired.length rel
  have le : es.size = xs.length := by
    rw [← Array.length_toList, hes, List.length_map]
  have hxs : ∀ x ∈ xs, H x.2.1 = some (.tup (x.1.map kV)) ∧ ∃ e ∈ kvs, e.1 = x.1 := fun x hm => by
    obtain ⟨j, hj, ej⟩ := List.getElem_of_mem hm
    obtain ⟨e0, he0, r1, r2, _⟩ := L2.DX.pget rel (List.getElem?_eq_getElem hj)
    rw [ej] at r1 r2
    exact ⟨by rw [← r1]; exact r2, e0, List.mem_of_getElem? he0, r1⟩
  refine Calls.call_function_entry PyProof.Rows.kind_sorted PyProof.Rows.plain_sorted PyProof.Rows.entry_sorted (PyProof.Rows.args_sorted1 _) ?_
  unfold Builtin.«sorted»
  refine wpAny_bind (m := checkCount "sorted" 1 1 _) (wpAny_pure ?_)
  refine wpAny_bind (kdu_collect (A := X.A.in1) (src_raw (es := es) (ep := ep) lo) (I.ok.hd hc) ⟨o, ho, hx, hdat⟩ (by rw [le, ← lx]; exact hz) fun h' tk acc kp hacc => ?_)
  have eacc : acc.toList = xs.map fun x => Value.ref x.2.1 := by
    apply List.ext_getElem?
    intro j
    rw [Array.getElem?_toList]
    cases e : acc[j]? with
    | none =>
      have hj : xs.length ≤ j := by
        have := Array.getElem?_eq_none_iff.mp e
        rw [hacc.1, le] at this
        exact this
      rw [List.getElem?_map, List.getElem?_eq_none hj]
      rfl
    | some v =>
      obtain ⟨en, he, rfl⟩ := hacc.2 j v e
      rw [← Array.getElem?_toList, hes, List.getElem?_map] at he
      rw [List.getElem?_map]
      cases e2 : xs[j]? with
      | none =>
        rw [e2] at he
        cases he
      | some x =>
        rw [e2] at he
        cases he
        rfl
  rw [eacc]
  have I1 : Inv X pins σ H { s with heap := h', toks := tk } := I.kept kp
  have lv : (xs.map fun x => Value.ref x.2.1).length ≤ sizeLine := by
    rw [List.length_map, ← lx]
    exact hz
  refine wpAny_bind (wpAny_newList ?_ lv)
  generalize hvs : (xs.map fun x => Value.ref x.2.1) = vs at lv ⊢
  have inV : ∀ v ∈ vs, ∃ x ∈ xs, v = .ref x.2.1 := fun v hv => by
    rw [← hvs] at hv
    obtain ⟨x, hm, rfl⟩ := List.mem_map.mp hv
    exact ⟨x, hm, rfl⟩
  have kv : ∀ x ∈ xs, kOf H (.ref x.2.1) = x.1 := fun x hm => kOf_at (hxs x hm).1
  have hoL : (h'.push (seqObj "list" vs.toArray 0)).get? h'.objs.size = some (seqObj "list" vs.toArray 0) := Heap.get?_push_size _ rfl
  show wpAny _ _ _ _ _ { s with heap := h'.push (seqObj "list" vs.toArray 0), toks := tk }
  have mv : ∀ v ∈ vs, IsMv (h'.push (seqObj "list" vs.toArray 0)) v (kOf H v) := fun v hv => by
    obtain ⟨x, hm, rfl⟩ := inV v hv
    obtain ⟨hT, e, he, ee⟩ := hxs x hm
    obtain ⟨_, its, rv, o2, ho2, hc2, n2, hd2⟩ := I1.hok _ _ hT
    obtain ⟨z, rr, ez⟩ := h1 e he
    rw [kv x hm]
    exact ⟨_, o2, its.toArray, n2, rfl, Heap.get?_push_of_some _ ho2, hc2, hd2, its_of rv, z, rr, by rw [← ee, ez]⟩
  have may : ∀ v ∈ vs, ∀ u ∈ vs, May (kOf H v) (kOf H u) := fun v hv u hu => by
    obtain ⟨x, hm, rfl⟩ := inV v hv
    obtain ⟨y, hn, rfl⟩ := inV u hu
    obtain ⟨_, e, he, ee⟩ := hxs x hm
    obtain ⟨_, f, hf, ff⟩ := hxs y hn
    rw [kv x hm, kv y hn, ← ee, ← ff]
    exact h2 e he f hf
  refine wpAny_bind (wpAny_holding (wpAny_call_entry PyProof.Rows.slot_list_sort ⟨_, hoL, rfl⟩ PyProof.Rows.entry_list_sort
    (SrtO.list_sort_ord (s := { s with heap := h'.push (seqObj "list" vs.toArray 0), toks := tk }) (ltv := fun v u => ltK (kOf H v) (kOf H u)) (swoK (kOf H)) hoL lv (fun g2 => mv_sortable (by omega) mv may fun o2 e2 => ?_) fun out so st => ⟨_, rfl, ?_⟩) (PyProof.Rows.args_list_sort _)))
  · have e3 := e2.symm.trans hoL
    cases e3
    intro c
    exact absurd (Value.type.inj c) (by decide)
  · obtain ⟨n3, he3⟩ := PyProof.Rows.sortedHeap_at (vs := vs) (out := out.toArray) hoL
    have pin : ∀ v ∈ out, ∃ x ∈ xs, v = .ref x.2.1 := fun v hv => inV v (st.perm.mem_iff.mp hv)
    have key : ∀ l : List Value, (∀ v ∈ l, ∃ x ∈ xs, v = .ref x.2.1) → Vals ((l.map fun v => (adr v, kOf H v)).map fun q => V.ref q.1) l := by
      intro l
      induction l with
      | nil => exact fun _ => .nil
      | cons v r ih =>
        intro hl
        obtain ⟨x, _, rfl⟩ := hl v (.head _)
        exact .cons rfl (ih fun u hu => hl u (.tail _ hu))
    have e2nd : (out.map fun v => (adr v, kOf H v)).map (·.2) = out.map (kOf H) := by
      rw [List.map_map]
      rfl
    refine wpAny_pure ⟨_, rfl, .ref h'.objs.size, upd H h'.objs.size (.lst ((out.map fun v => (adr v, kOf H v)).map fun q => V.ref q.1)), I1.laid (t' := tk) (fun b u e => ?_) (Nat.le_refl _) ?_, rfl, q _ _ ?_ ?_ ?_ (I1.hok.fresh (Nat.le_refl _))⟩
    · have hb : b < h'.objs.size := Heap.lt_size e
      rw [PyProof.Rows.sortedHeap_old (Nat.ne_of_lt hb) (by rw [size_push']; exact Nat.lt_succ_of_lt hb)]
      exact Heap.get?_push_of_some _ e
    · refine ⟨?_, out, n3, key out pin, he3⟩
      rw [List.length_map, List.length_map, st.len]
      exact lv
    · rw [e2nd]
      refine (st.perm.map (kOf H)).trans ?_
      rw [← hvs, List.map_map]
      have : ∀ l : List (List Key × Addr × Value), (∀ x ∈ l, x ∈ xs) → l.map (kOf H ∘ fun x => Value.ref x.2.1) = l.map (·.1) := fun l hl => List.map_congr_left fun x hm => kv x (hl x hm)
      rw [this xs fun _ z => z]
      rw [keys_eq rel]
    · rw [e2nd]
      exact List.pairwise_map.mpr so
    · intro p hp
      obtain ⟨v, hv, rfl⟩ := List.mem_map.mp hp
      obtain ⟨x, hm, rfl⟩ := pin v hv
      show H x.2.1 = some (.tup ((kOf H (.ref x.2.1)).map kV))
      rw [kv x hm]
      exact (hxs x hm).1
end Ms
set_option Elab.async false
set_option linter.all false
set_option maxRecDepth 100000
set_option maxHeartbeats 4000000
/-! moves as keys -/
namespace Ms
open PySem PySem.Spec PyProof.Rows L2 PySem.W
/-- a move of n rooms and m marks over these letters -/
inductive MvK (os ps qs : List Str) (n m : Nat) : List Key → Prop
  | pl {p q : Nat} {b : Str} : p < n → q < n → b ∈ ps → MvK os ps qs n m [.inr "plain", .inl (p : Int), .inr b, .inl (q : Int)]
  | op {p q k : Nat} {a : Str} : p < n → q < n → k < m → a ∈ os → MvK os ps qs n m [.inr "open", .inl (p : Int), .inr a, .inl (k : Int), .inl (q : Int)]
  | cl {p q k : Nat} {c : Str} : p < n → q < n → k < m → c ∈ qs → MvK os ps qs n m [.inr "close", .inl (p : Int), .inl (k : Int), .inr c, .inl (q : Int)]
theorem may_c {a b : Key} {r t : List Key} (h : same a b) (m : May r t) : May (a :: r) (b :: t) := ⟨fun _ => m, fun _ => h⟩
theorem may_d {a b : Key} {r t : List Key} (h : same a b) (ne : a ≠ b) : May (a :: r) (b :: t) := ⟨fun e => absurd e ne, fun _ => h⟩
theorem MvK.may {os ps qs : List Str} {n m : Nat} {k l : List Key} (h : MvK os ps qs n m k) (g : MvK os ps qs n m l) : May k l := by
  have ne : ∀ {x y : Str}, x ≠ y → (Sum.inr x : Key) ≠ .inr y := fun h e => h (Sum.inr.inj e)
  cases h with
  | pl _ _ _ =>
    cases g with
    | pl _ _ _ => exact may_c trivial (may_c trivial (may_c trivial (may_c trivial trivial)))
    | op _ _ _ _ => exact may_d trivial (ne (by decide +kernel))
    | cl _ _ _ _ => exact may_d trivial (ne (by decide +kernel))
  | op _ _ _ _ =>
    cases g with
    | pl _ _ _ => exact may_d trivial (ne (by decide +kernel))
    | op _ _ _ _ => exact may_c trivial (may_c trivial (may_c trivial (may_c trivial (may_c trivial trivial))))
    | cl _ _ _ _ => exact may_d trivial (ne (by decide +kernel))
  | cl _ _ _ _ =>
    cases g with
    | pl _ _ _ => exact may_d trivial (ne (by decide +kernel))
    | op _ _ _ _ => exact may_d trivial (ne (by decide +kernel))
    | cl _ _ _ _ => exact may_c trivial (may_c trivial (may_c trivial (may_c trivial (may_c trivial trivial))))
theorem MvK.txt {os ps qs : List Str} {n m : Nat} {k : List Key} (h : MvK os ps qs n m k) : ∃ z r, k = .inr z :: r := by
  cases h <;> exact ⟨_, _, rfl⟩
/-- sorted(moves): a list of the same moves, in their order -/
theorem sort_mv {K : PySem.W.Frag} {H : Hp} {a : Addr} {kvs : List (List Key × V)} {os ps qs : List Str} {n m : Nat} {Q : VK} (ha : H a = some (.dT kvs)) (hk : ∀ e ∈ kvs, MvK os ps qs n m e.1)
    (q : ∀ (mv : List (Addr × List Key)) (l : Addr) (H' : Hp), (mv.map (·.2)).Perm (kvs.map (·.1)) → SrtO.Srtd ltK (mv.map (·.2)) → (∀ x ∈ mv, MvK os ps qs n m x.2 ∧ H' x.1 = some (.tup (x.2.map kV))) → (∀ b o, H b = some o → H' b = some o) → H' l = some (.lst (mv.map fun x => V.ref x.1)) → H l = none → Q (.ref l) H') : rSortMv [.ref a] H Q := by
  refine ⟨a, kvs, rfl, ha, fun e he => (hk e he).txt, fun e he f hf => (hk e he).may (hk f hf), fun mv l h1 h2 h3 h4 => ?_⟩
  have kp : ∀ b o, H b = some o → upd H l (.lst (mv.map fun x => V.ref x.1)) b = some o := fun b o e => by
    rw [upd_ne (ne_of_none e h4)]
    exact e
  refine q mv l _ h1 h2 (fun x hx => ⟨?_, kp _ _ (h3 x hx)⟩) kp upd_same h4
  have hm : x.2 ∈ kvs.map (·.1) := h1.mem_iff.mp (List.mem_map.mpr ⟨x, hx, rfl⟩)
  obtain ⟨e, he, ee⟩ := List.mem_map.mp hm
  rw [← ee]
  exact hk e he
end Ms
set_option Elab.async false
set_option linter.all false
set_option maxRecDepth 100000
set_option maxHeartbeats 4000000
namespace Eh
open PySem PySem.Spec PyProof.Rows L2 Evl
abbrev nLawMachine : List Str := ["pot", "sheet", "rooms", "full", "many", "marks", "moves", "p", "letter", "turn", "m", "firsts", "lasts"]
theorem scLawMachine : FnScope nLawMachine ["pot", "sheet", "rooms", "full"] (defScope sLawMachine) := ⟨rfl, rfl, rfl, by decide +kernel, rfl, by decide +kernel, by decide +kernel⟩
open Ms
/-- the moves so far, in the dict d -/
def Mo (os ls qs : List Str) (n m : Nat) (d p c : Addr) (ns : List Int) (H : Hp) (B : Nat) (H' : Hp) : Prop := Keep p H H' ∧ Pot p c ns H' ∧ ∃ kvs : List (List Key × V), H' d = some (.dT kvs) ∧ (∀ e ∈ kvs, MvK os ls qs n m e.1) ∧ (kvs.map (·.1)).Nodup ∧ kvs.length ≤ B
theorem putK_keys {κ : Type} [DecidableEq κ] (kvs : List (κ × V)) (k : κ) (v : V) : (putK kvs k v).map (·.1) = if (kvs.any fun kv => decide (kv.1 = k)) = true then kvs.map (·.1) else kvs.map (·.1) ++ [k] := by
  unfold putK
  split
  · rw [List.map_map]
    refine List.map_congr_left fun e _ => ?_
    show (if e.1 = k then (e.1, v) else e).1 = e.1
    split <;> rfl
  · rw [List.map_append]
    rfl
theorem putK_nodup {κ : Type} [DecidableEq κ] {kvs : List (κ × V)} {k : κ} {v : V} (h : (kvs.map (·.1)).Nodup) : ((putK kvs k v).map (·.1)).Nodup := by
  rw [putK_keys]
  split
  · exact h
  · rename_i hn
    refine List.nodup_append.mpr ⟨h, by simp, fun a ha b hb e => ?_⟩
    rw [List.mem_singleton.mp hb] at e
    obtain ⟨x, hx, rfl⟩ := List.mem_map.mp ha
    exact hn (List.any_eq_true.mpr ⟨x, hx, decide_eq_true e⟩)
theorem putK_mem {κ : Type} [DecidableEq κ] {kvs : List (κ × V)} {k : κ} {v : V} {e : κ × V} (h : e ∈ putK kvs k v) : e.1 = k ∨ ∃ x ∈ kvs, x.1 = e.1 := by
  have hm : e.1 ∈ (putK kvs k v).map (·.1) := List.mem_map.mpr ⟨e, h, rfl⟩
  rw [putK_keys] at hm
  split at hm
  · obtain ⟨x, hx, hxe⟩ := List.mem_map.mp hm
    exact .inr ⟨x, hx, hxe⟩
  · rcases List.mem_append.mp hm with z | z
    · obtain ⟨x, hx, hxe⟩ := List.mem_map.mp z
      exact .inr ⟨x, hx, hxe⟩
    · exact .inl (List.mem_singleton.mp z)
section
variable {os ls qs : List Str} {n m : Nat} {d p c : Addr} {ns : List Int} {H H' H'' : Hp} {B : Nat}
theorem Mo.le (h : Mo os ls qs n m d p c ns H B H') {B' : Nat} (hb : B ≤ B') : Mo os ls qs n m d p c ns H B' H' := by
  obtain ⟨h1, h2, kvs, h3, h4, h5, h6⟩ := h
  exact ⟨h1, h2, kvs, h3, h4, h5, by omega⟩
theorem Mo.ex (h : Mo os ls qs n m d p c ns H B H') (e : Ex H' H'') : Mo os ls qs n m d p c ns H B H'' := by
  obtain ⟨h1, h2, kvs, h3, h4, h5, h6⟩ := h
  exact ⟨h1.trans (Keep.ofEx e), h2.ex e, kvs, e _ _ h3, h4, h5, h6⟩
theorem Mo.kp (h : Mo os ls qs n m d p c ns H B H') (dp : d ≠ p) (k : Keep p H' H'') (hP : Pot p c ns H'') : Mo os ls qs n m d p c ns H B H'' := by
  obtain ⟨h1, h2, kvs, h3, h4, h5, h6⟩ := h
  exact ⟨h1.trans k, hP, kvs, k _ _ dp h3, h4, h5, h6⟩
theorem Mo.put (h : Mo os ls qs n m d p c ns H B H') (hd : H d = none) (dp : d ≠ p) (dc : d ≠ c) (hB : B < 100000) {t : Addr} {k : List Key} (nt : H' t = none) (hk : MvK os ls qs n m k) (v : V) : ∃ H2, DPut (upd H' t (.tup (k.map kV))) d (.ref t) v H2 ∧ Mo os ls qs n m d p c ns H (B + 1) H2 := by
  obtain ⟨h1, h2, kvs, h3, h4, h5, h6⟩ := h
  have e := Ex.new (o := .tup (k.map kV)) nt
  refine ⟨_, DPut.t (e _ _ h3) upd_same (sz_lt (by omega)), (h1.trans (Keep.ofEx e)).new hd, (h2.ex e).new dp.symm dc.symm, _, upd_same, fun x hx => ?_, putK_nodup h5, ?_⟩
  · rcases putK_mem hx with z | ⟨y, hy, z⟩
    · rw [z]; exact hk
    · rw [← z]; exact h4 y hy
  · have := length_putK kvs k v
    omega
end
/-- one of four counts, drawn -/
theorem cnt_rd {K : PySem.W.Frag} {p c : Addr} {ns : List Int} {H : Hp} {σ : L2.St} {ta tb : TE} {Q : VK} {a b : Nat} (h0 : σ[0]? = some (some (.ref p))) (ha : Ev ta σ H (.int (a : Int))) (hb : Ev tb σ H (.int (b : Int))) (la : a ≤ 3) (lb : b ≤ 3) (hP : Pot p c ns H)
    (k : ∀ (z : Nat) H', z ≤ 3 → Keep p H H' → Pot p c ns H' → Q (.int (z : Int)) H') : tOp (rIxL K) (tLst (tCons ta (tCons tb (tCons (tC (.int 1)) (tCons (tC (.int 2)) tNil))))) (tCall spPick [] E0 (tCons (tVar 0) (tCons (tC (.int 4)) tNil))) σ H Q := by
  refine ha H (Ex.refl _) _ fun H1 e1 => hb H1 e1 _ fun H2 e2 => ⟨by show 4 ≤ sizeLine; decide, fun l nl => ?_⟩
  have e3 := (e1.trans e2).trans (Ex.new (o := .lst [.int (a : Int), .int (b : Int), .int 1, .int 2]) nl)
  have lp := ((hP.ex (e1.trans e2)).ne_new nl).1.symm
  refine ⟨_, h0, p, c, ns, 4, rfl, by decide, by decide, hP.ex e3, fun v H4 hv kp hP4 => ?_⟩
  have hl := kp _ _ lp (upd_same (H := H2) (a := l) (o := .lst [.int (a : Int), .int (b : Int), .int 1, .int 2]))
  have go : ∀ z : Nat, z ≤ 3 → [V.int (a : Int), .int (b : Int), .int 1, .int 2][v]? = some (.int (z : Int)) → rIxL K (.ref l) (.int (v : Int)) H4 Q := fun z hz hat => ⟨l, _, _, _, rfl, rfl, sq_of hl, atI_nat hat, k z H4 hz ((Keep.ofEx e3).trans kp) hP4⟩
  rcases (show v = 0 ∨ v = 1 ∨ v = 2 ∨ v = 3 by omega) with rfl | rfl | rfl | rfl
  · exact go a la rfl
  · exact go b lb rfl
  · exact go 1 (by decide) rfl
  · exact go 2 (by decide) rfl
/-- a machine as it stands on the heap: t the machine, s its sheet -/
structure MachAt (os ls qs : List Str) (H : Hp) (t s : Addr) (n m : Nat) (F L : List Nat) (mv : List (Addr × List Key)) : Prop where
  ex : ∃ f l g, H t = some (.tup [.ref s, .int (n : Int), .int (m : Int), .ref f, .ref l, .ref g]) ∧ H f = some (.tup (F.map nV)) ∧ H l = some (.tup (L.map nV)) ∧ H g = some (.tup (mv.map fun x => V.ref x.1))
  sh : SheetAt H s os ls qs
  at_ : ∀ x ∈ mv, H x.1 = some (.tup (x.2.map kV))
structure MachOk (os ls qs : List Str) (n m : Nat) (F L : List Nat) (mv : List (Addr × List Key)) : Prop where
  n1 : 1 ≤ n
  n6 : n ≤ 6
  m6 : m ≤ 6
  f0 : F ≠ []
  fl : F.length ≤ 2
  fn : ∀ p ∈ F, p < n
  fs : F.Pairwise (· < ·)
  ll : L.length ≤ 6
  ln : ∀ p ∈ L, p < n
  lst : L.Pairwise (· < ·)
  ml : mv.length ≤ 600
  mvk : ∀ x ∈ mv, MvK os ls qs n m x.2
  ms : SrtO.Srtd ltK (mv.map (·.2))
  mn : (mv.map (·.2)).Nodup
def spMachine : Sp := fun vs H Q _ => ∃ (p c s : Addr) (ns : List Int) (os ls qs : List Str) (rooms full : Nat), vs = [.ref p, .ref s, .int (rooms : Int), .int (full : Int)] ∧ 1 ≤ rooms ∧ rooms ≤ 6 ∧ full ≤ 3 ∧ Pot p c ns H ∧ Sht os ls qs ∧ SheetAt H s os ls qs ∧
  ∀ t n m F L mv H', MachAt os ls qs H' t s n m F L mv → MachOk os ls qs n m F L mv → Keep p H H' → Pot p c ns H' → Q (.ref t) H'
theorem perm_rise {ys ks : List Int} (h : ys.Perm ks) (nd : ks.Nodup) (s : ys.Pairwise (· ≤ ·)) : ys.Pairwise (· < ·) := by
  have nd' := h.nodup_iff.mpr nd
  exact (s.and nd').imp fun hab => by omega
theorem ints_nat {ys : List Int} (h : ∀ y ∈ ys, ∃ k : Nat, y = (k : Int)) : ∃ F : List Nat, ys = F.map (fun k : Nat => (k : Int)) := by
  refine ⟨ys.map Int.toNat, ?_⟩
  rw [List.map_map]
  symm
  have : ∀ l : List Int, (∀ y ∈ l, y ∈ ys) → l.map ((fun k : Nat => (k : Int)) ∘ Int.toNat) = l := fun l => by
    induction l with
    | nil => exact fun _ => rfl
    | cons a r ih =>
      intro hl
      rw [List.map_cons, ih fun y hy => hl y (List.mem_cons_of_mem _ hy)]
      obtain ⟨k, hk⟩ := h a (hl a (List.mem_cons_self ..))
      rw [hk]
      rfl
  exact this ys fun _ z => z
section
variable {P : Program} {w : World} {K : PySem.W.Frag} {mg : Str → Option Value} {base : Heap}
theorem ok_machine {f fpick : Addr} {fd dpick : FuncData} {k : Nat} (F : Fun K "_law_machine" "_law_machine" sLawMachine f fd) (Fpick : Fun K "_law_pick" "_law_pick" sPick fpick dpick) (Gpick : FnOk P w K mg base CX0 (k + 1) fpick dpick ["pot", "many"] spPick) (bpick : Binds K dpick ["pot", "many"] []) (gpick : mg "_law_pick" = some (.ref fpick)) (mrange : mg "range" = none) (mint : mg "int" = none) (mtuple : mg "tuple" = none) (msorted : mg "sorted" = none) : FnOk P w K mg base CX0 (k + 2) f fd ["pot", "sheet", "rooms", "full"] spMachine := by
  have nd := scLawMachine.nd
  refine F.ok scLawMachine (fun vs H Q E h => ?_) (fun cdv A outer s H vs Q E hr h => ?_)
  · obtain ⟨p, c, s, ns, os, ls, qs, rooms, full, rfl, _⟩ := h
    rfl
  · obtain ⟨p, c, s, ns, os, ls, qs, rooms, full, rfl, r1, r6, f3, hP, hS, hs, q⟩ := h
    have hu := hu_of hr
    refine ⟨_, (pss_cons (ps_set (i := 4) nd rfl (.inl rfl) (pe_op op_add pe_int (pe_call Gpick hr (by rfl) gpick Fpick.kp bpick .nil pass0 (pa_cons (pv 0) (pa_cons (pv 2) pa_nil)))))
      (pss_cons (ps_set (i := 5) nd rfl (.inl rfl) (pe_ix ix_list (pe_lst (pa_cons pe_int (pa_cons pe_int (pa_cons pe_int (pa_cons pe_int (pa_cons pe_int (pa_cons pe_int (pa_cons pe_int (pa_cons pe_int pa_nil))))))))) (pe_call Gpick hr (by rfl) gpick Fpick.kp bpick .nil pass0 (pa_cons (pv 0) (pa_cons pe_int pa_nil))) (fun _ _ => rfl)))
      (pss_cons (ps_set (i := 6) nd rfl (.inl rfl) pe_dnewT)
      (pss_cut (ps_for PassesOwn.never rfl (pi_range1 (by rfl) mrange (pa_cons (pv 4) pa_nil)) (pg_name (i := 7) nd rfl (.inl rfl)) (pss_cut (ps_for PassesOwn.never rfl (pi_tup (pe_ix ix_tup (pv 1) pe_int (fun _ _ => rfl))) (pg_name (i := 8) nd rfl (.inl rfl)) (pss_one (ps_for PassesOwn.never rfl (pi_range1 (by rfl) mrange (pa_cons (pe_ix ix_list (pe_lst (pa_cons (pv 3) (pa_cons pe_int (pa_cons pe_int (pa_cons pe_int pa_nil))))) (pe_call Gpick hr (by rfl) gpick Fpick.kp bpick .nil pass0 (pa_cons (pv 0) (pa_cons pe_int pa_nil))) (fun _ _ => rfl)) pa_nil)) (pg_name (i := 9) nd rfl (.inl rfl)) (pss_one (ps_dput hu (pv 6) (pe_tup (pa_cons pe_str (pa_cons (pv 7) (pa_cons (pv 8) (pa_cons (pe_call Gpick hr (by rfl) gpick Fpick.kp bpick .nil pass0 (pa_cons (pv 0) (pa_cons (pv 4) pa_nil))) pa_nil))))) pe_bl rfl)))))
      (pss_cut (ps_for PassesOwn.never rfl (pi_tup (pe_ix ix_tup (pv 1) pe_int (fun _ _ => rfl))) (pg_name (i := 8) nd rfl (.inl rfl)) (pss_one (ps_for PassesOwn.never rfl (pi_range1 (by rfl) mrange (pa_cons (pe_op op_mul (pe_ix ix_list (pe_lst (pa_cons (pv 3) (pa_cons pe_int (pa_cons pe_int (pa_cons pe_int pa_nil))))) (pe_call Gpick hr (by rfl) gpick Fpick.kp bpick .nil pass0 (pa_cons (pv 0) (pa_cons pe_int pa_nil))) (fun _ _ => rfl)) (pe_callTy call_int1 (by rfl) mint (by decide +kernel) (pa_cons (pe_cmpR op_gt (pv 5) pe_int (nomark _)) pa_nil))) pa_nil)) (pg_name (i := 9) nd rfl (.inl rfl)) (pss_cons (ps_set (i := 10) nd rfl (.inl rfl) (pe_call Gpick hr (by rfl) gpick Fpick.kp bpick .nil pass0 (pa_cons (pv 0) (pa_cons (pv 5) pa_nil))))
      (pss_one (ps_dput hu (pv 6) (pe_tup (pa_cons pe_str (pa_cons (pv 7) (pa_cons (pv 8) (pa_cons (pv 10) (pa_cons (pe_call Gpick hr (by rfl) gpick Fpick.kp bpick .nil pass0 (pa_cons (pv 0) (pa_cons (pv 4) pa_nil))) pa_nil)))))) pe_bl rfl))))))
      (pss_one (ps_for PassesOwn.never rfl (pi_range1 (by rfl) mrange (pa_cons (pv 5) pa_nil)) (pg_name (i := 10) nd rfl (.inl rfl)) (pss_one (ps_for PassesOwn.never rfl (pi_tup (pe_ix ix_tup (pv 1) pe_int (fun _ _ => rfl))) (pg_name (i := 8) nd rfl (.inl rfl)) (pss_one (ps_for PassesOwn.never rfl (pi_range1 (by rfl) mrange (pa_cons (pe_ix ix_list (pe_lst (pa_cons pe_int (pa_cons (pv 3) (pa_cons pe_int (pa_cons pe_int pa_nil))))) (pe_call Gpick hr (by rfl) gpick Fpick.kp bpick .nil pass0 (pa_cons (pv 0) (pa_cons pe_int pa_nil))) (fun _ _ => rfl)) pa_nil)) (pg_name (i := 9) nd rfl (.inl rfl)) (pss_one (ps_dput hu (pv 6) (pe_tup (pa_cons pe_str (pa_cons (pv 7) (pa_cons (pv 10) (pa_cons (pv 8) (pa_cons (pe_call Gpick hr (by rfl) gpick Fpick.kp bpick .nil pass0 (pa_cons (pv 0) (pa_cons (pv 4) pa_nil))) pa_nil)))))) pe_bl rfl)))))))))))
      (pss_cons (ps_set (i := 11) nd rfl (.inl rfl) (pe_disp (pps_cons (pe_call Gpick hr (by rfl) gpick Fpick.kp bpick .nil pass0 (pa_cons (pv 0) (pa_cons (pv 4) pa_nil))) pe_bl pps_nil) (by rfl) (by rfl) (fun z => by cases z) (by decide)))
      (pss_cut (ps_if (pt_cmpR op_eq (pe_call Gpick hr (by rfl) gpick Fpick.kp bpick .nil pass0 (pa_cons (pv 0) (pa_cons pe_int pa_nil))) pe_int (nomark _)) (pss_one (ps_dput hu (pv 11) (pe_call Gpick hr (by rfl) gpick Fpick.kp bpick .nil pass0 (pa_cons (pv 0) (pa_cons (pv 4) pa_nil))) pe_bl rfl)) pss_nil)
      (pss_cons (ps_setLc (i := 12) (own := [("p", 7)]) (g := gName 7) (tt := (tTest (tOp rEq (tCall spPick [] E0 (tCons (tVar 0) (tCons (tC (.int 2)) tNil))) (tC (.int 0))))) (te := (tVar 7)) rfl nd rfl rfl (sw_true rfl rfl rfl (by decide +kernel)) (pi_range1 (by rfl) mrange (pa_cons (pv 4) pa_nil)) (blkOk_by (own := [("p", 7)]) (N := nLawMachine) (sc := defScope sLawMachine) (by decide +kernel)) (fun _ _ _ _ _ => pg_name (i := 7) nd rfl (.inl rfl)) (fun _ _ _ _ _ => pts_one (pt_cmpR op_eq (pe_call Gpick hr (by rfl) gpick Fpick.kp bpick .nil pass0 (pa_cons (pv 0) (pa_cons pe_int pa_nil))) pe_int (nomark _))) (fun _ _ _ _ _ => (pv 7)))
      (pss_one (ps_ret (pe_tup (pa_cons (pv 1) (pa_cons (pv 4) (pa_cons (pv 5) (pa_cons (pe_callTy call_tuple_of (by rfl) mtuple (by decide +kernel) (pa_cons (pe_callB (call_sortedDI rfl) (by rfl) msorted (by decide +kernel) (pa_cons (pv 11) pa_nil)) pa_nil)) (pa_cons (pe_callTy call_tuple_of (by rfl) mtuple (by decide +kernel) (pa_cons (pv 12) pa_nil)) (pa_cons (pe_callTy call_tuple_of (by rfl) mtuple (by decide +kernel) (pa_cons (pe_callB (Ms.cr_sortMv rfl) (by rfl) msorted (by decide +kernel) (pa_cons (pv 6) pa_nil)) pa_nil)) pa_nil)))))))))))))))), ?_⟩
    refine ⟨_, rfl, _, rfl, p, c, ns, (rooms : Int), rfl, by omega, by omega, hP, fun v1 H1 hv1 kp1 hP1 => ⟨_, _, rfl, rfl, ?_⟩⟩
    have en : (1 : Int) + (v1 : Int) = ((1 + v1 : Nat) : Int) := by omega
    dsimp only [gName]
    show tSeq _ _ _ [some (.ref p), some (.ref s), some (.int (rooms : Int)), some (.int (full : Int)), some (.int ((1 : Int) + (v1 : Int))), none, none, none, none, none, none, none, none] H1
    rw [en]
    have n6 : 1 + v1 ≤ 6 := by omega
    have n1 : 1 ≤ 1 + v1 := by omega
    generalize 1 + v1 = n at n6 n1
    -- marks
    refine ⟨by show 8 ≤ sizeLine; decide, fun l nl => ?_⟩
    have e2 := Ex.new (o := .lst [.int 0, .int 1, .int 1, .int 2, .int 2, .int 3, .int 3, .int 6]) nl
    have lp := (hP1.ne_new nl).1.symm
    refine ⟨_, rfl, p, c, ns, 8, rfl, by decide, by decide, hP1.ex e2, fun v2 H2 hv2 kp2 hP2 => ?_⟩
    have hl2 := kp2 _ _ lp (upd_same (H := H1) (a := l) (o := .lst [.int 0, .int 1, .int 1, .int 2, .int 2, .int 3, .int 3, .int 6]))
    obtain ⟨m, m6, hm⟩ : ∃ m : Nat, m ≤ 6 ∧ [V.int 0, .int 1, .int 1, .int 2, .int 2, .int 3, .int 3, .int 6][v2]? = some (.int (m : Int)) := by
      rcases (show v2 = 0 ∨ v2 = 1 ∨ v2 = 2 ∨ v2 = 3 ∨ v2 = 4 ∨ v2 = 5 ∨ v2 = 6 ∨ v2 = 7 by omega) with rfl | rfl | rfl | rfl | rfl | rfl | rfl | rfl
      · exact ⟨0, by decide, rfl⟩
      · exact ⟨1, by decide, rfl⟩
      · exact ⟨1, by decide, rfl⟩
      · exact ⟨2, by decide, rfl⟩
      · exact ⟨2, by decide, rfl⟩
      · exact ⟨3, by decide, rfl⟩
      · exact ⟨3, by decide, rfl⟩
      · exact ⟨6, by decide, rfl⟩
    refine ⟨l, _, _, _, rfl, rfl, sq_of hl2, atI_nat hm, fun d nd' => ?_⟩
    have pd := hP2.ne_new nd'
    have dp := pd.1.symm
    have dc := pd.2.symm
    have kp02 := (kp1.trans (Keep.ofEx e2)).trans kp2
    have hd : H d = none := kp02.back dp nd'
    have mo0 : Mo os ls qs n m d p c ns H 0 (upd H2 d (.dT [])) := ⟨kp02.new hd, hP2.new pd.1 pd.2, [], upd_same, fun e he => (List.not_mem_nil he).elim, List.nodup_nil, Nat.le_refl _⟩
    dsimp only [gName]
    -- the moves
    refine q_cut (M := fun σ' H' => (∃ y7 y8 y9 y10, σ' = [some (.ref p), some (.ref s), some (.int (rooms : Int)), some (.int (full : Int)), some (.int (n : Int)), some (.int (m : Int)), some (.ref d), y7, y8, y9, y10, none, none]) ∧ Mo os ls qs n m d p c ns H 576 H') ?_ ?_
    · obtain ⟨ao, ap, ac, g0, g1, g2, g3⟩ := hs
      refine ⟨_, rfl, (n : Int), rfl, by omega, by omega, for_range (lo := 0) (n := ((n : Int)).toNat) (fun i σ' H' => (∃ y7 y8 y9 y10, σ' = [some (.ref p), some (.ref s), some (.int (rooms : Int)), some (.int (full : Int)), some (.int (n : Int)), some (.int (m : Int)), some (.ref d), y7, y8, y9, y10, none, none]) ∧ Mo os ls qs n m d p c ns H (96 * i) H') ⟨⟨_, _, _, _, rfl⟩, mo0⟩ ?_ ?_⟩
      · rintro i σ' H3 hi ⟨⟨y7, y8, y9, y10, rfl⟩, mo3⟩
        have e0 : (0 : Int) + (i : Int) = (i : Int) := Int.zero_add _
        rw [e0]
        have hi' : i < n := by omega
        -- what stays
        have st : ∀ {B : Nat} {H' : Hp}, Mo os ls qs n m d p c ns H B H' → H' s = some (.tup [.ref ao, .ref ap, .ref ac]) ∧ H' ao = some (.tup (os.map V.str)) ∧ H' ap = some (.tup (ls.map V.str)) ∧ H' ac = some (.tup (qs.map V.str)) := fun h => ⟨h.1 _ _ (hP.ne_tup g0) g0, h.1 _ _ (hP.ne_tup g1) g1, h.1 _ _ (hP.ne_tup g2) g2, h.1 _ _ (hP.ne_tup g3) g3⟩
        have part : ∀ {B : Nat} {H' : Hp} {σ : L2.St} {z : Int} {a : Addr}, Mo os ls qs n m d p c ns H B H' → σ[1]? = some (some (.ref s)) → atI [V.ref ao, .ref ap, .ref ac] z = some (.ref a) → Ev (tOp (rIxT K) (tVar 1) (tC (.int z))) σ H' (.ref a) := fun h h1 hz => ev_op (ev_var h1) ev_c (rv_ixT (st_of (st h).1) hz)
        have o4 := hS.o4
        have p4 := hS.p4
        have c4 := hS.c4
        have txt : ∀ {ys : List Str} {j : Nat} {x : V}, (ys.map V.str)[j]? = some x → ∃ b, b ∈ ys ∧ x = .str b := fun {ys j x} h => by
          rw [List.getElem?_map] at h
          cases e : ys[j]? with
          | none => rw [e] at h; cases h
          | some b => rw [e] at h; exact ⟨b, List.mem_of_getElem? e, (Option.some.inj h).symm⟩
        refine q_cut (M := fun σ' H' => (∃ y8 y9 y10, σ' = [some (.ref p), some (.ref s), some (.int (rooms : Int)), some (.int (full : Int)), some (.int (n : Int)), some (.int (m : Int)), some (.ref d), some (.int (i : Int)), y8, y9, y10, none, none]) ∧ Mo os ls qs n m d p c ns H (96 * i + 12) H') ?_ ?_
        · refine s_forT (K := K) (part mo3 rfl (show atI [V.ref ao, .ref ap, .ref ac] 1 = some (.ref ap) from rfl)) (st_of (st mo3).2.2.1) (fun j σ' H' => (∃ y8 y9 y10, σ' = [some (.ref p), some (.ref s), some (.int (rooms : Int)), some (.int (full : Int)), some (.int (n : Int)), some (.int (m : Int)), some (.ref d), some (.int (i : Int)), y8, y9, y10, none, none]) ∧ Mo os ls qs n m d p c ns H (96 * i + 3 * j) H') (fun H4 e4 => ⟨⟨_, _, _, rfl⟩, mo3.ex e4⟩) (fun j σ' H' _ hh => st_of (st hh.2).2.2.1) ?_ ?_
          · rintro j x σ' H4 hj ⟨⟨y8, y9, y10, rfl⟩, mo4⟩
            obtain ⟨b, hb, rfl⟩ := txt hj
            refine cnt_rd (a := full) (b := 1) rfl (ev_var rfl) ev_c f3 (by decide) mo4.2.1 fun z H5 hz kp5 hP5 => ⟨(z : Int), rfl, by omega, by omega, for_range (lo := 0) (n := ((z : Int)).toNat) (fun t σ' H' => (∃ y9, σ' = [some (.ref p), some (.ref s), some (.int (rooms : Int)), some (.int (full : Int)), some (.int (n : Int)), some (.int (m : Int)), some (.ref d), some (.int (i : Int)), some (.str b), y9, y10, none, none]) ∧ Mo os ls qs n m d p c ns H (96 * i + 3 * j + t) H') ⟨⟨_, rfl⟩, mo4.kp dp kp5 hP5⟩ ?_ ?_⟩
            · rintro t σ' H6 ht ⟨⟨y9, rfl⟩, mo6⟩
              refine ⟨_, rfl, _, rfl, _, rfl, _, rfl, _, rfl, p, c, ns, (n : Int), rfl, by omega, by omega, mo6.2.1, fun qv H7 hq kp7 hP7 => ⟨by show 4 ≤ sizeLine; decide, fun u nu => ?_⟩⟩
              obtain ⟨H8, dput, mo8⟩ := (mo6.kp dp kp7 hP7).put hd dp dc (by have := (List.getElem?_eq_some_iff.mp hj).1; rw [List.length_map] at this; omega) nu (MvK.pl hi' (show qv < n by omega) hb) (.bl true)
              exact ⟨d, H8, rfl, dput, ⟨_, rfl⟩, mo8⟩
            · rintro σ' H6 ⟨⟨y9, rfl⟩, mo6⟩
              exact ⟨⟨_, _, _, rfl⟩, mo6.le (by omega)⟩
          · rintro σ' H4 ⟨⟨y8, y9, y10, rfl⟩, mo4⟩
            exact ⟨⟨_, _, _, rfl⟩, mo4.le (by rw [List.length_map]; omega)⟩
        rintro σ' H3 ⟨⟨y8, y9, y10, rfl⟩, mo3⟩
        refine q_cut (M := fun σ' H' => (∃ y8 y9 y10, σ' = [some (.ref p), some (.ref s), some (.int (rooms : Int)), some (.int (full : Int)), some (.int (n : Int)), some (.int (m : Int)), some (.ref d), some (.int (i : Int)), y8, y9, y10, none, none]) ∧ Mo os ls qs n m d p c ns H (96 * i + 24) H') ?_ ?_
        · refine s_forT (K := K) (part mo3 rfl (show atI [V.ref ao, .ref ap, .ref ac] 0 = some (.ref ao) from rfl)) (st_of (st mo3).2.1) (fun j σ' H' => (∃ y8 y9 y10, σ' = [some (.ref p), some (.ref s), some (.int (rooms : Int)), some (.int (full : Int)), some (.int (n : Int)), some (.int (m : Int)), some (.ref d), some (.int (i : Int)), y8, y9, y10, none, none]) ∧ Mo os ls qs n m d p c ns H (96 * i + 12 + 3 * j) H') (fun H4 e4 => ⟨⟨_, _, _, rfl⟩, mo3.ex e4⟩) (fun j σ' H' _ hh => st_of (st hh.2).2.1) ?_ ?_
          · rintro j x σ' H4 hj ⟨⟨y8, y9, y10, rfl⟩, mo4⟩
            obtain ⟨b, hb, rfl⟩ := txt hj
            refine cnt_rd (a := full) (b := 1) rfl (ev_var rfl) ev_c f3 (by decide) mo4.2.1 fun z H5 hz kp5 hP5 => ⟨_, rfl, _, _, rfl, rfl, .inr ⟨_, rfl, _, _, rfl, rfl, .inr ?_, ?_⟩⟩
            · by_cases h0 : (0 : Int) < (m : Int)
              · rw [decide_eq_true h0]; exact ⟨by decide, by decide⟩
              · rw [decide_eq_false h0]; exact ⟨by decide, by decide⟩
            have hw : ∃ z2 : Nat, (z : Int) * (if decide ((0 : Int) < (m : Int)) = true then 1 else 0) = (z2 : Int) ∧ z2 ≤ 3 ∧ (0 < z2 → 0 < m) := by
              by_cases h0 : (0 : Int) < (m : Int)
              · rw [decide_eq_true h0]
                exact ⟨z, by simp, hz, fun _ => by omega⟩
              · rw [decide_eq_false h0]
                exact ⟨0, by simp, by omega, fun h => by omega⟩
            obtain ⟨z2, ez, hz2, hm0⟩ := hw
            refine ⟨(z2 : Int), by rw [← ez], by omega, by omega, for_range (lo := 0) (n := ((z2 : Int)).toNat) (fun t σ' H' => (∃ y9 y10, σ' = [some (.ref p), some (.ref s), some (.int (rooms : Int)), some (.int (full : Int)), some (.int (n : Int)), some (.int (m : Int)), some (.ref d), some (.int (i : Int)), some (.str b), y9, y10, none, none]) ∧ Mo os ls qs n m d p c ns H (96 * i + 12 + 3 * j + t) H') ⟨⟨_, _, rfl⟩, mo4.kp dp kp5 hP5⟩ ?_ ?_⟩
            · rintro t σ' H6 ht ⟨⟨y9, y10, rfl⟩, mo6⟩
              refine ⟨_, rfl, _, rfl, p, c, ns, (m : Int), rfl, by omega, by omega, mo6.2.1, fun mk H9 hmk kp9 hP9 => ?_⟩
              have mo9 := mo6.kp dp kp9 hP9
              refine ⟨_, rfl, _, rfl, _, rfl, _, rfl, _, rfl, _, rfl, p, c, ns, (n : Int), rfl, by omega, by omega, hP9, fun qv H7 hq kp7 hP7 => ⟨by show 5 ≤ sizeLine; decide, fun u nu => ?_⟩⟩
              obtain ⟨H8, dput, mo8⟩ := (mo9.kp dp kp7 hP7).put hd dp dc (by have := (List.getElem?_eq_some_iff.mp hj).1; rw [List.length_map] at this; omega) nu (MvK.op hi' (show qv < n by omega) (show mk < m by omega) hb) (.bl true)
              exact ⟨d, H8, rfl, dput, ⟨_, _, rfl⟩, mo8⟩
            · rintro σ' H6 ⟨⟨y9, y10, rfl⟩, mo6⟩
              exact ⟨⟨_, _, _, rfl⟩, mo6.le (by omega)⟩
          · rintro σ' H4 ⟨⟨y8, y9, y10, rfl⟩, mo4⟩
            exact ⟨⟨_, _, _, rfl⟩, mo4.le (by rw [List.length_map]; omega)⟩
        rintro σ' H3 ⟨⟨y8, y9, y10, rfl⟩, mo3⟩
        refine ⟨_, rfl, (m : Int), rfl, by omega, by omega, for_range (lo := 0) (n := ((m : Int)).toNat) (fun e σ' H' => (∃ y8 y9 y10, σ' = [some (.ref p), some (.ref s), some (.int (rooms : Int)), some (.int (full : Int)), some (.int (n : Int)), some (.int (m : Int)), some (.ref d), some (.int (i : Int)), y8, y9, y10, none, none]) ∧ Mo os ls qs n m d p c ns H (96 * i + 24 + 12 * e) H') ⟨⟨_, _, _, rfl⟩, mo3⟩ ?_ ?_⟩
        · rintro e σ' H9 he ⟨⟨y8, y9, y10, rfl⟩, mo9⟩
          have e1 : (0 : Int) + (e : Int) = (e : Int) := Int.zero_add _
          rw [e1]
          refine s_forT (K := K) (part mo9 rfl (show atI [V.ref ao, .ref ap, .ref ac] 2 = some (.ref ac) from rfl)) (st_of (st mo9).2.2.2) (fun j σ' H' => (∃ y8 y9, σ' = [some (.ref p), some (.ref s), some (.int (rooms : Int)), some (.int (full : Int)), some (.int (n : Int)), some (.int (m : Int)), some (.ref d), some (.int (i : Int)), y8, y9, some (.int (e : Int)), none, none]) ∧ Mo os ls qs n m d p c ns H (96 * i + 24 + 12 * e + 3 * j) H') (fun H4 e4 => ⟨⟨_, _, rfl⟩, mo9.ex e4⟩) (fun j σ' H' _ hh => st_of (st hh.2).2.2.2) ?_ ?_
          · rintro j x σ' H4 hj ⟨⟨y8, y9, rfl⟩, mo4⟩
            obtain ⟨b, hb, rfl⟩ := txt hj
            refine cnt_rd (a := 0) (b := full) rfl ev_c (ev_var rfl) (by decide) f3 mo4.2.1 fun z H5 hz kp5 hP5 => ⟨(z : Int), rfl, by omega, by omega, for_range (lo := 0) (n := ((z : Int)).toNat) (fun t σ' H' => (∃ y9, σ' = [some (.ref p), some (.ref s), some (.int (rooms : Int)), some (.int (full : Int)), some (.int (n : Int)), some (.int (m : Int)), some (.ref d), some (.int (i : Int)), some (.str b), y9, some (.int (e : Int)), none, none]) ∧ Mo os ls qs n m d p c ns H (96 * i + 24 + 12 * e + 3 * j + t) H') ⟨⟨_, rfl⟩, mo4.kp dp kp5 hP5⟩ ?_ ?_⟩
            · rintro t σ' H6 ht ⟨⟨y9, rfl⟩, mo6⟩
              refine ⟨_, rfl, _, rfl, _, rfl, _, rfl, _, rfl, _, rfl, p, c, ns, (n : Int), rfl, by omega, by omega, mo6.2.1, fun qv H7 hq kp7 hP7 => ⟨by show 5 ≤ sizeLine; decide, fun u nu => ?_⟩⟩
              obtain ⟨H8, dput, mo8⟩ := (mo6.kp dp kp7 hP7).put hd dp dc (by have := (List.getElem?_eq_some_iff.mp hj).1; rw [List.length_map] at this; omega) nu (MvK.cl hi' (show qv < n by omega) (show e < m by omega) hb) (.bl true)
              exact ⟨d, H8, rfl, dput, ⟨_, rfl⟩, mo8⟩
            · rintro σ' H6 ⟨⟨y9, rfl⟩, mo6⟩
              exact ⟨⟨_, _, rfl⟩, mo6.le (by omega)⟩
          · rintro σ' H4 ⟨⟨y8, y9, rfl⟩, mo4⟩
            exact ⟨⟨_, _, _, rfl⟩, mo4.le (by rw [List.length_map]; omega)⟩
        · rintro σ' H9 ⟨⟨y8, y9, y10, rfl⟩, mo9⟩
          exact ⟨⟨_, _, _, _, rfl⟩, mo9.le (by omega)⟩
      · rintro σ' H3 ⟨⟨y7, y8, y9, y10, rfl⟩, mo3⟩
        exact ⟨⟨_, _, _, _, rfl⟩, mo3.le (by omega)⟩
    · rintro σ' H3 ⟨⟨y7, y8, y9, y10, rfl⟩, mo3⟩
      obtain ⟨kp3, hP3, kvs, hd3, hk3, hn3, hl3⟩ := mo3
      -- firsts
      intro fa nfa
      have pf := hP3.ne_new nfa
      have hfa : H fa = none := kp3.back pf.1.symm nfa
      have e4 := Ex.new (o := .dK []) nfa
      refine ⟨_, rfl, _, rfl, p, c, ns, (n : Int), rfl, by omega, by omega, hP3.ex e4, fun a1 H5 ha1 kp5 hP5 => ⟨kp5 _ _ pf.1.symm upd_same, [(.inl (a1 : Int), .bl true)], rfl, by show 1 ≤ 15; decide, ?_⟩⟩
      have hd5 : H5 d = some (.dT kvs) := kp5 _ _ dp (e4 _ _ hd3)
      have df : d ≠ fa := fun z => by rw [z] at hd3; rw [hd3] at nfa; cases nfa
      let Mid : Nat → L2.St → Hp → Prop := fun bd σ' H' => ∃ (fkv : List (Key × V)) (ks : List Nat), σ' = [some (.ref p), some (.ref s), some (.int (rooms : Int)), some (.int (full : Int)), some (.int (n : Int)), some (.int (m : Int)), some (.ref d), y7, y8, y9, y10, some (.ref fa), none] ∧ H' fa = some (.dK fkv) ∧ fkv.map (·.1) = ks.map (fun k : Nat => (Sum.inl (k : Int) : Key)) ∧ ks.Nodup ∧ ks ≠ [] ∧ ks.length ≤ bd ∧ (∀ x ∈ ks, x < n) ∧ Keep p H H' ∧ Pot p c ns H' ∧ H' d = some (.dT kvs)
      have mid0 : Mid 1 [some (.ref p), some (.ref s), some (.int (rooms : Int)), some (.int (full : Int)), some (.int (n : Int)), some (.int (m : Int)), some (.ref d), y7, y8, y9, y10, some (.ref fa), none] (upd H5 fa (.dK (mergeK [] [(.inl (a1 : Int), .bl true)]))) := ⟨[(.inl (a1 : Int), .bl true)], [a1], rfl, upd_same, rfl, by simp, by simp, by show 1 ≤ 1; decide, fun x hx => by rw [List.mem_singleton.mp hx]; omega, ((kp3.trans (Keep.ofEx e4)).trans kp5).new hfa, hP5.new pf.1 pf.2, (upd_ne df).trans hd5⟩
      dsimp only [gName]
      generalize upd H5 fa (.dK (mergeK [] [(.inl (a1 : Int), .bl true)])) = H6 at mid0
      refine q_cut (M := Mid 2) ?_ ?_
      · obtain ⟨fkv, ks, _, hf6, hkeys, hnd, hne, hlen, hlt, kp6, hP6, hd6⟩ := mid0
        refine ⟨_, rfl, p, c, ns, 3, rfl, by decide, by decide, hP6, fun v H7 hv kp7 hP7 => ⟨rfl, _, rfl, ite2 (fun _ => ?_) (fun _ => ⟨fkv, ks, rfl, kp7 _ _ pf.1.symm hf6, hkeys, hnd, hne, by omega, hlt, kp6.trans kp7, hP7, kp7 _ _ dp hd6⟩)⟩⟩
        refine ⟨_, rfl, _, rfl, _, rfl, p, c, ns, (n : Int), rfl, by omega, by omega, hP7, fun a2 H8 ha2 kp8 hP8 => ?_⟩
        have hf8 := kp8 _ _ pf.1.symm (kp7 _ _ pf.1.symm hf6)
        have hd8 := kp8 _ _ dp (kp7 _ _ dp hd6)
        have kp08 := (kp6.trans kp7).trans kp8
        refine ⟨fa, _, rfl, DPut.k (k := .inl (a2 : Int)) hf8 (sz_lt (by have := congrArg List.length hkeys; rw [List.length_map, List.length_map] at this; omega)), ?_⟩
        have pk := putK_keys fkv (.inl (a2 : Int)) (.bl true)
        cases hb : fkv.any fun kv => decide (kv.1 = (Sum.inl (a2 : Int) : Key)) with
        | true =>
          rw [if_pos hb] at pk
          exact ⟨_, ks, rfl, upd_same, pk.trans hkeys, hnd, hne, by omega, hlt, kp08.new hfa, hP8.new pf.1 pf.2, (upd_ne df).trans hd8⟩
        | false =>
          rw [if_neg (by rw [hb]; decide)] at pk
          have na : a2 ∉ ks := fun hm => by
            have : (Sum.inl (a2 : Int) : Key) ∈ fkv.map (·.1) := by rw [hkeys]; exact List.mem_map.mpr ⟨a2, hm, rfl⟩
            obtain ⟨x, hx, hxe⟩ := List.mem_map.mp this
            rw [List.any_eq_true.mpr ⟨x, hx, decide_eq_true hxe⟩] at hb
            cases hb
          refine ⟨_, ks ++ [a2], rfl, upd_same, ?_, List.nodup_append.mpr ⟨hnd, by simp, fun x hx y hy e => ?_⟩, by simp, by rw [List.length_append]; show _ + 1 ≤ 2; omega, fun x hx => ?_, kp08.new hfa, hP8.new pf.1 pf.2, (upd_ne df).trans hd8⟩
          · rw [pk, hkeys, List.map_append]
            rfl
          · rw [List.mem_singleton.mp hy] at e
            exact na (e ▸ hx)
          · rcases List.mem_append.mp hx with z | z
            · exact hlt x z
            · rw [List.mem_singleton.mp z]
              omega
      · rintro σ' H6 ⟨fkv, ks, rfl, hf6, hkeys, hnd, hne, hlen, hlt, kp6, hP6, hd6⟩
        refine ⟨_, rfl, (n : Int), rfl, by omega, by omega, fun D nD => ?_⟩
        have pD := hP6.ne_new nD
        have hD0 : H D = none := kp6.back pD.1.symm nD
        refine lc_range (lo := 0) (n := ((n : Int)).toNat) (fun i H' => ∃ Ls : List Nat, H' D = some (.lst (Ls.map nV)) ∧ (∀ x ∈ Ls, x < i) ∧ Ls.Pairwise (· < ·) ∧ Ls.length ≤ i ∧ Keep p H6 H' ∧ Pot p c ns H') ⟨[], upd_same, fun x hx => (List.not_mem_nil hx).elim, List.Pairwise.nil, Nat.zero_le _, (Keep.refl p H6).new nD, hP6.new pD.1 pD.2⟩ ?_ ?_
        · rintro i H7 hi ⟨Ls, hD7, hx7, hp7, hl7, kp7, hP7⟩
          refine ⟨rfl, _, rfl, p, c, ns, 2, rfl, by decide, by decide, hP7, fun v H8 hv kp8 hP8 => ⟨rfl, _, rfl, ite2 (fun _ => ?_) (fun _ => ?_)⟩⟩
          · have hD8 := kp8 _ _ pD.1.symm hD7
            have e0 : (0 : Int) + (i : Int) = (i : Int) := Int.zero_add _
            refine ⟨_, rfl, _, hD8, sz_lt (by rw [List.length_map]; omega), Ls ++ [i], ?_, fun x hx => ?_, List.pairwise_append.mpr ⟨hp7, by simp, fun x hx y hy => ?_⟩, by rw [List.length_append]; show _ + 1 ≤ _; omega, (kp7.trans kp8).new nD, hP8.new pD.1 pD.2⟩
            · rw [upd_same, e0, List.map_append]
              rfl
            · rcases List.mem_append.mp hx with z | z
              · have := hx7 x z; omega
              · rw [List.mem_singleton.mp z]; omega
            · rw [List.mem_singleton.mp hy]
              exact hx7 x hx
          · exact ⟨Ls, kp8 _ _ pD.1.symm hD7, fun x hx => by have := hx7 x hx; omega, hp7, by omega, kp7.trans kp8, hP8⟩
        · rintro H7 ⟨Ls, hD7, hx7, hp7, hl7, kp7, hP7⟩
          rw [Int.toNat_natCast] at hx7 hl7
          have hf7 := kp7 _ _ pf.1.symm hf6
          have hd7 := kp7 _ _ dp hd6
          dsimp only [gName]
          refine ⟨_, rfl, _, rfl, _, rfl, _, rfl, fa, fkv, ks.map (fun k : Nat => (k : Int)), rfl, .inl hf7, by rw [hkeys, List.map_map]; rfl, by rw [List.length_map]; omega, fun ys l1 hperm hsrt nl1 => ⟨l1, _, rfl, .inl ⟨sq_of upd_same, fun u1 nu1 => ?_⟩⟩⟩
          have x1 := (Ex.new (o := .lst (ys.map V.int)) nl1).trans (Ex.new (o := .tup (ys.map V.int)) nu1)
          have hu1 : (upd (upd H7 l1 (.lst (ys.map V.int))) u1 (.tup (ys.map V.int))) u1 = some (.tup (ys.map V.int)) := upd_same
          generalize upd (upd H7 l1 (.lst (ys.map V.int))) u1 (.tup (ys.map V.int)) = H8 at x1 hu1
          refine ⟨_, rfl, D, _, rfl, .inl ⟨sq_of (x1 _ _ hD7), fun u2 nu2 => ?_⟩⟩
          have x2 := Ex.new (o := .tup (Ls.map nV)) nu2
          have hu2 : (upd H8 u2 (.tup (Ls.map nV))) u2 = some (.tup (Ls.map nV)) := upd_same
          generalize upd H8 u2 (.tup (Ls.map nV)) = H9 at x2 hu2
          refine ⟨_, rfl, ?_⟩
          dsimp only [tNil]
          refine sort_mv (K := K) ((x1.trans x2) _ _ hd7) hk3 fun mv l2 HA hpm hsm hmv hex hl2 nl2 => ⟨l2, _, rfl, .inl ⟨sq_of hl2, fun u3 nu3 => ⟨by show 6 ≤ sizeLine; decide, fun t nt => ?_⟩⟩⟩
          obtain ⟨Fs, hFs⟩ := ints_nat (ys := ys) fun y hy => by
            obtain ⟨k, _, hk⟩ := List.mem_map.mp (hperm.mem_iff.mp hy)
            exact ⟨k, hk.symm⟩
          have hFp : Fs.Perm ks := by
            rw [hFs] at hperm
            have := hperm.map Int.toNat
            rw [List.map_map, List.map_map] at this
            have id1 : ∀ l : List Nat, l.map (Int.toNat ∘ fun k : Nat => (k : Int)) = l := fun l => by
              induction l with
              | nil => rfl
              | cons a r ih => rw [List.map_cons, ih]; rfl
            rw [id1, id1] at this
            exact this
          have hFr : Fs.Pairwise (· < ·) := by
            have nd2 : (ks.map (fun k : Nat => (k : Int))).Nodup := by
              refine List.pairwise_map.mpr (hnd.imp fun h e => h (by omega))
            have := perm_rise hperm nd2 hsrt
            rw [hFs] at this
            exact (List.pairwise_map.mp this).imp fun h => by omega
          have x3 := (Ex.new (o := .tup (mv.map fun x => V.ref x.1)) nu3).trans (Ex.new (o := .tup [.ref s, .int (n : Int), .int (m : Int), .ref u1, .ref u2, .ref u3]) nt)
          have kp07 := kp6.trans kp7
          have xA : Ex H7 HA := (x1.trans x2).trans fun b o e => hex b o e
          have kpA := kp07.trans (Keep.ofEx (xA.trans x3))
          have hmv2 : mv.length = kvs.length := by
            have := hpm.length_eq
            rw [List.length_map, List.length_map] at this
            exact this
          refine q t n m Fs Ls mv _ ⟨⟨u1, u2, u3, upd_same, ?_, (x3 _ _ (hex _ _ hu2)), Ex.new nt _ _ upd_same⟩, (hs.keep hP kpA), fun x hx => x3 _ _ (hmv x hx).2⟩ ⟨n1, n6, m6, ?_, ?_, fun x hx => hlt x (hFp.mem_iff.mp hx), hFr, by omega, hx7, hp7, by omega, fun x hx => (hmv x hx).1, hsm, hpm.nodup_iff.mpr hn3⟩ kpA ((hP7.ex xA).ex x3)
          · rw [x3 _ _ (hex _ _ (x2 _ _ hu1)), hFs, List.map_map]
            rfl
          · intro z
            rw [z] at hFp
            exact hne (List.Perm.nil_eq hFp).symm
          · rw [hFp.length_eq]
            exact hlen
end
end Eh
set_option Elab.async false
set_option linter.all false
set_option maxRecDepth 100000
set_option maxHeartbeats 4000000
namespace Eh
open PySem PySem.Spec PyProof.Rows L2 Evl Ms
/-! tuples of keys as data -/
def keyD : Key → PyData
  | .inl i => .int i
  | .inr x => .str x
def kD (k : List Key) : PyData := .tuple (k.map keyD)
theorem dpKeys {K : PySem.W.Frag} {H : Hp} : ∀ k : List Key, DpAll K H (k.map kV) (k.map keyD)
  | [] => .nil
  | .inl i :: r => .cons (.int i) (dpKeys r)
  | .inr x :: r => .cons (.str x) (dpKeys r)
theorem dpKey {K : PySem.W.Frag} {H : Hp} {a : Addr} {k : List Key} (h : H a = some (.tup (k.map kV))) : Dp K H (.ref a) (kD k) := .tup (st_of h) (dpKeys k)
theorem eqv_key (a b : Key) : PyData.eqv (keyD a) (keyD b) = decide (a = b) := by
  cases a with
  | inl i =>
    cases b with
    | inl j =>
      show (i == j) = _
      rw [Bool.eq_iff_iff, beq_iff_eq, decide_eq_true_iff]
      exact ⟨fun h => by rw [h], fun h => Sum.inl.inj h⟩
    | inr y => exact (decide_eq_false (fun z => nomatch z)).symm
  | inr x =>
    cases b with
    | inl j => exact (decide_eq_false (fun z => nomatch z)).symm
    | inr y =>
      show (x == y) = _
      rw [Bool.eq_iff_iff, beq_iff_eq, decide_eq_true_iff]
      exact ⟨fun h => by rw [h], fun h => Sum.inr.inj h⟩
theorem eqv_keys : ∀ a b : List Key, PyData.eqvAll (a.map keyD) (b.map keyD) = decide (a = b)
  | [], [] => rfl
  | x :: r, [] => (decide_eq_false (fun z => nomatch z)).symm
  | [], y :: t => (decide_eq_false (fun z => nomatch z)).symm
  | x :: r, y :: t => by
    show (PyData.eqv (keyD x) (keyD y) && PyData.eqvAll (r.map keyD) (t.map keyD)) = _
    rw [eqv_key, eqv_keys r t, Bool.eq_iff_iff, Bool.and_eq_true, decide_eq_true_iff, decide_eq_true_iff, decide_eq_true_iff]
    exact ⟨fun h => by rw [h.1, h.2], fun h => by injection h with h1 h2; exact ⟨h1, h2⟩⟩
theorem eqv_kD (a b : List Key) : PyData.eqv (kD a) (kD b) = decide (a = b) := eqv_keys a b
theorem plain_keys : ∀ a : List Key, PyData.plainAll (a.map keyD) = true
  | [] => rfl
  | .inl i :: r => by show (true && PyData.plainAll (r.map keyD)) = true; rw [plain_keys r]; rfl
  | .inr x :: r => by show (true && PyData.plainAll (r.map keyD)) = true; rw [plain_keys r]; rfl
theorem plain_all : ∀ ks : List (List Key), PyData.plainAll (ks.map kD) = true
  | [] => rfl
  | k :: r => by show (PyData.plainAll (k.map keyD) && PyData.plainAll (r.map kD)) = true; rw [plain_keys, plain_all r]; rfl
theorem dep_keys : ∀ a : List Key, PyData.depthAll (a.map keyD) = 0
  | [] => rfl
  | .inl i :: r => by show max 0 (PyData.depthAll (r.map keyD)) = 0; rw [dep_keys r]; rfl
  | .inr x :: r => by show max 0 (PyData.depthAll (r.map keyD)) = 0; rw [dep_keys r]; rfl
theorem dep_kD (k : List Key) : (kD k).depth = 1 := by show PyData.depthAll (k.map keyD) + 1 = 1; rw [dep_keys]
def inK (k : List Key) (ks : List (List Key)) : Bool := ks.any fun x => decide (x = k)
theorem inK_iff {k : List Key} {ks : List (List Key)} : inK k ks = true ↔ k ∈ ks := by
  unfold inK
  rw [List.any_eq_true]
  exact ⟨fun ⟨x, hx, e⟩ => of_decide_eq_true e ▸ hx, fun h => ⟨k, h, decide_eq_true rfl⟩⟩
theorem any_kD (k : List Key) (ks : List (List Key)) : ((ks.map kD).any fun y => PyData.eqv y (kD k)) = inK k ks := by
  unfold inK
  rw [List.any_map]
  congr 1
  funext x
  exact eqv_kD x k
/-- rows of such tuples, as they stand -/
def MsAt (H : Hp) (mv : List (Addr × List Key)) : Prop := ∀ x ∈ mv, H x.1 = some (.tup (x.2.map kV))
abbrev refs (mv : List (Addr × List Key)) : List V := mv.map fun x => V.ref x.1
abbrev keys (mv : List (Addr × List Key)) : List (List Key) := mv.map (·.2)
theorem dpRows {K : PySem.W.Frag} {H : Hp} : ∀ mv : List (Addr × List Key), MsAt H mv → DpAll K H (refs mv) ((keys mv).map kD)
  | [], _ => .nil
  | x :: r, h => .cons (dpKey (h x (List.mem_cons_self ..))) (dpRows r fun y hy => h y (List.mem_cons_of_mem _ hy))
/-- move in moves, a tuple of such tuples -/
def rInM (K : PySem.W.Frag) (neg : Bool) : R2 := fun x y H Q => ∃ (a g : Addr) (k : List Key) (mv : List (Addr × List Key)), x = .ref a ∧ y = .ref g ∧ H a = some (.tup (k.map kV)) ∧ SqT K H g (refs mv) ∧ MsAt H mv ∧ Q (.bl (if neg then !inK k (keys mv) else inK k (keys mv))) H
theorem op_notInM {X : Cx} (hu : X.A.units + 64 < cLine) : OpR X (compareOp .NotIn) (rInM X.K true) := by
  intro pins s σ H x y u v Q I rx ry h
  obtain ⟨a, g, k, mv, rfl, rfl, ha, hg, hm, q⟩ := h
  obtain ⟨as, r1⟩ := Dp.reads I (kD k) _ u (dpKey ha) rx
  obtain ⟨bs, r2⟩ := Dp.reads I (.tuple ((keys mv).map kD)) _ v (.tup hg (dpRows mv hm)) ry
  refine SeqAt.notIn_tuple_data r2 r1 (plain_all _) (plain_keys k) (by rw [dep_kD]; have : min (PyData.depthAll ((keys mv).map kD)) 1 ≤ 1 := Nat.min_le_right _ _; omega) ?_
  rw [any_kD]
  exact ⟨.bl (!inK k (keys mv)), H, I, rfl, q⟩
/-- moves, looked at -/
inductive Mv
  | pl (p : Nat) (b : Str) (q : Nat)
  | op (p : Nat) (a : Str) (k : Nat) (q : Nat)
  | cl (p : Nat) (k : Nat) (c : Str) (q : Nat)
def Mv.key : Mv → List Key
  | .pl p b q => [.inr "plain", .inl (p : Int), .inr b, .inl (q : Int)]
  | .op p a k q => [.inr "open", .inl (p : Int), .inr a, .inl (k : Int), .inl (q : Int)]
  | .cl p k c q => [.inr "close", .inl (p : Int), .inl (k : Int), .inr c, .inl (q : Int)]
def Mv.frm : Mv → Nat
  | .pl p _ _ => p
  | .op p _ _ _ => p
  | .cl p _ _ _ => p
def Mv.to : Mv → Nat
  | .pl _ _ q => q
  | .op _ _ _ q => q
  | .cl _ _ _ q => q
def Mv.ltr : Mv → Str
  | .pl _ b _ => b
  | .op _ a _ _ => a
  | .cl _ _ c _ => c
def Mv.mark : Mv → Nat
  | .pl _ _ _ => 0
  | .op _ _ k _ => k
  | .cl _ k _ _ => k
def Mv.Ok (os ls qs : List Str) (n m : Nat) : Mv → Prop
  | .pl p b q => p < n ∧ q < n ∧ b ∈ ls
  | .op p a k q => p < n ∧ q < n ∧ k < m ∧ a ∈ os
  | .cl p k c q => p < n ∧ q < n ∧ k < m ∧ c ∈ qs
theorem MvK.mv {os ls qs : List Str} {n m : Nat} {k : List Key} (h : MvK os ls qs n m k) : ∃ v : Mv, k = v.key ∧ v.Ok os ls qs n m := by
  cases h with
  | @pl p q b h1 h2 h3 => exact ⟨.pl p b q, rfl, h1, h2, h3⟩
  | @op p q j a h1 h2 h3 h4 => exact ⟨.op p a j q, rfl, h1, h2, h3, h4⟩
  | @cl p q j c h1 h2 h3 h4 => exact ⟨.cl p j c q, rfl, h1, h2, h3, h4⟩
theorem Mv.kd {os ls qs : List Str} {n m : Nat} (hS : Sht os ls qs) : ∀ {v : Mv}, v.Ok os ls qs n m → kdOf os qs v.ltr = match v with | .pl _ _ _ => .pl | .op _ _ _ _ => .op | .cl _ _ _ _ => .cl
  | .pl _ _ _, h => hS.plain h.2.2
  | .op _ _ _ _, h => kd_op.mpr h.2.2.2
  | .cl _ _ _ _, h => (kd_cl hS).mpr h.2.2.2
theorem Mv.inj {a b : Mv} (h : a.key = b.key) : a = b := by
  cases a <;> cases b <;> simp only [Mv.key, List.cons.injEq, Sum.inr.injEq, Sum.inl.injEq] at h
  · obtain ⟨_, h1, h2, h3, _⟩ := h
    rw [show _ = _ from Int.ofNat.inj h1, h2, show _ = _ from Int.ofNat.inj h3]
  · exact absurd h.1 (by decide)
  · exact absurd h.1 (by decide)
  · exact absurd h.1 (by decide)
  · obtain ⟨_, h1, h2, h3, h4, _⟩ := h
    rw [show _ = _ from Int.ofNat.inj h1, h2, show _ = _ from Int.ofNat.inj h3, show _ = _ from Int.ofNat.inj h4]
  · exact absurd h.1 (by decide)
  · exact absurd h.1 (by decide)
  · exact absurd h.1 (by decide)
  · obtain ⟨_, h1, h2, h3, h4, _⟩ := h
    rw [show _ = _ from Int.ofNat.inj h1, show _ = _ from Int.ofNat.inj h2, h3, show _ = _ from Int.ofNat.inj h4]
end Eh
set_option Elab.async false
set_option linter.all false
set_option maxRecDepth 100000
set_option maxHeartbeats 4000000
namespace Eh
open PySem PySem.Spec PyProof.Rows L2 Evl
abbrev rIsN : R2 := fun x y H Q => y = V.non ∧ Q (.bl (decide (x = .non))) H
abbrev rNotN : R2 := fun x y H Q => y = V.non ∧ Q (.bl (!decide (x = .non))) H
theorem rv_notN {x : V} {H : Hp} : RV rNotN x .non H (.bl (!decide (x = .non))) := fun H1 _ _ q => ⟨rfl, q H1 (Ex.refl H1)⟩
theorem t_at {t : List (Option Nat)} {a : Nat} (ha : a < t.length) : atI (t.map oV) (a : Int) = some (oV (tv t a)) := by
  refine atI_nat ?_
  rw [List.getElem?_map, tv_get ha]
  rfl
theorem given_map (xs : List Nat) (f : Nat → Bool) (g : Nat → V) : given xs.length (fun i => f (xs.getD i 0)) (fun i => g (xs.getD i 0)) = (xs.filter f).map g := by
  have e : (List.range xs.length).map (fun i => xs.getD i 0) = xs := by
    apply List.ext_getElem
    · rw [List.length_map, List.length_range]
    · intro i h1 h2
      rw [List.getElem_map, List.getElem_range, List.getD_eq_getElem?_getD, List.getElem?_eq_getElem h2]
      rfl
  unfold given
  conv => rhs; rw [← e]
  rw [List.filter_map, List.map_map]
  rfl
def aloneOf (os qs ws : List Str) (t : List (Option Nat)) : List Nat :=
  ((List.range ws.length).filter fun i => decide (tv t i = none)).filter (fun i => decide (kfOf os qs ws i = .cl)) ++ ((List.range ws.length).filter fun i => decide (tv t i = none)).filter (fun i => decide (kfOf os qs ws i = .op))
theorem aloneOf_nil {os qs ws : List Str} {t : List (Option Nat)} : aloneOf os qs ws t = [] ↔ ∀ i, i < ws.length → tv t i = none → kfOf os qs ws i = .pl := by
  unfold aloneOf
  rw [List.append_eq_nil_iff, List.filter_eq_nil_iff, List.filter_eq_nil_iff]
  constructor
  · rintro ⟨h1, h2⟩ i hi hn
    have hm : i ∈ (List.range ws.length).filter fun i => decide (tv t i = none) := List.mem_filter.mpr ⟨List.mem_range.mpr hi, decide_eq_true hn⟩
    cases hk : kfOf os qs ws i with
    | pl => rfl
    | op => exact absurd (decide_eq_true hk) (h2 i hm)
    | cl => exact absurd (decide_eq_true hk) (h1 i hm)
  · intro h
    constructor
    · intro i hm
      obtain ⟨a, b⟩ := List.mem_filter.mp hm
      rw [h i (List.mem_range.mp a) (of_decide_eq_true b)]
      decide
    · intro i hm
      obtain ⟨a, b⟩ := List.mem_filter.mp hm
      rw [h i (List.mem_range.mp a) (of_decide_eq_true b)]
      decide
abbrev nAlone : List Str := ["sheet", "word", "told", "places", "bare", "place"]
theorem scAlone : FnScope nAlone ["sheet", "word", "told"] (defScope sAlone) := ⟨rfl, rfl, rfl, by decide +kernel, rfl, by decide +kernel, by decide +kernel⟩
abbrev nNeedShut : List Str := ["sheet", "word", "told", "wrong"]
theorem scNeedShut : FnScope nNeedShut ["sheet", "word"] (defScope sNeedShut) := ⟨rfl, rfl, rfl, by decide +kernel, rfl, by decide +kernel, by decide +kernel⟩
abbrev nIsBegin : List Str := ["told", "place"]
theorem scIsBegin : FnScope nIsBegin ["told", "place"] (defScope sIsBegin) := ⟨rfl, rfl, rfl, by decide +kernel, rfl, by decide +kernel, by decide +kernel⟩
abbrev nLetterOf : List Str := ["move"]
theorem scLetterOf : FnScope nLetterOf ["move"] (defScope sLetterOf) := ⟨rfl, rfl, rfl, by decide +kernel, rfl, by decide +kernel, by decide +kernel⟩
theorem cl_some {os qs W : List Str} (hb : bal os qs W 0 = some 0) {i : Nat} (hi : i < W.length) (hc : kfOf os qs W i = .cl) : tv (ansOf os qs W) i ≠ none := by
  have h1 := bal_take hb i (by omega)
  have h2 := bal_take hb (i + 1) hi
  have hne : (run (kfOf os qs W) W.length i).2 ≠ [] := fun hnil => by
    rw [hnil] at h1
    have e1 : W.take (i + 1) = W.take i ++ [W[i]] := by rw [List.take_succ, List.getElem?_eq_getElem hi]; rfl
    rw [e1, bal_app, h1] at h2
    rw [kfOf_at (List.getElem?_eq_getElem hi)] at hc
    replace h2 : bal os qs [W[i]] 0 = _ := h2
    unfold bal at h2
    rw [hc] at h2
    cases h2
  have g := good_run (kfOf os qs W) W.length i (by omega)
  have st : ∃ b, tv (run (kfOf os qs W) W.length (i + 1)).1 i = some b := by
    show ∃ b, tv (step (kfOf os qs W) i (run (kfOf os qs W) W.length i)).1 i = some b
    unfold step
    rw [hc]
    cases hs : (run (kfOf os qs W) W.length i).2 with
    | nil => exact absurd hs hne
    | cons b r =>
      have l := g.len
      exact ⟨b, by rw [tv_set2 (by omega) (by have := (g.bd b (by rw [hs]; exact List.mem_cons_self ..)).1; omega), if_pos rfl]⟩
  obtain ⟨b, hb'⟩ := st
  have lt := (run_later (kfOf os qs W) W.length (i + 1) i (W.length - (i + 1)) (by omega)).1 b hb'
  rw [show i + 1 + (W.length - (i + 1)) = W.length by omega] at lt
  show tv (run (kfOf os qs W) W.length W.length).1 i ≠ none
  rw [lt]
  exact fun z => nomatch z
theorem alone_nil {os qs W : List Str} (hb : bal os qs W 0 = some 0) : aloneOf os qs W (ansOf os qs W) = [] := by
  refine aloneOf_nil.mpr fun i hi hn => ?_
  cases hk : kfOf os qs W i with
  | pl => rfl
  | op =>
    have := (good_run (kfOf os qs W) W.length W.length (Nat.le_refl _)).opn i hi hk hn
    rw [st_end hb] at this
    exact (List.not_mem_nil this).elim
  | cl => exact absurd hn (cl_some hb hi hk)
def spNeedShut0 (K : PySem.W.Frag) : Sp := fun vs H Q _ => ∃ (s l : Addr) (os ps qs ws : List Str), vs = [.ref s, .ref l] ∧ Sht os ps qs ∧ SheetAt H s os ps qs ∧ SqL K H l (ws.map V.str) ∧ (∀ x ∈ ws, x ∈ os ++ ps ++ qs) ∧ ws.length ≤ 10000 ∧ bal os qs ws 0 = some 0 ∧ ∀ a H', Ex H H' → H a = none → H' a = some (tO (ansOf os qs ws)) → Q (.ref a) H'
def begB (t : List (Option Nat)) (i : Nat) : Bool := match tv t i with
  | some j => decide (i < j)
  | none => false
def spBegin (K : PySem.W.Frag) : Sp := fun vs H Q _ => ∃ (a : Addr) (t : List (Option Nat)) (i : Nat), vs = [.ref a, .int (i : Int)] ∧ SqL K H a (t.map oV) ∧ i < t.length ∧ Q (.bl (begB t i)) H
def spLetterOf : Sp := fun vs H Q _ => ∃ (a : Addr) (v : Mv), vs = [.ref a] ∧ H a = some (.tup (v.key.map kV)) ∧ Q (.str v.ltr) H
section
variable {P : Program} {w : World} {K : PySem.W.Frag} {mg : Str → Option Value} {base : Heap}
def spAlone (K : PySem.W.Frag) : Sp := fun vs H Q _ => ∃ (s l a : Addr) (os ps qs ws : List Str) (t : List (Option Nat)), vs = [.ref s, .ref l, .ref a] ∧ Sht os ps qs ∧ SheetAt H s os ps qs ∧ SqL K H l (ws.map V.str) ∧ SqL K H a (t.map oV) ∧ t.length = ws.length ∧ ws.length ≤ 10000 ∧ ∀ r H', Ex H H' → H r = none → H' r = some (tN (aloneOf os qs ws t)) → Q (.ref r) H'
theorem ok_alone {f : Addr} {fd : FuncData} {k : Nat} (F : Fun K "alone" "alone" sAlone f fd) (ml : mg "len" = none) (mr : mg "range" = none) : FnOk P w K mg base CX0 (k + 1) f fd ["sheet", "word", "told"] (spAlone K) := by
  have nd := scAlone.nd
  refine F.ok scAlone (fun vs H Q E h => ?_) (fun cdv A outer s H vs Q E hr h => ?_)
  · obtain ⟨s, l, a, os, ps, qs, ws, t, rfl, _⟩ := h
    rfl
  · obtain ⟨s, l, a, os, ps, qs, ws, t, rfl, hS, ⟨ao, ap, ac, g0, g1, g2, g3⟩, hl, ha, htl, hlen, q⟩ := h
    have bk := fun (scope : Scope) (h : blkC nAlone (defScope sAlone) scope [("place", 5)] = true) => blkOk_by (own := [("place", 5)]) h
    refine ⟨_, pss_cons (ps_setLc (i := 3) (own := [("place", 5)]) (g := gName 5) (tt := tTest (tOp (fun x y H Q => y = V.non ∧ Q (.bl (decide (x = .non))) H) (tOp (rIxL K) (tVar 2) (tVar 5)) (tC .non))) rfl nd rfl rfl (sw_true rfl rfl rfl (by decide +kernel)) (pi_range1 (by rfl) mr (pa_cons (pe_callB call_len_seq (by rfl) ml PySem.boot_len (pa_cons (pv 1) pa_nil)) pa_nil)) (bk _ (by decide +kernel)) (fun _ _ _ _ _ => pg_name (i := 5) nd rfl (Or.inl rfl)) (fun _ _ _ _ _ => pts_one (pt_cmpR op_isN (pe_ix ix_list (pv 2) (pv 5) (fun _ _ => rfl)) pe_non (nomark _))) (fun _ _ _ _ _ => pv 5))
      (pss_cons (ps_setLc (i := 4) (own := [("place", 5)]) (g := gName 5) (tt := tTest (tOp (rIn K false) (tOp (rIxL K) (tVar 1) (tVar 5)) (tOp (rIxT K) (tVar 0) (tC (.int 2))))) rfl nd rfl rfl (sw_true rfl rfl rfl (by decide +kernel)) (pi_list (pv 3)) (bk _ (by decide +kernel)) (fun _ _ _ _ _ => pg_name (i := 5) nd rfl (Or.inl rfl)) (fun _ _ _ _ _ => pts_one (pt_cmpR op_in_seq (pe_ix ix_list (pv 1) (pv 5) (fun _ _ => rfl)) (pe_ix ix_tup (pv 0) pe_int (fun _ _ => rfl)) (by rfl))) (fun _ _ _ _ _ => pv 5))
      (pss_one (ps_ret (pe_op op_cat (pv 4) (pe_lc (own := [("place", 5)]) (g := gName 5) (tt := tTest (tOp (rIn K false) (tOp (rIxL K) (tVar 1) (tVar 5)) (tOp (rIxT K) (tVar 0) (tC (.int 0))))) rfl nd (pi_list (pv 3)) (bk _ (by decide +kernel)) (fun _ _ _ _ _ => pg_name (i := 5) nd rfl (Or.inl rfl)) (fun _ _ _ _ _ => pts_one (pt_cmpR op_in_seq (pe_ix ix_list (pv 1) (pv 5) (fun _ _ => rfl)) (pe_ix ix_tup (pv 0) pe_int (fun _ _ => rfl)) (by rfl))) (fun _ _ _ _ _ => pv 5)))))), ?_⟩
    have n0 : (ws.map V.str).length = ws.length := List.length_map _
    refine q_asgL (el_lcR1 (fun i => decide (tv t i = none)) nV (ea_cons (ev_len (ev_var rfl) hl) ea_nil) (by rw [n0]; omega) (fun x => rfl) (fun i H1 e1 hi => ?_) (fun i H1 e1 hi _ => ev_var rfl)) fun p1 H1 np1 e1 hp1 => ?_
    · have hi' : i < t.length := by omega
      refine et_is (et_test (ev_op (ev_op (ev_var rfl) (ev_var rfl) (rv_ixL (ex_l e1 ha) (atI_nat (v := oV (tv t i)) ?_))) ev_c (rv_isN (K := K)))) (oV_non _)
      rw [List.getElem?_map, tv_get hi']
      rfl
    rw [n0, Int.toNat_natCast] at hp1
    generalize hpl : ((List.range ws.length).filter fun i => decide (tv t i = none)) = pl
    have epl : given ws.length (fun i => decide (tv t i = none)) nV = pl.map nV := by
      unfold given
      rw [hpl]
    rw [epl] at hp1
    have hplm : ∀ i x, (pl.map nV)[i]? = some x → ∃ j, x = nV j ∧ pl.getD i 0 = j ∧ j < ws.length := fun i x hx => by
      rw [List.getElem?_map] at hx
      obtain ⟨j, hj, rfl⟩ := Option.map_eq_some_iff.mp hx
      refine ⟨j, rfl, ?_, ?_⟩
      · rw [List.getD_eq_getElem?_getD, hj]
        rfl
      · have := List.mem_of_getElem? hj
        rw [← hpl] at this
        exact List.mem_range.mp (List.mem_filter.mp this).1
    have pll : (pl.map nV).length ≤ 40000 := by
      rw [List.length_map, ← hpl]
      have h2 := List.length_filter_le (fun i => decide (tv t i = none)) (List.range ws.length)
      rw [List.length_range] at h2
      omega
    have rd : ∀ (H2 : Hp), Ex H H2 → ∀ (j : Nat), j < ws.length → ∀ (σ' : L2.St) (y : List Str) (ad : Addr) (z : Int) (kd : Kd), σ'[0]? = some (some (.ref s)) → σ'[1]? = some (some (.ref l)) → σ'[5]? = some (some (nV j)) → atI [V.ref ao, .ref ap, .ref ac] z = some (.ref ad) → SqT K H2 ad (y.map V.str) → (∀ x, kdOf os qs x = kd ↔ x ∈ y) →
        EvT (tTest (tOp (rIn K false) (tOp (rIxL K) (tVar 1) (tVar 5)) (tOp (rIxT K) (tVar 0) (tC (.int z))))) σ' H2 (decide (kfOf os qs ws j = kd)) := fun H2 e2 j hj σ' y ad z kd h0 h1 h5 hat hsq hkd => by
      have hwj : ws[j]? = some ws[j] := List.getElem?_eq_getElem hj
      refine et_is (et_test (ev_op (ev_op (ev_var h1) (ev_var h5) (rv_ixL (ex_l e2 hl) (atI_nat (v := .str ws[j]) (by rw [List.getElem?_map, hwj]; rfl)))) (ev_op (ev_var h0) ev_c (rv_ixT (st_of (e2 _ _ g0)) hat)) (rv_isT hsq rfl (flat_str y)))) ?_
      rw [inV_str, kfOf_at hwj]
      exact decide_eq_decide.mpr (hkd _).symm
    have hc := fun x => kd_cl hS (x := x)
    refine q_asgL (el_lcL (fun i => decide (kfOf os qs ws (pl.getD i 0) = .cl)) (fun i => nV (pl.getD i 0)) (ev_var rfl) (sq_of hp1) pll (fun x => rfl) (fun i x H2 e2 hx => ?_) (fun i x H2 e2 hx _ => ?_)) fun p2 H2 np2 e2 hp2 => ?_
    · obtain ⟨j, rfl, hj, hj2⟩ := hplm i x hx
      rw [hj]
      exact rd H2 (e1.trans e2) j hj2 _ qs ac 2 .cl rfl rfl rfl rfl (st_of ((e1.trans e2) _ _ g3)) hc
    · obtain ⟨j, rfl, hj, hj2⟩ := hplm i x hx
      rw [hj]
      exact ev_var rfl
    rw [List.length_map, given_map pl (fun j => decide (kfOf os qs ws j = .cl)) nV] at hp2
    refine ⟨_, rfl, ?_⟩
    refine (el_lcL (fun i => decide (kfOf os qs ws (pl.getD i 0) = .op)) (fun i => nV (pl.getD i 0)) (ev_var rfl) (sq_of (e2 _ _ hp1)) pll (fun x => rfl) (fun i x H4 e4 hx => ?_) (fun i x H4 e4 hx _ => ?_)) H2 (Ex.refl _) _ fun p3 H4 np3 e4 hp3 => ?_
    · obtain ⟨j, rfl, hj, hj2⟩ := hplm i x hx
      rw [hj]
      exact rd H4 ((e1.trans e2).trans e4) j hj2 _ os ao 0 .op rfl rfl rfl rfl (st_of (((e1.trans e2).trans e4) _ _ g1)) (fun x => kd_op)
    · obtain ⟨j, rfl, hj, hj2⟩ := hplm i x hx
      rw [hj]
      exact ev_var rfl
    rw [List.length_map, given_map pl (fun j => decide (kfOf os qs ws j = .op)) nV] at hp3
    have ee := ((e1.trans e2).trans e4)
    refine ⟨p2, p3, _, _, rfl, rfl, e4 _ _ hp2, hp3, ?_, fun p4 np4 => q p4 _ (ee.trans (Ex.new np4)) (fresh_back ee np4) ?_⟩
    · rw [List.length_map, List.length_map]
      have a1 := List.length_filter_le (fun j => decide (kfOf os qs ws j = .cl)) pl
      have a2 := List.length_filter_le (fun j => decide (kfOf os qs ws j = .op)) pl
      rw [List.length_map] at pll
      exact sz_of (by omega)
    · rw [upd_same]
      unfold aloneOf tN
      rw [hpl, List.map_append]
theorem ok_needShut0 {f fanswers falone : Addr} {fd danswers dalone : FuncData} {k : Nat} (F : Fun K "need_shut" "need_shut" sNeedShut f fd) (Fanswers : Fun K "answers" "answers" sAnswers fanswers danswers) (Ganswers : FnOk P w K mg base CX0 (k + 1) fanswers danswers ["sheet", "word"] (spAnswers K)) (banswers : Binds K danswers ["sheet", "word"] []) (ganswers : mg "answers" = some (.ref fanswers)) (Falone : Fun K "alone" "alone" sAlone falone dalone) (Galone : FnOk P w K mg base CX0 (k + 1) falone dalone ["sheet", "word", "told"] (spAlone K)) (balone : Binds K dalone ["sheet", "word", "told"] []) (galone : mg "alone" = some (.ref falone)) : FnOk P w K mg base CX0 (k + 2) f fd ["sheet", "word"] (spNeedShut0 K) := by
  have nd := scNeedShut.nd
  refine F.ok scNeedShut (fun vs H Q E h => ?_) (fun cdv A outer s H vs Q E hr h => ?_)
  · obtain ⟨s, l, os, ps, qs, ws, rfl, _⟩ := h
    rfl
  · obtain ⟨s, l, os, ps, qs, ws, rfl, hS, hs, hl, hm, hlen, hb, q⟩ := h
    refine ⟨_, (pss_cons (ps_set (i := 2) nd rfl (.inl rfl) (pe_call Ganswers hr (by rfl) ganswers Fanswers.kp banswers .nil pass0 (pa_cons (pv 0) (pa_cons (pv 1) pa_nil))))
      (pss_cons (ps_set (i := 3) nd rfl (.inl rfl) (pe_call Galone hr (by rfl) galone Falone.kp balone .nil pass0 (pa_cons (pv 0) (pa_cons (pv 1) (pa_cons (pv 2) pa_nil)))))
      (pss_cons (ps_if (pt_truth (pv 3) (by intro _; rfl)) (pss_one ps_never) pss_nil)
      (pss_one (ps_ret (pv 2)))))), ?_⟩
    refine ⟨_, rfl, _, rfl, s, l, os, ps, qs, ws, rfl, hS, hs, hl, hm, hlen, fun a H1 e1 na ha => ?_⟩
    refine ⟨_, rfl, _, rfl, _, rfl, s, l, a, os, ps, qs, ws, ansOf os qs ws, rfl, hS, hs.ex e1, ex_l e1 hl, sq_of ha, ansOf_len' os qs ws, hlen, fun r H2 e2 nr hr2 => ?_⟩
    rw [alone_nil hb] at hr2
    refine ⟨_, rfl, false, .inl ⟨[], sq_of hr2, rfl⟩, iteF ⟨_, rfl, q a H2 (e1.trans e2) na (e2 _ _ ha)⟩⟩
theorem ok_begin {f : Addr} {fd : FuncData} {k : Nat} (F : Fun K "is_begin" "is_begin" sIsBegin f fd) : FnOk P w K mg base CX0 (k + 1) f fd ["told", "place"] (spBegin K) := by
  have nd := scIsBegin.nd
  refine F.ok scIsBegin (fun vs H Q E h => ?_) (fun cdv A outer s H vs Q E hr h => ?_)
  · obtain ⟨a, t, i, rfl, _⟩ := h
    rfl
  · obtain ⟨a, t, i, rfl, ha, hi, q⟩ := h
    refine ⟨_, (pss_one (ps_ret (pe_and (pe_cmpR op_notN (pe_ix ix_list (pv 0) (pv 1) (fun _ _ => rfl)) pe_non (nomark _)) (pe_one (pe_cmpR op_gt (pe_ix ix_list (pv 0) (pv 1) (fun _ _ => rfl)) (pv 1) (nomark _)))))), ?_⟩
    unfold begB at q
    have hat := t_at hi
    cases hz : tv t i with
    | none =>
      rw [hz] at q hat
      exact ⟨_, rfl, _, rfl, a, _, _, _, rfl, rfl, ha, hat, rfl, _, rfl, iteF q⟩
    | some j =>
      rw [hz] at q hat
      refine ⟨_, rfl, _, rfl, a, _, _, _, rfl, rfl, ha, hat, rfl, _, rfl, iteT ⟨_, rfl, _, rfl, a, _, _, _, rfl, rfl, ha, hat, _, rfl, _, _, rfl, rfl, ?_⟩⟩
      show Q (.bl (decide ((i : Int) < (j : Int)))) H
      rw [show decide ((i : Int) < (j : Int)) = decide (i < j) from decide_eq_decide.mpr Int.ofNat_lt]
      exact q
theorem ok_letterOf {f : Addr} {fd : FuncData} {k : Nat} (F : Fun K "letter_of" "letter_of" sLetterOf f fd) : FnOk P w K mg base CX0 (k + 1) f fd ["move"] spLetterOf := by
  have nd := scLetterOf.nd
  refine F.ok scLetterOf (fun vs H Q E h => ?_) (fun cdv A outer s H vs Q E hr h => ?_)
  · obtain ⟨a, v, rfl, _⟩ := h
    rfl
  · obtain ⟨a, v, rfl, ha, q⟩ := h
    refine ⟨_, (pss_one (ps_ret (pe_ifExp (pt_cmpR op_eq (pe_ix ix_tup (pv 0) pe_int (fun _ _ => rfl)) pe_str (nomark _)) (pe_ix ix_tup (pv 0) pe_int (fun _ _ => rfl)) (pe_ix ix_tup (pv 0) pe_int (fun _ _ => rfl))))), ?_⟩
    cases v with
    | pl p b r => exact ⟨_, rfl, a, _, _, _, rfl, rfl, st_of ha, rfl, rfl, _, rfl, iteF ⟨_, rfl, a, _, _, _, rfl, rfl, st_of ha, rfl, q⟩⟩
    | op p b j r => exact ⟨_, rfl, a, _, _, _, rfl, rfl, st_of ha, rfl, rfl, _, rfl, iteF ⟨_, rfl, a, _, _, _, rfl, rfl, st_of ha, rfl, q⟩⟩
    | cl p j b r => exact ⟨_, rfl, a, _, _, _, rfl, rfl, st_of ha, rfl, rfl, _, rfl, iteT ⟨_, rfl, a, _, _, _, rfl, rfl, st_of ha, rfl, q⟩⟩
end
end Eh
set_option Elab.async false
set_option linter.all false
set_option maxRecDepth 100000
set_option maxHeartbeats 4000000
/-! {k: v for .. in ..}, the keys tuples of whole numbers and texts -/
namespace Dct
open PySem PySem.Spec PyProof.Rows L2
/-- a new pair under a tuple's key -/
theorem put_t {Y : Cx} {pins : List (Addr × Obj)} {σ : L2.St} {H : Hp} {s : Shared} {E : Value → Shared → Prop} {N b : Addr} {kvs : List (List Key × V)} {k : List Key} {v : V} {r : Value} {Q : Unit → Shared → Prop}
    (hu : Y.A.units + 1 < cLine) (I : Inv Y pins σ H s) (hN : H N = some (.dT kvs)) (hb : H b = some (.tup (k.map kV))) (room : kvs.length < sizeLine) (rv : RelV v r)
    (go : ∀ s', Inv Y pins σ (upd H N (.dT (putK kvs k v))) s' → Q () s') : wpAny (model Y.prog Y.w) Y.A (dictSet N (.ref b) r) Q E s := by
  obtain ⟨len, low, xs, kt, dict⟩ := dt_of I.hok hN
  have fits : xs.length ≤ sizeLine := (Paired.length kt) ▸ len
  have more := length_putK kvs k v
  refine wpAny_dictSet_heap (hsz := fits) (show Y.A.units < cLine by omega) (key_of I.hok hb) dict fun heap dict' rest => go _ ?_
  obtain ⟨ob, ents, ep, at_, ex, dat, els, _, uniq⟩ := dict'
  refine d_write I (by rw [hN]; trivial) rest ⟨ob, at_⟩ ⟨by omega, low, _, (kt.put k hb rv).keeps fun c ys hc => ?_, ob, ents, ep, at_, ex, dat, els, uniq⟩
  exact (upd_ne (ne_of hc hN fun z => nomatch z)).trans hc
/-- what such a comprehension asks: N the new dict -/
def tDcT (wi : TI) (g : TG) (tt : TT) (tk tv : TE) (vs : List Nat) : TE := fun σ H Q => wi σ H fun J H1 => ∀ N, H1 N = none → ∃ T : Nat → Nat → Hp → Prop, (∃ m, T 0 m (upd H1 N (.dT []))) ∧
  ∀ i m H, T i m H → (J.stop i H ∧ Q (.ref N) H) ∨ (J.go i H ∧ ∃ On : Hp → Prop, (∀ H', On H' → ∃ m', m' < m ∧ T (i + 1) m' H') ∧
    ∀ x H', J.yld i H x H' → g x (wipe σ vs) H' fun σ2 H2 => wipe σ2 vs = wipe σ vs ∧ tt σ2 H2 fun b H3 =>
      if b = true then tk σ2 H3 fun y H4 => tv σ2 H4 fun z H5 => ∃ kvs k a, y = .ref a ∧ H5 a = some (.tup (k.map kV)) ∧ H5 N = some (.dT kvs) ∧ kvs.length < sizeLine ∧ On (upd H5 N (.dT (putK kvs k z))) else On H3)
abbrev inBlk (X : Cx) (scope : Scope) (J : Cx → Prop) : Prop := ∀ (s : Shared) (H : Hp) (C : Addr) (cl : List (Str × Addr)) (fp : List Addr), J (X.blk s H scope (compEnvC scope cl C X.env) fp)
abbrev emptyD : Obj := { cls := .type "dict", data := .dict #[] }
section
variable {X : Cx}
theorem pe_dcT {kx vx tg iter : Expr} {ifs : List Expr} {scope : Scope} {own : List (Str × Nat)} {pos : Pos} {wi : TI} {g : TG} {tt : TT} {tk tv : TE} (cm : X.calm = true) (un : X.A.units + 1 < cLine) (uq : X.N.Nodup) (pi : PI X tg iter wi) (bo : BlkOk X.N X.env.scope scope own)
    (gg : inBlk X scope fun Y => PG Y tg g) (gt : inBlk X scope fun Y => PTs Y ifs tt) (gk : inBlk X scope fun Y => PE Y kx tk) (gv : inBlk X scope fun Y => PE Y vx tv) (nofold : ∀ x, foldedSetIterable iter X.env x = pure x := by intro _; rfl) :
    PE X (.DictComp kx vx [⟨tg, iter, ifs, 0⟩] scope pos) (tDcT wi g tt tk tv (own.map (·.2))) := by
  refine ⟨fun pins s0 σ H0 Q I0 asks => ?_⟩
  rw [arm_eval_DictComp]
  have caps : ∀ y ∈ scope.names, y.2 = .free → ∃ c, X.env.cells.lookup y.1 = some c := fun y hy e => (bo.free y hy e).elim (fun k => I0.ok.has _ (.inl k)) fun k => I0.ok.has _ (.inr k)
  refine wpAny_comprehension_free (use := none) rfl nofold (closure_ok caps) bo.kind (fun y hy e => (bo.uniq y hy).trans (congrArg some e)) ?_
  refine thn (pi.run pins s0 σ H0 _ I0 asks) fun xv s1 walked => thn walked fun itv s2 made => ?_
  obtain ⟨it, fp, tn, J, H2, rfl, I2, W, at0, frame, rest⟩ := made
  refine wpAny_newObj_type (newEnv_comp ?_)
  obtain ⟨N, hN⟩ : ∃ N, N = s2.heap.objs.size := ⟨_, rfl⟩
  rw [← hN]
  have freshN : H2 N = none := I2.hok.fresh (Nat.le_of_eq hN.symm)
  obtain ⟨T, ⟨m0, first⟩, turns⟩ := rest N freshN
  obtain ⟨s3, hs3⟩ : ∃ s3 : Shared, s3 = { s2 with heap := s2.heap.push emptyD } := ⟨_, rfl⟩
  have heap3 : s3.heap = s2.heap.push emptyD := by rw [hs3]
  have I3 : Inv X pins σ (upd H2 N (.dT [])) s3 := by
    subst hs3 hN
    exact I2.laid (t' := s2.toks) (fun b o e => Heap.get?_push_of_some _ e) (Nat.le_refl _) (dt_empty s2.heap I2.big)
  have old : ∀ b ∈ fp, b < s2.heap.objs.size := fun b hb => (W.obj _ _ at0 b hb).elim fun o e => Heap.lt_size e.1
  have frame3 : ∀ b ∈ fp, FpOk X pins (upd H2 N (.dT [])) b ∧ b < s3.heap.objs.size := fun b hb =>
    ⟨⟨(upd_ne (Nat.ne_of_lt (hN ▸ old b hb))).trans (frame b hb).1, (frame b hb).2⟩, by rw [heap3, Heap.size_push]; exact Nat.lt_succ_of_lt (old b hb)⟩
  have at3 : tn 0 s3.heap := W.keep _ _ _ at0 fun b _ o e => heap3 ▸ Heap.get?_push_of_some _ e
  have I4 := block_start I3 bo uq frame3
  have qg := gg s3 (upd H2 N (.dT [])) s3.heap.objs.size (cellsFrom (s3.heap.objs.size + 1) scope.names (cloFrom X.env.cells scope.names [])) fp
  have qt := gt s3 (upd H2 N (.dT [])) s3.heap.objs.size (cellsFrom (s3.heap.objs.size + 1) scope.names (cloFrom X.env.cells scope.names [])) fp
  have qk := gk s3 (upd H2 N (.dT [])) s3.heap.objs.size (cellsFrom (s3.heap.objs.size + 1) scope.names (cloFrom X.env.cells scope.names [])) fp
  have qv := gv s3 (upd H2 N (.dT [])) s3.heap.objs.size (cellsFrom (s3.heap.objs.size + 1) scope.names (cloFrom X.env.cells scope.names [])) fp
  rw [← hs3]
  show codeAny _ _ (.compStart (.DictComp kx vx [⟨tg, iter, ifs, 0⟩] scope pos) 0 (.ref it) (.ref N) (compEnvC scope (cellsFrom (s3.heap.objs.size + 1) scope.names (cloFrom X.env.cells scope.names [])) s3.heap.objs.size X.env)) (compPost (model X.prog X.w) X.A X.xe none (EP X pins σ Q) (.ref N) s3.heap.objs.size) { s3 with heap := pushCells (s3.heap.push emptyD) scope.names }
  have free3 : ∀ b ∈ fp, (upd H2 N (.dT [])) b = none := fun b hb => (frame3 b hb).1.1
  generalize env : compEnvC scope (cellsFrom (s3.heap.objs.size + 1) scope.names (cloFrom X.env.cells scope.names [])) s3.heap.objs.size X.env = ce at I4 qg qt qk qv ⊢
  have locs : ce.locals = s3.heap.objs.size := by rw [← env]; rfl
  generalize hH3 : upd H2 N (.dT []) = H3 at I3 I4 qg qt qk qv first free3 frame3
  generalize hs4 : ({ s3 with heap := pushCells (s3.heap.push emptyD) scope.names } : Shared) = s4 at I4 ⊢
  have at4 : tn 0 s4.heap := W.keep _ _ _ at3 fun b _ o e => hs4 ▸ pushCells_keeps _ _ _ _ (Heap.get?_push_of_some _ e)
  let Y := X.blk s3 H3 scope ce fp
  have held : ∀ {σ' : L2.St} {H' : Hp} {s' : Shared}, Inv Y [] σ' H' s' → (∀ b ∈ fp, H' b = none) → ∀ b ∈ fp, FpOk Y [] H' b := fun {σ' H' s'} I' no b hb => by
    refine ⟨no b hb, (I'.ok.exf b hb).1, I'.ok.exfs b hb, .inl hb, (I'.ok.exf b hb).2, fun p hp => ?_⟩
    exact (List.not_mem_nil (show p ∈ ([] : List (Addr × Obj)) from hp)).elim
  have loop : codeAny (model X.prog X.w) X.A (.compLoop (.DictComp kx vx [⟨tg, iter, ifs, 0⟩] scope pos) 0 (.ref it) (.ref N) ce) (compPost (model X.prog X.w) X.A X.xe none (EP X pins σ Q) (.ref N) s3.heap.objs.size) s4 := by
    refine compLoop_anyD (fun m s' => ∃ i H', Inv Y [] (wipe σ (own.map (·.2))) H' s' ∧ tn i s'.heap ∧ (∀ b ∈ fp, H' b = none) ∧ T i m H') ?_ m0 ⟨0, H3, I4, at4, free3, first⟩
    rintro m s5 ⟨i, H5, I5, at5, free5, t5⟩
    rcases turns i m H5 t5 with ⟨stop, wish⟩ | ⟨go, On, onward, turn⟩
    · refine thnF (W.done Y rfl rfl rfl cm i [] s5 _ H5 (fun _ _ => False) I5 (held I5 free5) at5 stop) fun none6 s6 ⟨is6, I6⟩ => ?_
      subst is6
      have back : Inv X pins σ H5 s6 := I3.call' (ch := fp) I6.os I6.base I6.hok I6.bare fun b hb => by
        obtain ⟨_, p1, p2, p3, p4, p5⟩ := (frame3 b hb).1
        exact ⟨p3, p1, p4, p5⟩
      have noC : H5 s3.heap.objs.size = none := locs ▸ (show H5 ce.locals = none from I6.free)
      obtain ⟨ns, names, _⟩ := I6.loc
      have names' : s6.heap.Ns s3.heap.objs.size ns := locs ▸ (show s6.heap.Ns ce.locals ns from names)
      obtain ⟨c0, c1, c2, c3, c4, c5⟩ := I3.fpOk (Nat.le_refl _) noC
      exact ⟨ns, names', fun h'' same => ⟨.ref N, H5, back.turned (t' := s6.toks) (fun b o hb e => (same.2 b hb).trans e) c0 c1 c3 c4 c5, rfl, wish⟩⟩
    · refine thnF (W.item Y rfl rfl rfl cm i [] s5 _ H5 (fun _ _ => False) I5 (held I5 free5) at5 go) fun some6 s6 ⟨u, is6, next6⟩ => ?_
      subst is6
      refine thnF next6 fun _ s7 ⟨x, H7, I7, rx, yields, at7, free7⟩ => ?_
      refine thnF (qg.run _ s7 _ H7 x u _ (I7.pinned (held I7 free7) (W.obj _ _ at7)) rx (turn x H7 yields)) fun _ s8 ⟨σ8, H8, I8, same8, tests⟩ => ?_
      refine thnF (qt.run _ s8 σ8 H8 _ I8 tests) fun keepIt s9 ⟨H9, I9, then9⟩ => ?_
      have close : ∀ {s' : Shared} {H' : Hp}, Inv Y ([] ++ pinsAt fp s7.heap) σ8 H' s' → On H' → ∃ m', m' < m ∧ ∃ i H', Inv Y [] (wipe σ (own.map (·.2))) H' s' ∧ tn i s'.heap ∧ (∀ b ∈ fp, H' b = none) ∧ T i m' H' := fun {s' H'} I' on => by
        obtain ⟨m', less, t'⟩ := onward H' on
        have pinned : ∀ b ∈ fp, ∀ o, s7.heap.get? b = some o → s'.heap.get? b = some o ∧ H' b = none := fun b hb o e => by
          have z := I'.pin (b, o) (List.mem_append_right _ (List.mem_append_right _ (mem_pinsAt hb e)))
          exact ⟨z.1, z.2.1⟩
        refine ⟨m', less, i + 1, H', (I'.unpinned (pins := [])).weak (by rw [← same8, wipe_length]) (fun j v e => ?_), W.keep _ _ _ at7 fun b hb o e => (pinned b hb o e).1, fun b hb => ?_, t'⟩
        · exact (wipe_some (same8 ▸ e)).1
        · exact (W.obj _ _ at7 b hb).elim fun o e => (pinned b hb o e.1).2
      cases keepIt with
      | false => exact close I9 then9
      | true =>
        refine thnF (qk.run _ s9 σ8 H9 _ I9 then9) fun kv s10 ⟨yk, H10, I10, rk, then10⟩ => ?_
        refine thnF (qv.run _ s10 σ8 H10 _ I10 then10) fun vv s11 ⟨yv, H11, I11, rv, kvs, k, a, ek, ha, hN11, room, on⟩ => ?_
        subst ek
        cases (show kv = Value.ref a from rk)
        exact put_t (Y := Y) un I11 hN11 ha room rv fun s12 I12 => close I12 on
  exact codeAny_compStart_dict loop (W.self X.A 0 _ _ _ at4 loop)
/-- over a tuple that stays, the target a name, no test -/
theorem dcT_tup {K : PySem.W.Frag} {a : Addr} {xs : List V} {tk tv : TE} {vs : List Nat} {j : Nat} {σ : L2.St} {H1 : Hp} {N : Addr} {Qd : Hp → Prop} (Pv : Nat → Hp → Prop) (h0 : Pv 0 (upd H1 N (.dT []))) (hl : ∀ i H, i ≤ xs.length → Pv i H → SqT K H a xs)
    (hw : ∀ x, wipe ((wipe σ vs).set j (some x)) vs = wipe σ vs)
    (hs : ∀ i x H, xs[i]? = some x → Pv i H → tk ((wipe σ vs).set j (some x)) H fun y H4 => tv ((wipe σ vs).set j (some x)) H4 fun z H5 => ∃ kvs k b, y = .ref b ∧ H5 b = some (.tup (k.map kV)) ∧ H5 N = some (.dT kvs) ∧ kvs.length < sizeLine ∧ Pv (i + 1) (upd H5 N (.dT (putK kvs k z))))
    (hd : ∀ H, Pv xs.length H → Qd H) :
    ∃ T : Nat → Nat → Hp → Prop, (∃ m, T 0 m (upd H1 N (.dT []))) ∧ ∀ i m H, T i m H → ((Itt K a).stop i H ∧ Qd H) ∨ ((Itt K a).go i H ∧ ∃ On : Hp → Prop, (∀ H', On H' → ∃ m', m' < m ∧ T (i + 1) m' H') ∧
      ∀ x H', (Itt K a).yld i H x H' → gName j x (wipe σ vs) H' fun σ2 H2 => wipe σ2 vs = wipe σ vs ∧ tYes σ2 H2 fun b H3 =>
        if b = true then tk σ2 H3 fun y H4 => tv σ2 H4 fun z H5 => ∃ kvs k b, y = .ref b ∧ H5 b = some (.tup (k.map kV)) ∧ H5 N = some (.dT kvs) ∧ kvs.length < sizeLine ∧ On (upd H5 N (.dT (putK kvs k z))) else On H3) := by
  refine ⟨fun i m H => m = xs.length - i ∧ i ≤ xs.length ∧ Pv i H, ⟨xs.length, by omega, Nat.zero_le _, h0⟩, ?_⟩
  rintro i m H ⟨rfl, hi, pp⟩
  have st := hl i H hi pp
  by_cases lt : i < xs.length
  · refine .inr ⟨⟨xs, _, st, List.getElem?_eq_getElem lt⟩, Pv (i + 1), fun H' p' => ⟨xs.length - (i + 1), by omega, rfl, lt, p'⟩, fun x H' y => ?_⟩
    obtain ⟨rfl, f⟩ := y
    exact ⟨hw x, hs i x _ (f xs st) pp⟩
  · obtain rfl : i = xs.length := by omega
    exact .inl ⟨⟨xs, st, Nat.le_refl _⟩, hd H pp⟩
end
end Dct
set_option Elab.async false
set_option linter.all false
set_option maxRecDepth 100000
set_option maxHeartbeats 4000000
namespace Gx
open PySem PySem.Spec PyProof.Rows L2 GxR GenW
/-! all(e for x in xs), any(..): e any expression, also one that calls, also one that holds such again -/
/-- the context of a generator expression's own frame -/
abbrev gcx (X : Cx) (A : Around) (s : Shared) (H : Hp) (cenv : Env) (fp : List Addr) (pn : List (Addr × Obj)) : Cx := { X with A := A, s_0 := s, H_0 := H, env := cenv, outer := X.stack, stack := cenv :: X.stack, ex := fp, fn := fun _ => false, pn := pn, xe := fun _ _ => False }
abbrev gEnv (X : Cx) (scope : Scope) (C : Addr) (code : Value) : Env := genEnv scope (cloFrom X.env.cells scope.names []) C code builtinsNs X.env
theorem over_gen {A : Around} {elt target iter : Expr} {ifs : List Expr} {scope : Scope} {pos : Pos} {it acc : Value} {env : Env} : A.over (.compLoop (.GeneratorExp elt [⟨target, iter, ifs, 0⟩] scope pos) 0 it acc env) [] = A.deeper env := by
  first
    | rfl
    | (obtain ⟨hd, d, fr, gs, u⟩ := A; simp [Around.over, Around.deeper, marksOver, frameCount, unitsOf, envsOf, guardsOf, pushEnvs, pushGuards, Code.envs, Code.env?, Code.isFrame, Code.guards, Code.isGuard, Code.weight, Code.frames, Code.isCreation, Code.isCaller, Code.cUnits])
section
variable {X : Cx} {pins : List (Addr × Obj)} {σ : L2.St} {H : Hp} {s : Shared}
theorem gen_start {scope : Scope} {own : List (Str × Nat)} {fp : List Addr} {code : Value} {A : Around} {h5 : Heap} {tk : Nat} {gs : Array GenState} {m : Str → Option Value} {a : Addr} {go : Obj} (I : Inv X pins σ H s) (ok : BlkOk X.N X.env.scope scope own) (hN : X.N.Nodup) (hcell : ∀ y ∈ scope.names, y.2 ≠ .cell)
    (hfp : ∀ b ∈ fp, FpOk X pins H b ∧ b < s.heap.objs.size) (hA : A.handled = none) (hfr : A.frames = some (gEnv X scope s.heap.objs.size code :: X.stack)) (kp : ∀ b o, s.heap.get? b = some o → h5.get? b = some o) (hns : h5.Ns s.heap.objs.size m)
    (hgo : h5.get? a = some go) (ha : s.heap.objs.size < a) (hgd : ∀ v, go.data ≠ .cell v) (hb : AllBare gs) :
    Inv (gcx X A s H (gEnv X scope s.heap.objs.size code) fp [(a, go)]) [] (wipe σ (own.map (·.2))) H { s with heap := h5, gens := gs, toks := tk } := by
  have hfree : ∀ y ∈ scope.names, y.2 = .free → ∃ c, X.env.cells.lookup y.1 = some c := fun y hy e => by
    rcases ok.free y hy e with k | k
    · exact I.ok.has _ (.inl k)
    · exact I.ok.has _ (.inr k)
  generalize hcenv : gEnv X scope s.heap.objs.size code = cenv at hfr
  have hL : cenv.locals = s.heap.objs.size := by rw [← hcenv]; rfl
  have hcl : cenv.cells = cloFrom X.env.cells scope.names [] := by rw [← hcenv]; rfl
  have hsc : cenv.scope = scope := by rw [← hcenv]; rfl
  have hF : cenv.frame = some cenv.locals := by rw [← hcenv]; rfl
  have cm : ∀ {y c}, (y, c) ∈ cloFrom X.env.cells scope.names [] → X.env.cells.lookup y = some c ∧ c < s.heap.objs.size := fun {y c} hm => by
    rcases cloFrom_mem hm with hm | ⟨h1, rfl⟩
    · cases hm
    · obtain ⟨c, hc⟩ := hfree _ h1 rfl
      rw [hc]
      obtain ⟨w, z⟩ := I.cell _ _ hc
      exact ⟨rfl, z.lt⟩
  have mem : ∀ {y c}, cenv.cells.lookup y = some c → X.env.cells.lookup y = some c ∧ c < s.heap.objs.size := fun {y c} e => by
    rw [hcl] at e
    exact cm (PySem.mem_of_lookup e)
  have look : ∀ {y}, scope.names.lookup y = some .free → ∃ c, cenv.cells.lookup y = some c ∧ X.env.cells.lookup y = some c := fun {y} hl => by
    have hy : (y, NameKind.free) ∈ scope.names := PySem.mem_of_lookup hl
    obtain ⟨c', e'⟩ := mem_lookup (cloFrom_has (cells := X.env.cells) (acc := []) hy)
    rw [← hcl] at e'
    exact ⟨c', e', (mem e').1⟩
  have kindf : ∀ {y}, (cenv.kindOf y = some .cell ∨ cenv.kindOf y = some .free) → scope.names.lookup y = some .free := fun {y} hy => by
    unfold Env.kindOf at hy
    rw [hsc] at hy
    rcases hy with hy | hy
    · exact absurd rfl (hcell _ (PySem.mem_of_lookup hy))
    · exact hy
  have okB : (gcx X A s H cenv fp [(a, go)]).Ok := by
    refine ⟨I.ok.mod, by show cenv.scope.kind = _; rw [hsc]; exact ok.kind, by show cenv.globals = _; rw [← hcenv]; exact I.ok.glob, by show cenv.builtins = _; rw [← hcenv]; rfl, by show s.heap.objs.size ≤ cenv.locals; rw [hL]; exact Nat.le_refl _,
      fun y z c e1 e2 => ?_, fun y hy => ?_, fun y c z e => absurd z Bool.false_ne_true, fun _ => hA, hfr, .inr ⟨rfl, hF⟩, fun b hb => ⟨?_, fun y c e z => ?_⟩, I.bs, Nat.le_trans I.ok.bsz I.sz, fun b o e hb => ?_, fun b hb z => ?_, I.stack, I.stkFree⟩
    · exact I.ok.inj y z c (mem (show cenv.cells.lookup y = some c from e1)).1 (mem (show cenv.cells.lookup z = some c from e2)).1
    · obtain ⟨c, h1, _⟩ := look (kindf hy)
      exact ⟨c, h1⟩
    · show b ≠ cenv.locals
      rw [hL]; exact Nat.ne_of_lt (hfp b hb).2
    · exact (hfp b hb).1.2.2.2.2.1 y c (mem (show cenv.cells.lookup y = some c from e)).1 z
    · rcases (hfp b hb).1.2.2.2.1 with z | z
      · exact I.ok.noex b o e z
      · exact absurd (Nat.lt_of_lt_of_le (Heap.lt_size e) (Nat.le_trans I.ok.bsz z)) (Nat.lt_irrefl _)
    · rcases List.mem_cons.mp (I.stkSub b z) with z | z
      · exact (hfp b hb).1.2.1 z
      · exact (hfp b hb).1.2.2.1 z
  refine ⟨okB, rfl, hb, Un.kept kp, ⟨m, ?_, fun i y av e1 e2 e3 => ?_⟩, fun y c e => ?_, ?_, fun y c e => ?_, fun p hp => ?_, I.hok.kept kp, by rw [wipe_length]; exact I.len⟩
  · show Heap.Ns _ cenv.locals _
    rw [hL]
    exact hns
  · obtain ⟨e2, hne⟩ := wipe_some e2
    have hfr : scope.names.lookup y = some .free := by
      have e3 : Vis cenv.scope y := e3
      rw [hsc] at e3
      rcases e3 with e3 | e3 | e3
      · rcases ok.own _ (PySem.mem_of_lookup e3) (.inl rfl) with e' | e'
        · obtain ⟨p, hp, hpy⟩ := List.mem_map.mp e'
          have e4 := ok.ix p hp
          have : p.1 = y := hpy
          rw [this] at e4
          exact absurd (List.mem_map.mpr ⟨p, hp, nodup_ix hN e4 e1⟩) hne
        · exact absurd (List.mem_of_getElem? e1) e'
      · exact absurd rfl (hcell _ (PySem.mem_of_lookup e3))
      · exact e3
    obtain ⟨m', hn, hl⟩ := I.loc
    have hvis : Vis X.env.scope y := (ok.free _ (PySem.mem_of_lookup hfr) rfl).elim (fun k => .inr (.inl k)) (fun k => .inr (.inr k))
    obtain ⟨w, r, q⟩ := hl i y av e1 e2 hvis
    refine ⟨w, r, .inr ⟨.inr (by show cenv.scope.names.lookup y = _; rw [hsc]; exact hfr), ?_⟩⟩
    obtain ⟨c, h1, h2⟩ := look hfr
    rcases q with ⟨k, _⟩ | ⟨_, c', e', z⟩
    · have k : X.env.scope.names.lookup y = some .local := k
      rcases ok.free _ (PySem.mem_of_lookup hfr) rfl with k' | k' <;> rw [show X.env.scope.names.lookup y = _ from k'] at k <;> cases k
    · rw [h2] at e'; cases e'
      exact ⟨c, h1, z.keeps kp⟩
  · obtain ⟨w, z⟩ := I.cell y c (mem (show cenv.cells.lookup y = some c from e)).1
    exact ⟨w, z.keeps kp⟩
  · show H cenv.locals = none
    rw [hL]; exact I.hok.fresh (Nat.le_refl _)
  · exact I.freeC y c (mem (show cenv.cells.lookup y = some c from e)).1
  · have hp' : p = (a, go) := by
      have : p ∈ [(a, go)] ++ [] := hp
      rw [List.append_nil] at this
      exact List.mem_singleton.mp this
    subst hp'
    refine ⟨hgo, I.hok.fresh (Nat.le_of_lt ha), ?_, ?_, hgd⟩
    · show a ≠ cenv.locals
      rw [hL]; exact Nat.ne_of_gt ha
    · show a ∉ frs X.stack
      intro z
      rcases List.mem_cons.mp (I.stkSub a z) with z | z
      · exact absurd (Nat.lt_trans I.lt ha) (by rw [z]; exact Nat.lt_irrefl _)
      · exact I.nofs (Nat.le_of_lt ha) z
end
end Gx
set_option Elab.async false
set_option linter.all false
set_option maxRecDepth 100000
set_option maxHeartbeats 4000000
namespace Gx
open PySem PySem.Spec PyProof.Rows L2 GxR GenW
/-- the state behind s1 for the def around: H' stands there, whatever the consumer does to the generators -/
def Out (X : Cx) (pins : List (Addr × Obj)) (σ : L2.St) (H' : Hp) (s1 : Shared) : Prop := ∀ s' : Shared, s'.os = s1.os → AllBare s'.gens → (∀ b o, s1.heap.get? b = some o → s'.heap.get? b = some o) → Inv X pins σ H' s'
/-- the generator sleeps at a turn -/
def gY (X : Cx) (pins : List (Addr × Obj)) (σ : L2.St) (stop : Bool) (Q : VK) (a : Addr) (g : Nat) : Protocol := fun n s₀ v s1 kap =>
  ∃ b : Bool, v = .bool b ∧ s1.heap.IsGen a g ∧ s1.heap.NoLimit ∧ AllBare s1.gens ∧ (b = stop → ∃ H', Out X pins σ H' s1 ∧ Q (.bl stop) H') ∧ (b ≠ stop → ∀ s' : Shared, s'.heap = s1.heap → s'.os = s1.os → AllBare s'.gens → kap (.send .none) s')
def gF (X : Cx) (pins : List (Addr × Obj)) (σ : L2.St) (stop : Bool) (Q : VK) : Nat → Shared → Shared → Prop := fun _ _ s1 => AllBare s1.gens ∧ ∃ H', Out X pins σ H' s1 ∧ Q (.bl (!stop)) H'
def gR (X : Cx) (pins : List (Addr × Obj)) (σ : L2.St) (stop : Bool) (Q : VK) : GenEnd := fun n s₀ r s₁ => ((r = .ok (.ret .none) ∨ r = .ok .next) ∧ gF X pins σ stop Q n s₀ s₁) ∨ ∃ e, r = .error e ∧ (fun (_ : Value) (_ : Shared) => False) e s₁
section
variable {X : Cx} {pins : List (Addr × Obj)} {σ : L2.St} {H : Hp} {s : Shared}
theorem gen_loop {elt tg iter : Expr} {scope : Scope} {pos : Pos} {it : Addr} {B : Around} {s4 : Shared} {H4 : Hp} {cenv : Env} {fp vs : List Addr} {a : Addr} {g : Nat} {go : Obj} {tn : Nat → Heap → Prop} {J : It} {gt : TG} {te : TE} {stop : Bool} {Q : VK} {W : Nat → Nat → Hp → Prop}
    (hc : X.calm = true) (I4 : Inv X pins σ H4 s4) (f4 : ∀ b ∈ fp, FpOk X pins H4 b ∧ b < s4.heap.objs.size) (T : Turn X.prog X.w X.K tg J fp it tn) (hgen : ∀ h : Heap, h.get? a = some go → h.IsGen a g) (hco : cenv.scope.isCoroutine = false) (hag : s4.heap.objs.size ≤ a)
    (pg : PG (gcx X (B.deeper cenv) s4 H4 cenv fp [(a, go)]) tg gt) (pe : PE (gcx X (B.deeper cenv) s4 H4 cenv fp [(a, go)]) elt te)
    (turn : ∀ i m H, W i m H → (J.stop i H ∧ Q (.bl (!stop)) H) ∨ (J.go i H ∧ ∀ x H', J.yld i H x H' → gt x (wipe σ vs) H' fun σ2 H2 => wipe σ2 vs = wipe σ vs ∧ te σ2 H2 fun y H3 => ∃ b, y = .bl b ∧ if b = stop then Q (.bl stop) H3 else ∃ m', m' < m ∧ W (i + 1) m' H3)) :
    ∀ (n i m : Nat) (s₀ s : Shared) (H' : Hp), m < n → Inv (gcx X (B.deeper cenv) s4 H4 cenv fp [(a, go)]) [] (wipe σ vs) H' s → tn i s.heap → (∀ b ∈ fp, H' b = none) → W i m H' →
      Seg (model X.prog X.w) B (gR X pins σ stop Q) (gY X pins σ stop Q a g) n s₀ (.compLoop (.GeneratorExp elt [⟨tg, iter, [], 0⟩] scope pos) 0 (.ref it) .none cenv)
        ((model X.prog X.w).den (.compLoop (.GeneratorExp elt [⟨tg, iter, [], 0⟩] scope pos) 0 (.ref it) .none cenv)) [] s := by
  have ov : B.over (.compLoop (.GeneratorExp elt [⟨tg, iter, [], 0⟩] scope pos) 0 (.ref it) .none cenv) [] = B.deeper cenv := over_gen
  have out : ∀ {H' : Hp} {σ' : L2.St} {pl : List (Addr × Obj)} {s1 : Shared}, Inv (gcx X (B.deeper cenv) s4 H4 cenv fp [(a, go)]) pl σ' H' s1 → Out X pins σ H' s1 := fun {H' σ' pl s1} J1 s' ho hb hk =>
    I4.call' (ch := fp) (ho.trans J1.os) (J1.base.trans (Un.kept hk)) (J1.hok.kept hk) hb fun b hb => ⟨(f4 b hb).1.2.2.2.1, (f4 b hb).1.2.1, (f4 b hb).1.2.2.2.2.1, (f4 b hb).1.2.2.2.2.2⟩
  have isg : ∀ {H' : Hp} {σ' : L2.St} {pl : List (Addr × Obj)} {s1 : Shared}, Inv (gcx X (B.deeper cenv) s4 H4 cenv fp [(a, go)]) pl σ' H' s1 → s1.heap.IsGen a g := fun {H' σ' pl s1} J1 =>
    hgen _ (J1.pin (a, go) (List.mem_append_left _ (List.mem_singleton.mpr rfl))).1
  have stat : ∀ {σ' : L2.St} {H' : Hp} {s' : Shared}, Inv (gcx X (B.deeper cenv) s4 H4 cenv fp [(a, go)]) [] σ' H' s' → (∀ b ∈ fp, H' b = none) → ∀ b ∈ fp, FpOk (gcx X (B.deeper cenv) s4 H4 cenv fp [(a, go)]) [] H' b := fun {σ' H' s'} I' hn b hb =>
    ⟨hn b hb, (I'.ok.exf b hb).1, I'.ok.exfs b hb, .inl hb, fun x c e => (I'.ok.exf b hb).2 x c e, fun p hp => by
      have hp' : p = (a, go) := by
        have : p ∈ [(a, go)] ++ [] := hp
        rw [List.append_nil] at this
        exact List.mem_singleton.mp this
      rw [hp']
      exact Nat.ne_of_gt (Nat.lt_of_lt_of_le (f4 b hb).2 hag)⟩
  intro n
  induction n with
  | zero => exact fun i m s₀ s H' h => absurd h (Nat.not_lt_zero _)
  | succ n ih =>
    intro i m s₀ s H' hm I st nf w
    show Seg _ B _ _ _ s₀ _ ((compTurn (.GeneratorExp elt [⟨tg, iter, [], 0⟩] scope pos) 0 (.ref it) .none cenv).onRaise (leaving cenv)) [] s
    rw [compTurn_gen, Sem.onRaise_eq_wrap]
    refine seg_bind_wrap (wpAny_standAt ?_)
    rcases turn i m H' w with ⟨stp, qq⟩ | ⟨goes, step⟩
    · have td := T.done (gcx X (B.deeper cenv) s4 H4 cenv fp [(a, go)]) rfl rfl rfl hc i [] s _ H' (fun _ _ => False) I (stat I nf) st stp
      refine seg_bind_wrap ?_
      rw [ov]
      refine thnF td fun r s6 ⟨hr, I6⟩ => ?_
      subst hr
      exact seg_end (.ok .next) (.inl ⟨.inr rfl, I6.bare, H', out I6, qq⟩)
    · have ti := T.item (gcx X (B.deeper cenv) s4 H4 cenv fp [(a, go)]) rfl rfl rfl hc i [] s _ H' (fun _ _ => False) I (stat I nf) st goes
      refine seg_bind_wrap ?_
      rw [ov]
      refine thnF ti fun r s6 ⟨u, hr, h6⟩ => ?_
      subst hr
      refine seg_bind_wrap ?_
      rw [ov]
      refine thnF h6 fun _ s7 ⟨x, H7, I7, r7, y7, st7, n7⟩ => ?_
      have I7' := I7.pinned (stat I7 n7) (T.obj _ _ st7)
      refine seg_bind_wrap ?_
      rw [ov]
      refine thnF (pg.run _ s7 _ H7 x u _ I7' r7 (step x H7 y7)) fun _ s8 ⟨σ8, H8, I8, hw8, q8⟩ => ?_
      refine seg_bind_wrap ?_
      rw [ov]
      refine wpAny_tests_nil ?_
      simp only [if_true]
      have hy : ∀ v, yieldOut cenv v = yieldValue v := fun v => by simp only [yieldOut, hco, Bool.false_eq_true, if_false]
      simp only [hy]
      rw [Sem.bind_eq_wrap', Sem.bind_eq_wrap', Sem.wrap_wrap, Sem.wrap_wrap]
      refine seg_wrap ?_
      rw [ov]
      refine thnF (pe.run _ s8 σ8 H8 _ I8 q8) fun z s10 ⟨yv, H10, I10, r10, b, eb, q10⟩ => ?_
      subst eb
      obtain rfl : z = Value.bool b := r10
      have pin' : ∀ b ∈ fp, ∀ o, s7.heap.get? b = some o → s10.heap.get? b = some o ∧ H10 b = none := fun b hb o e =>
        let z := I10.pin (b, o) (List.mem_append_right _ (List.mem_append_right _ (mem_pinsAt hb e)))
        ⟨z.1, z.2.1⟩
      have hl : (wipe σ vs).length = σ8.length := by rw [← hw8, wipe_length]
      have I11 : Inv (gcx X (B.deeper cenv) s4 H4 cenv fp [(a, go)]) [] (wipe σ vs) H10 s10 := (I10.unpinned (pins := [])).weak hl (fun j v e => by rw [← hw8] at e; exact (wipe_some e).1)
      refine seg_at (seg_yield rfl rfl rfl ⟨b, rfl, isg I11, I11.nolimit, I11.bare, fun hb => ?_, fun hb s' eh eo hbare => ?_⟩)
      · rw [if_pos hb] at q10
        exact ⟨H10, out I11, q10⟩
      · rw [if_neg hb] at q10
        obtain ⟨m', hm', w'⟩ := q10
        have I12 : Inv (gcx X (B.deeper cenv) s4 H4 cenv fp [(a, go)]) [] (wipe σ vs) H10 s' := I11.call' (ch := []) eo (Un.kept fun b o e => by rw [eh]; exact e) (I11.hok.kept fun b o e => by rw [eh]; exact e) hbare (fun b z => absurd z (by simp))
        refine seg_again rfl (ih (i + 1) m' s' s' H10 (by omega) I12 (T.keep _ _ _ st7 fun b hb o e => by rw [eh]; exact (pin' b hb o e).1) (fun b hb => ?_) w')
        obtain ⟨o, e, _⟩ := T.obj _ _ st7 b hb
        exact (pin' b hb o e).2
end
end Gx
set_option Elab.async false
set_option linter.all false
set_option maxRecDepth 100000
set_option maxHeartbeats 4000000
namespace Gx
open PySem PySem.Spec PyProof.Rows L2 GxR GenW
/-- a generator that sleeps, ready for n more turns -/
def GSt (X : Cx) (pins : List (Addr × Obj)) (σ : L2.St) (B : Around) (stop : Bool) (Q : VK) (a : Addr) (g n : Nat) (s : Shared) : Prop :=
  s.heap.IsGen a g ∧ s.heap.NoLimit ∧ AllBare s.gens ∧ ∃ gs, s.gens[g]? = some gs ∧ ∀ s'' : Shared, s''.heap = s.heap → s''.os = s.os → AllBare s''.gens → gs.Goes (model X.prog X.w) B (gR X pins σ stop Q) (gY X pins σ stop Q a g) n (.send .none) s''
section
variable {X : Cx} {pins : List (Addr × Obj)} {σ : L2.St} {A : Around} {R : Result → Shared → Prop} {Q : VK} {a : Addr} {g : Nat}
theorem all_loop (hh : A.handled = none) (hd : A.depth < recursionLimit) (hR : ∀ u s', EP X pins σ Q u s' → R (.ok (.ret u)) s') : ∀ (n : Nat) (s : Shared), GSt X pins σ A.in1.in1 false Q a g n s →
    codeAny (model X.prog X.w) A (.builtin "all.loop" ⟨[.ref a], []⟩) R s := by
  intro n
  induction n with
  | zero =>
    intro s ⟨hg, hl, hba, gs, hgs, hgo⟩
    refine codeAny_builtin F.entry_all_loop ?_
    rw [Around.under_plainId F.plain_all_loop _]
    show wpAny _ A.in1 (pyNext (.ref a) >>= _) _ _ s
    refine wpAny_bind (next_genG (A := A.in1) (F := gF X pins σ false Q) (Er := fun _ _ => False) hh hl hd hg hgs (hgo _ rfl rfl (allBare_setGen hba rfl)) (fun v s₁ gs' hbare hv => ?_) (fun s₁ hp h' hk => ?_) fun e s₁ he => he.elim)
    · obtain ⟨b, rfl, hg1, hl1, hb1, h1, h2⟩ := hv
      cases b with
      | true => exact (h2 (by decide) _ rfl rfl hb1).elim
      | false =>
        obtain ⟨H', o1, q1⟩ := h1 rfl
        refine wpAny_bind (wpAny_holding (wpAny_truthy_bool ?_))
        refine wpAny_bind (wpAny_letGo ?_)
        simp only [Bool.false_eq_true, if_false]
        exact wpAny_bind (wpAny_rule (wpAny_pure (hR _ _ ⟨.bl false, H', o1 _ rfl (allBare_setGen hb1 hbare) fun b o e => e, rfl, q1⟩)))
    · obtain ⟨hb1, H', o1, q1⟩ := hp
      exact wpAny_bind (wpAny_rule (wpAny_pure (hR _ _ ⟨.bl true, H', o1 _ rfl (allBare_setGen hb1 rfl) hk, rfl, q1⟩)))
  | succ n ih =>
    intro s ⟨hg, hl, hba, gs, hgs, hgo⟩
    have hgl : g < s.gens.size := (Array.getElem?_eq_some_iff.mp hgs).1
    refine codeAny_builtin F.entry_all_loop ?_
    rw [Around.under_plainId F.plain_all_loop _]
    show wpAny _ A.in1 (pyNext (.ref a) >>= _) _ _ s
    refine wpAny_bind (wpAny_gsz (n := g + 1) hgl (next_genG (A := A.in1) (F := gF X pins σ false Q) (Er := fun _ _ => False) hh hl hd hg hgs (hgo _ rfl rfl (allBare_setGen hba rfl)) (fun v s₁ gs' hbare hv => ?_) (fun s₁ hp h' hk => ?_) fun e s₁ he => he.elim))
    · intro hsz
      obtain ⟨b, rfl, hg1, hl1, hb1, h1, h2⟩ := hv
      have hsz1 : g < s₁.gens.size := by
        have q : (s₁.setGen g gs').gens.size = s₁.gens.size := setGen_size _ _ _
        have hsz' : g + 1 ≤ (s₁.setGen g gs').gens.size := hsz
        omega
      refine wpAny_bind (wpAny_holding (wpAny_truthy_bool ?_))
      refine wpAny_bind (wpAny_letGo ?_)
      cases b with
      | true =>
        simp only [if_true]
        refine wpAny_pure ⟨plainId_quiet F.plain_all_loop _, ih (s₁.setGen g gs') ⟨hg1, hl1, allBare_setGen hb1 hbare, gs', setGen_at hsz1, fun s'' eh eo hb => ?_⟩⟩
        exact h2 (by decide) s'' eh eo hb
      | false =>
        obtain ⟨H', o1, q1⟩ := h1 rfl
        simp only [Bool.false_eq_true, if_false]
        exact wpAny_bind (wpAny_rule (wpAny_pure (hR _ _ ⟨.bl false, H', o1 _ rfl (allBare_setGen hb1 hbare) fun b o e => e, rfl, q1⟩)))
    · intro hsz
      obtain ⟨hb1, H', o1, q1⟩ := hp
      exact wpAny_bind (wpAny_rule (wpAny_pure (hR _ _ ⟨.bl true, H', o1 _ rfl (allBare_setGen hb1 rfl) hk, rfl, q1⟩)))
theorem any_loop (hh : A.handled = none) (hd : A.depth < recursionLimit) (hR : ∀ u s', EP X pins σ Q u s' → R (.ok (.ret u)) s') : ∀ (n : Nat) (s : Shared), GSt X pins σ A.in1.in1 true Q a g n s →
    codeAny (model X.prog X.w) A (.builtin "any.loop" ⟨[.ref a], []⟩) R s := by
  intro n
  induction n with
  | zero =>
    intro s ⟨hg, hl, hba, gs, hgs, hgo⟩
    refine codeAny_builtin F.entry_any_loop ?_
    rw [Around.under_plainId F.plain_any_loop _]
    show wpAny _ A.in1 (pyNext (.ref a) >>= _) _ _ s
    refine wpAny_bind (next_genG (A := A.in1) (F := gF X pins σ true Q) (Er := fun _ _ => False) hh hl hd hg hgs (hgo _ rfl rfl (allBare_setGen hba rfl)) (fun v s₁ gs' hbare hv => ?_) (fun s₁ hp h' hk => ?_) fun e s₁ he => he.elim)
    · obtain ⟨b, rfl, hg1, hl1, hb1, h1, h2⟩ := hv
      cases b with
      | false => exact (h2 (by decide) _ rfl rfl hb1).elim
      | true =>
        obtain ⟨H', o1, q1⟩ := h1 rfl
        refine wpAny_bind (wpAny_holding (wpAny_truthy_bool ?_))
        refine wpAny_bind (wpAny_letGo ?_)
        simp only [if_true]
        exact wpAny_bind (wpAny_rule (wpAny_pure (hR _ _ ⟨.bl true, H', o1 _ rfl (allBare_setGen hb1 hbare) fun b o e => e, rfl, q1⟩)))
    · obtain ⟨hb1, H', o1, q1⟩ := hp
      exact wpAny_bind (wpAny_rule (wpAny_pure (hR _ _ ⟨.bl false, H', o1 _ rfl (allBare_setGen hb1 rfl) hk, rfl, q1⟩)))
  | succ n ih =>
    intro s ⟨hg, hl, hba, gs, hgs, hgo⟩
    have hgl : g < s.gens.size := (Array.getElem?_eq_some_iff.mp hgs).1
    refine codeAny_builtin F.entry_any_loop ?_
    rw [Around.under_plainId F.plain_any_loop _]
    show wpAny _ A.in1 (pyNext (.ref a) >>= _) _ _ s
    refine wpAny_bind (wpAny_gsz (n := g + 1) hgl (next_genG (A := A.in1) (F := gF X pins σ true Q) (Er := fun _ _ => False) hh hl hd hg hgs (hgo _ rfl rfl (allBare_setGen hba rfl)) (fun v s₁ gs' hbare hv => ?_) (fun s₁ hp h' hk => ?_) fun e s₁ he => he.elim))
    · intro hsz
      obtain ⟨b, rfl, hg1, hl1, hb1, h1, h2⟩ := hv
      have hsz1 : g < s₁.gens.size := by
        have q : (s₁.setGen g gs').gens.size = s₁.gens.size := setGen_size _ _ _
        have hsz' : g + 1 ≤ (s₁.setGen g gs').gens.size := hsz
        omega
      refine wpAny_bind (wpAny_holding (wpAny_truthy_bool ?_))
      refine wpAny_bind (wpAny_letGo ?_)
      cases b with
      | false =>
        simp only [Bool.false_eq_true, if_false]
        refine wpAny_pure ⟨plainId_quiet F.plain_any_loop _, ih (s₁.setGen g gs') ⟨hg1, hl1, allBare_setGen hb1 hbare, gs', setGen_at hsz1, fun s'' eh eo hb => ?_⟩⟩
        exact h2 (by decide) s'' eh eo hb
      | true =>
        obtain ⟨H', o1, q1⟩ := h1 rfl
        simp only [if_true]
        exact wpAny_bind (wpAny_rule (wpAny_pure (hR _ _ ⟨.bl true, H', o1 _ rfl (allBare_setGen hb1 hbare) fun b o e => e, rfl, q1⟩)))
    · intro hsz
      obtain ⟨hb1, H', o1, q1⟩ := hp
      exact wpAny_bind (wpAny_rule (wpAny_pure (hR _ _ ⟨.bl false, H', o1 _ rfl (allBare_setGen hb1 rfl) hk, rfl, q1⟩)))
end
end Gx
set_option Elab.async false
set_option linter.all false
set_option maxRecDepth 100000
set_option maxHeartbeats 4000000
namespace Gx
open PySem PySem.Spec PyProof.Rows L2 GxR GenW
/-- what a generator expression's reading asks, its iterator at hand: P the running def's table -/
def gTurns (stop : Bool) (P : Addr) (gt : TG) (te : TE) (vs : List Nat) (σ : L2.St) (Q : VK) (J : It) (H1 : Hp) : Prop := TabG H1 P ∧ ∀ H2, Tabbed P H1 H2 → ∃ W : Nat → Nat → Hp → Prop, (∃ m, W 0 m H2) ∧
  ∀ i m H, W i m H → (J.stop i H ∧ Q (.bl (!stop)) H) ∨ (J.go i H ∧ ∀ x H', J.yld i H x H' → gt x (wipe σ vs) H' fun σ2 H2 => wipe σ2 vs = wipe σ vs ∧ te σ2 H2 fun y H3 => ∃ b, y = .bl b ∧ if b = stop then Q (.bl stop) H3 else ∃ m', m' < m ∧ W (i + 1) m' H3)
section
variable {X : Cx} {pins : List (Addr × Obj)} {σ : L2.St} {H : Hp} {s : Shared}
theorem gen_make {c P : Addr} {elt tg iter : Expr} {scope : Scope} {own : List (Str × Nat)} {gpos : Pos} {wi : TI} {gt : TG} {te : TE} {stop : Bool} {Q : VK} {Q' : Value → Shared → Prop} {k : Nat}
    (hc : X.calm = true) (hN : X.N.Nodup) (hr : Room (k + 1) X.A) (TB : TabB X.base X.mg c P) (hcode : X.env.code = .ref c) (ok : BlkOk X.N X.env.scope scope own) (hcell : ∀ y ∈ scope.names, y.2 ≠ .cell) (hdot : scope.names.lookup (".0" : Str) = some NameKind.local) (hco : scope.isCoroutine = false)
    (hi : PI X tg iter wi) (hg : ∀ A s H C code fp pn, PG (gcx X A s H (gEnv X scope C code) fp pn) tg gt) (he : ∀ A s H C code fp pn, Room k A → PE (gcx X A s H (gEnv X scope C code) fp pn) elt te)
    (hs : ∀ v, genFold iter X.env v = pure v) (I : Inv X pins σ H s) (h : wi σ H (gTurns stop P gt te (own.map (·.2)) σ Q))
    (hQ : ∀ a g n s5, GSt X pins σ X.A.in1.in1 stop Q a g n s5 → Q' (.ref a) s5) :
    wpAny (model X.prog X.w) X.A (eval (.GeneratorExp elt [⟨tg, iter, [], 0⟩] scope gpos) X.env) Q' X.xe s := by
  have hfree : ∀ y ∈ scope.names, y.2 = .free → ∃ c, X.env.cells.lookup y.1 = some c := fun y hy e => by
    rcases ok.free y hy e with k | k
    · exact I.ok.has _ (.inl k)
    · exact I.ok.has _ (.inr k)
  refine wpAny_GeneratorExp_make hco (closure_ok hfree) hcell hdot ok.kind hr.depth (thn (hi.run pins s σ H _ I h) fun xv s1 hx => thn hx fun itv s2 h2 => ?_) hs
  obtain ⟨it, fp, tn, J, H2, e, I2, T, st2, f2, ⟨ps, hP, htr⟩, q⟩ := h2
  subst e
  have hPs : s2.heap.get? P = some { cls := .none, data := .fields ps } := I2.hok P _ hP
  have hPlt : P < s2.heap.objs.size := Heap.lt_size hPs
  have cd : PySem.W.CodeHd s2.heap c P := TB.code.keeps fun b u e => I2.bk b u e
  have nP : ∀ b ∈ fp, b ≠ P := fun b hb z => by
    have := (f2 b hb).1
    rw [z, hP] at this
    cases this
  have sz : ∀ b ∈ fp, b < s2.heap.objs.size := fun b hb => by
    obtain ⟨o, e, _⟩ := T.obj _ _ st2 b hb
    exact Heap.lt_size e
  have cont : ∀ (code : Value) (h3 : Heap) (tk : Nat) (ps' : Array Value), Heap.ExtBut P s2.heap h3 → s2.heap.objs.size ≤ h3.objs.size → h3.get? P = some { cls := .none, data := .fields ps' } → (∃ more, ps' = ps ++ more) → TriplesOk ps'.toList →
      wpAny (model X.prog X.w) X.A (builtinsFor X.env.globals X.env.builtins) (fun bi s₄ => ∀ h', h'.Ns s₄.heap.objs.size (fun y => if y = ".0" then some (.ref it) else none) → Heap.SameBut s₄.heap.objs.size (s₄.heap.push { cls := .type "frame", data := .dict #[] }) h' →
          Q' (.ref h'.objs.size) { s₄ with
            gens := s₄.gens.push (.fresh (.compStart (.GeneratorExp elt [⟨tg, iter, [], 0⟩] scope gpos) 0 (.ref it) .none (genEnv scope (cloFrom X.env.cells scope.names []) s₄.heap.objs.size code bi X.env))),
            toks := s₄.toks + 1 + 1 + 1,
            heap := h'.push { cls := .type "generator", data := .fields #[.int s₄.gens.size 0, .str "<genexpr>" (s₄.toks + 1), .str (X.env.qual ++ "<genexpr>") (s₄.toks + 1 + 1)] } }) X.xe { s2 with heap := h3, toks := tk } := by
    rintro code h3 tk ps' hx hsz hP3 ⟨more, rfl⟩ ht3
    obtain ⟨bm, ob, e1, e2, e3, e4, e5, e6, e7, e8⟩ := TB.bm
    have keep3 : ∀ b u, b ≠ P → s2.heap.get? b = some u → h3.get? b = some u := fun b u hb e => hx b u hb e
    have J4 : Inv X pins σ (upd H2 P (.tbl (ps ++ more))) { s2 with heap := h3, toks := tk } := inv_tab (g' := s2.gens) (d' := s2.drawn) I2 hP keep3 hP3 I2.bare
    refine wpAny_builtinsFor (m := X.mg) (by rw [I2.ok.glob]; exact (I2.mod.glob.keeps I2.bk).extBut hx TB.gP) e1 e2 (keep3 _ _ e4 (I2.bk _ _ e5)) e6 e7 e8 ?_
    intro h' hn' hs'
    have hsz' : h'.objs.size = h3.objs.size + 1 := by rw [hs'.1, Heap.size_push]
    have keep' : ∀ b o, h3.get? b = some o → h'.get? b = some o := fun b o e => hs'.extBut b o (Nat.ne_of_lt (Heap.lt_size e)) (Heap.get?_push_of_some _ e)
    generalize hgo : ({ cls := .type "generator", data := .fields #[.int s2.gens.size 0, .str "<genexpr>" (tk + 1), .str (X.env.qual ++ "<genexpr>") (tk + 1 + 1)] } : Obj) = go
    have keep5 : ∀ b o, h3.get? b = some o → (h'.push go).get? b = some o := fun b o e => Heap.get?_push_of_some _ (keep' b o e)
    have hat : (h'.push go).get? h'.objs.size = some go := Heap.get?_push_size _ (by rw [← hgo]; rfl)
    have hgen : ∀ hh : Heap, hh.get? h'.objs.size = some go → hh.IsGen h'.objs.size s2.gens.size := fun hh e => ⟨go, _, _, e, by rw [← hgo], by rw [← hgo], by rw [← hgo]⟩
    have hTab : Tabbed P H2 (upd H2 P (.tbl (ps ++ more))) := ⟨⟨ps ++ more, upd_same, ht3⟩, fun b hb => upd_ne hb⟩
    obtain ⟨W, ⟨m0, w0⟩, turn⟩ := q _ hTab
    have f4 : ∀ b ∈ fp, FpOk X pins (upd H2 P (.tbl (ps ++ more))) b ∧ b < h3.objs.size := fun b hb => ⟨⟨by rw [upd_ne (nP b hb)]; exact (f2 b hb).1, (f2 b hb).2⟩, Nat.lt_of_lt_of_le (sz b hb) hsz⟩
    have st5 : tn 0 (h'.push go) := T.keep _ _ _ st2 fun b hb o e => keep5 b o (keep3 b o (nP b hb) e)
    refine hQ h'.objs.size s2.gens.size (m0 + 1) _ ⟨hgen _ hat, J4.nolimit.keeps keep5, I2.bare.push rfl, _, Array.getElem?_push_size .., fun s'' eh eo hb => ⟨rfl, ?_⟩⟩
    have hB : X.A.in1.in1.handled = none := hr.hd
    have J5 := gen_start (code := code) (A := X.A.in1.in1.deeper (gEnv X scope h3.objs.size code)) (h5 := h'.push go) (tk := tk + 1 + 1 + 1) (gs := s2.gens.push (.fresh (.compStart (.GeneratorExp elt [⟨tg, iter, [], 0⟩] scope gpos) 0 (.ref it) .none (gEnv X scope h3.objs.size code)))) (a := h'.objs.size) (go := go) J4 ok hN hcell f4 hB
      (Around.frames_deeper (show X.A.in1.in1.frames = some X.stack from I2.ok.frames)) keep5 (hn'.push _) hat (show h3.objs.size < h'.objs.size by omega) (fun v z => by rw [← hgo] at z; cases z) (I2.bare.push rfl)
    have J6 : Inv _ [] _ _ s'' := J5.call' (ch := []) eo (Un.kept fun b o e => by rw [eh]; exact e) (J5.hok.kept fun b o e => by rw [eh]; exact e) hb (fun b z => absurd z (by simp))
    have hrB : Room k (X.A.in1.in1.deeper (gEnv X scope h3.objs.size code)) := ⟨hr.hd, by have := hr.dp; show X.A.depth + 1 + 3 * k + 5 < _; omega, by have := hr.un; show X.A.units + 1 + 1 + 3 + 16 * k + 200 < _; omega⟩
    have loop := gen_loop (iter := iter) (scope := scope) (pos := gpos) (B := X.A.in1.in1) (stop := stop) (Q := Q) (vs := own.map (·.2)) hc J4 f4 T hgen (show (gEnv X scope h3.objs.size code).scope.isCoroutine = false from hco) (show h3.objs.size ≤ h'.objs.size by omega) (hg _ _ _ _ _ _ _) (he _ _ _ _ _ _ _ hrB) turn (m0 + 1) 0 m0 s'' s'' _ (Nat.lt_succ_self _) J6 (by rw [eh]; exact st5) (fun b hb => (f4 b hb).1.1) w0
    show Seg _ X.A.in1.in1 _ _ _ s'' _ ((compStart (.GeneratorExp elt [⟨tg, iter, [], 0⟩] scope gpos) 0 (.ref it) .none (gEnv X scope h3.objs.size code)).onRaise (leaving (gEnv X scope h3.objs.size code))) [] s''
    unfold compStart
    rw [Sem.onRaise_eq_wrap]
    show Seg _ X.A.in1.in1 _ _ _ s'' _ ((ask >>= _).wrap _ _ _ _) [] s''
    refine seg_bind_wrap (wpAny_askSetting ?_)
    have stS : tn 0 s''.heap := by rw [eh]; exact st5
    split
    · exact seg_again rfl loop
    · first
        | exact seg_bind_wrap (wpAny_rule (seg_bind_wrap (wpAny_standAt (seg_bind_wrap (T.self _ 0 s'' _ _ stS (seg_again rfl loop))))))
        | (refine seg_bind_wrap (wpAny_rule ?_); show Seg _ X.A.in1.in1 _ _ _ s'' _ ((standAt iter.pos >>= _).wrap _ _ _ _) [] s''; exact seg_bind_wrap (wpAny_standAt (seg_bind_wrap (T.self _ 0 s'' _ _ stS (seg_again rfl loop)))))
  refine ⟨I2.nolimit, ?_⟩
  cases hf : codeAmong gpos ps.toList with
  | none =>
    refine wpAny_genexprCodeX hcode (cd.code hPs htr) (cd.tab hPs) hf fun c' h' tk hx hge hlt hco' _ htab' _ => ?_
    obtain ⟨o1, vs, f1, tf, fl, tg, inF, tx, tt, op, _, _, _, _, _, _, _, _, _, htr', _⟩ := hco'
    exact cont _ h' tk _ hx (Nat.le_trans hge (Nat.le_of_lt hlt)) htab'.2 ⟨_, rfl⟩ htr'
  | some cv =>
    refine wpAny_genexprCode_hit hcode (cd.code hPs htr) hf ?_
    exact cont cv s2.heap s2.toks ps (Heap.ExtBut.refl _ _) (Nat.le_refl _) hPs ⟨#[], by simp⟩ htr
end
end Gx
set_option Elab.async false
set_option linter.all false
set_option maxRecDepth 100000
set_option maxHeartbeats 4000000
namespace Gx
open PySem PySem.Spec PyProof.Rows L2 GxR GenW
/-- all(e for x in xs): the reading -/
def tGx (stop : Bool) (P : Addr) (wi : TI) (gt : TG) (te : TE) (vs : List Nat) : TE := fun σ H Q => wi σ H (gTurns stop P gt te vs σ Q)
section
variable {X : Cx}
theorem pe_allG {c P : Addr} {elt tg iter : Expr} {scope : Scope} {own : List (Str × Nat)} {gpos p pos : Pos} {wi : TI} {gt : TG} {te : TE} {k : Nat}
    (hc : X.calm = true) (hN : X.N.Nodup) (hr : Room (k + 1) X.A) (hg0 : Gl X "all") (hm : X.mg "all" = none) (TB : TabB X.base X.mg c P) (hcode : X.env.code = .ref c) (hi : PI X tg iter wi) (ok : BlkOk X.N X.env.scope scope own) (hcell : ∀ y ∈ scope.names, y.2 ≠ .cell)
    (hdot : scope.names.lookup (".0" : Str) = some NameKind.local) (hg : ∀ A s H C code fp pn, PG (gcx X A s H (gEnv X scope C code) fp pn) tg gt) (he : ∀ A s H C code fp pn, Room k A → PE (gcx X A s H (gEnv X scope C code) fp pn) elt te)
    (hs : ∀ v, genFold iter X.env v = pure v := by intro _; rfl) (hco : scope.isCoroutine = false := by rfl)
    (he0 : starEach [.GeneratorExp elt [⟨tg, iter, [], 0⟩] scope gpos] X.env = (false, eval (.GeneratorExp elt [⟨tg, iter, [], 0⟩] scope gpos) X.env) :: starEach [] X.env := by rfl) :
    PE X (.Call (.Name "all" p) [.GeneratorExp elt [⟨tg, iter, [], 0⟩] scope gpos] [] pos) (tGx false P wi gt te (own.map (·.2))) := by
  refine ⟨fun pins s σ H Q I h => ?_⟩
  refine wpAny_Call_Name_kw (ld_blt I hg0 hm (show bootBuiltins "all" = some (.builtin "all") by decide +kernel) ?_)
  refine PyProof.Rows.callWith_builtin1 ?_ he0 (by rfl)
  rw [he0]
  show wpAny _ _ (spliced ((false, eval (.GeneratorExp elt [⟨tg, iter, [], 0⟩] scope gpos) X.env) :: backTo pos (starEach [] X.env))) _ _ s
  refine Calls.spliced_cons (gen_make (stop := false) (Q := Q) hc hN hr TB hcode ok hcell hdot hco hi hg he hs I h fun a g n s5 hG => ?_)
  refine Calls.spliced_nil ?_
  refine call_function_tree F.kind_all F.plain_all F.entry_all (F.args_all1 _) ?_
  unfold Builtin.«all»
  refine wpAny_bind (m := oneArg "all" _) (wpAny_pure ?_)
  obtain ⟨hg1, hl1, hb1, hrest⟩ := hG
  refine wpAny_bind ?_
  refine wpAny_pyIter_gen hg1 ?_
  exact wpAny_pure ⟨plainId_quiet F.plain_all_loop _, all_loop hr.hd hr.depth (fun u s' z => z) n s5 ⟨hg1, hl1, hb1, hrest⟩⟩
theorem pe_anyG {c P : Addr} {elt tg iter : Expr} {scope : Scope} {own : List (Str × Nat)} {gpos p pos : Pos} {wi : TI} {gt : TG} {te : TE} {k : Nat}
    (hc : X.calm = true) (hN : X.N.Nodup) (hr : Room (k + 1) X.A) (hg0 : Gl X "any") (hm : X.mg "any" = none) (TB : TabB X.base X.mg c P) (hcode : X.env.code = .ref c) (hi : PI X tg iter wi) (ok : BlkOk X.N X.env.scope scope own) (hcell : ∀ y ∈ scope.names, y.2 ≠ .cell)
    (hdot : scope.names.lookup (".0" : Str) = some NameKind.local) (hg : ∀ A s H C code fp pn, PG (gcx X A s H (gEnv X scope C code) fp pn) tg gt) (he : ∀ A s H C code fp pn, Room k A → PE (gcx X A s H (gEnv X scope C code) fp pn) elt te)
    (hs : ∀ v, genFold iter X.env v = pure v := by intro _; rfl) (hco : scope.isCoroutine = false := by rfl)
    (he0 : starEach [.GeneratorExp elt [⟨tg, iter, [], 0⟩] scope gpos] X.env = (false, eval (.GeneratorExp elt [⟨tg, iter, [], 0⟩] scope gpos) X.env) :: starEach [] X.env := by rfl) :
    PE X (.Call (.Name "any" p) [.GeneratorExp elt [⟨tg, iter, [], 0⟩] scope gpos] [] pos) (tGx true P wi gt te (own.map (·.2))) := by
  refine ⟨fun pins s σ H Q I h => ?_⟩
  refine wpAny_Call_Name_kw (ld_blt I hg0 hm (show bootBuiltins "any" = some (.builtin "any") by decide +kernel) ?_)
  refine PyProof.Rows.callWith_builtin1 ?_ he0 (by rfl)
  rw [he0]
  show wpAny _ _ (spliced ((false, eval (.GeneratorExp elt [⟨tg, iter, [], 0⟩] scope gpos) X.env) :: backTo pos (starEach [] X.env))) _ _ s
  refine Calls.spliced_cons (gen_make (stop := true) (Q := Q) hc hN hr TB hcode ok hcell hdot hco hi hg he hs I h fun a g n s5 hG => ?_)
  refine Calls.spliced_nil ?_
  refine call_function_tree F.kind_any F.plain_any F.entry_any (F.args_any1 _) ?_
  unfold Builtin.«any»
  refine wpAny_bind (m := oneArg "any" _) (wpAny_pure ?_)
  obtain ⟨hg1, hl1, hb1, hrest⟩ := hG
  refine wpAny_bind ?_
  refine wpAny_pyIter_gen hg1 ?_
  exact wpAny_pure ⟨plainId_quiet F.plain_any_loop _, any_loop hr.hd hr.depth (fun u s' z => z) n s5 ⟨hg1, hl1, hb1, hrest⟩⟩
end
end Gx
set_option Elab.async false
set_option linter.all false
set_option maxRecDepth 100000
set_option maxHeartbeats 4000000
namespace Gx
open PySem PySem.Spec PyProof.Rows L2 GxR Evl
/-! a def whose code object is known -/
structure FunC (K : PySem.W.Frag) (x qual : Str) (st : Stmt) (f : Addr) (fd : FuncData) (c : Addr) : Prop where
  fc : ∃ (oc : Value) (od : Option Addr) (kV doc pm : Value) (an : Option Addr) (ct : Value) (osl : Array (Option Value)), fd = PySem.W.fnOf x qual (defArgs st) (defBody st) (defScope st) .none kV doc pm an (.ref c) ct ∧ K.lookup f = some ⟨oc, od, .func fd, osl⟩ ∧ PySem.W.codeIn K (.ref c) qual = true
  kp : PySem.W.keepIn K (.ref f) = true
section
variable {P : Program} {w : World} {K : PySem.W.Frag} {mg : Str → Option Value} {base : Heap}
theorem FunC.okC {x qual : Str} {st : Stmt} {f c : Addr} {fd : FuncData} {N ps : List Str} {k : Nat} {sp : Sp} (F : FunC K x qual st f fd c) (S : FnScope N ps (defScope st)) (len : ∀ vs H Q E, sp vs H Q E → vs.length = ps.length)
    (body : ∀ (A : Around) (outer : List Env) (s : Shared) (H : Hp) (vs : List V) (Q : VK) (E : XK), Room k (A.deeper (envOfC qual (defScope st) s.heap.objs.size f (.ref c))) → sp vs H Q E →
      ∃ t, PSs (cxOf CX0 P w K mg base N qual (defScope st) f (.ref c) A outer s H E).nox (defBody st) t ∧ t { nx := fun _ H' => Q .non H', rt := Q } (start N vs) H) : FnOk P w K mg base CX0 (k + 1) f fd ps sp := by
  obtain ⟨_, _, _, _, _, _, _, _, rfl, h1, h2⟩ := F.fc
  refine fn_of h1 h2 S len fun A outer s H vs Q E hr h => ?_
  obtain ⟨t, a, b⟩ := body A outer s H vs Q E hr h
  exact ⟨t, a.nox, b⟩
theorem FunC.toFun {x qual : Str} {st : Stmt} {f c : Addr} {fd : FuncData} (F : FunC K x qual st f fd c) : Fun K x qual st f fd := by
  obtain ⟨oc, od, kV, doc, pm, an, ct, osl, e, h1, h2⟩ := F.fc
  exact ⟨⟨oc, od, kV, doc, pm, an, _, ct, osl, e, h1, h2⟩, F.kp⟩
end
/-! heaps in which tables grow -/
/-- all that was tracked is as it was, but tables of code objects may have grown -/
structure ET (H H' : Hp) : Prop where
  obj : ∀ b o, H b = some o → (∃ ps, o = .tbl ps) ∨ H' b = some o
  tab : ∀ P, TabG H P → TabG H' P
theorem ET.refl (H : Hp) : ET H H := ⟨fun _ _ h => .inr h, fun _ h => h⟩
theorem ET.trans {H H1 H2 : Hp} (a : ET H H1) (b : ET H1 H2) : ET H H2 := ⟨fun c o h => (a.obj c o h).elim .inl fun z => b.obj c o z, fun P h => b.tab P (a.tab P h)⟩
theorem ET.of {H H' : Hp} (e : Ex H H') : ET H H' := ⟨fun b o h => .inr (e b o h), fun P ⟨ps, h, t⟩ => ⟨ps, e _ _ h, t⟩⟩
theorem ET.grown {P : Addr} {H H' : Hp} (h : TabG H P) (t : Tabbed P H H') : ET H H' := by
  refine ⟨fun b o e => ?_, fun R hR => ?_⟩
  · by_cases hb : b = P
    · obtain ⟨ps, hp, _⟩ := h
      rw [hb, hp] at e
      exact .inl ⟨ps, (Option.some.inj e).symm⟩
    · exact .inr (by rw [t.2 b hb]; exact e)
  · by_cases hb : R = P
    · rw [hb]
      exact t.1
    · obtain ⟨ps, hp, z⟩ := hR
      exact ⟨ps, by rw [t.2 R hb]; exact hp, z⟩
theorem ET.lst {H H' : Hp} (e : ET H H') {a : Addr} {xs : List V} (h : H a = some (.lst xs)) : H' a = some (.lst xs) := (e.obj _ _ h).elim (fun ⟨_, z⟩ => by cases z) id
theorem ET.tup {H H' : Hp} (e : ET H H') {a : Addr} {xs : List V} (h : H a = some (.tup xs)) : H' a = some (.tup xs) := (e.obj _ _ h).elim (fun ⟨_, z⟩ => by cases z) id
/-! the readings of all(..), any(..) by the walked thing -/
section
variable {K : PySem.W.Frag} {P a : Addr} {gt : TG} {te : TE} {vs : List Nat} {σ : L2.St} {Q : VK} {H1 : Hp} {stop : Bool}
theorem gx_by {J : It} {n : Nat} (hT : TabG H1 P) (Pv : Nat → Hp → Prop) (h0 : ∀ H2, Tabbed P H1 H2 → Pv 0 H2) (hstop : ∀ H, Pv n H → J.stop n H) (hgo : ∀ i H, i < n → Pv i H → J.go i H)
    (hs : ∀ i x H H' (N : Hp → Prop), (∀ H3, Pv (i + 1) H3 → N H3) → i < n → Pv i H → J.yld i H x H' → gt x (wipe σ vs) H' fun σ2 H2 => wipe σ2 vs = wipe σ vs ∧ te σ2 H2 fun y H3 => ∃ b, y = .bl b ∧ if b = stop then Q (.bl stop) H3 else N H3)
    (hd : ∀ H, Pv n H → Q (.bl (!stop)) H) : gTurns stop P gt te vs σ Q J H1 := by
  refine ⟨hT, fun H2 t => ⟨fun i m H => i + m = n ∧ Pv i H, ⟨n, Nat.zero_add _, h0 H2 t⟩, ?_⟩⟩
  rintro i m H ⟨e, p⟩
  cases m with
  | zero =>
    have e' : i = n := by omega
    subst e'
    exact .inl ⟨hstop H p, hd H p⟩
  | succ m => exact .inr ⟨hgo i H (by omega) p, fun x H' y => hs i x H H' _ (fun H3 q => ⟨m, Nat.lt_succ_self _, by omega, q⟩) (by omega) p y⟩
theorem gx_tup {xs : List V} (hT : TabG H1 P) (Pv : Nat → Hp → Prop) (h0 : ∀ H2, Tabbed P H1 H2 → Pv 0 H2) (hl : ∀ i H, Pv i H → SqT K H a xs)
    (hs : ∀ i x H (N : Hp → Prop), (∀ H3, Pv (i + 1) H3 → N H3) → xs[i]? = some x → Pv i H → gt x (wipe σ vs) H fun σ2 H2 => wipe σ2 vs = wipe σ vs ∧ te σ2 H2 fun y H3 => ∃ b, y = .bl b ∧ if b = stop then Q (.bl stop) H3 else N H3)
    (hd : ∀ H, Pv xs.length H → Q (.bl (!stop)) H) : gTurns stop P gt te vs σ Q (Itt K a) H1 :=
  gx_by hT Pv h0 (fun H p => ⟨xs, hl _ H p, Nat.le_refl _⟩) (fun i H hi p => ⟨xs, xs[i], hl _ H p, List.getElem?_eq_getElem hi⟩) (fun i x H H' N hN hi p y => by
    obtain ⟨rfl, f⟩ := y
    exact hs i x _ N hN (f xs (hl _ _ p)) p) hd
theorem gx_list {xs : List V} (hT : TabG H1 P) (Pv : Nat → Hp → Prop) (h0 : ∀ H2, Tabbed P H1 H2 → Pv 0 H2) (hl : ∀ i H, Pv i H → SqL K H a xs)
    (hs : ∀ i x H (N : Hp → Prop), (∀ H3, Pv (i + 1) H3 → N H3) → xs[i]? = some x → Pv i H → gt x (wipe σ vs) H fun σ2 H2 => wipe σ2 vs = wipe σ vs ∧ te σ2 H2 fun y H3 => ∃ b, y = .bl b ∧ if b = stop then Q (.bl stop) H3 else N H3)
    (hd : ∀ H, Pv xs.length H → Q (.bl (!stop)) H) : gTurns stop P gt te vs σ Q (Itl K a) H1 :=
  gx_by hT Pv h0 (fun H p => ⟨xs, hl _ H p, Nat.le_refl _⟩) (fun i H hi p => ⟨xs, xs[i], hl _ H p, List.getElem?_eq_getElem hi⟩) (fun i x H H' N hN hi p y => by
    obtain ⟨rfl, f⟩ := y
    exact hs i x _ N hN (f xs (hl _ _ p)) p) hd
theorem gx_str {z : Str} (hT : TabG H1 P) (Pv : Nat → Hp → Prop) (h0 : ∀ H2, Tabbed P H1 H2 → Pv 0 H2)
    (hs : ∀ i c H (N : Hp → Prop), (∀ H3, Pv (i + 1) H3 → N H3) → z.cps.toList[i]? = some c → Pv i H → gt (.str ⟨#[c]⟩) (wipe σ vs) H fun σ2 H2 => wipe σ2 vs = wipe σ vs ∧ te σ2 H2 fun y H3 => ∃ b, y = .bl b ∧ if b = stop then Q (.bl stop) H3 else N H3)
    (hd : ∀ H, Pv z.cps.size H → Q (.bl (!stop)) H) : gTurns stop P gt te vs σ Q (Its z) H1 :=
  gx_by hT Pv h0 (fun H p => Nat.le_refl _) (fun i H hi p => hi) (fun i x H H' N hN hi p y => by
    obtain ⟨rfl, c, hc, rfl⟩ := y
    exact hs i c _ N hN (by rw [Array.getElem?_toList]; exact hc) p) hd
theorem gx_range {lo : Int} {n : Nat} (hT : TabG H1 P) (Pv : Nat → Hp → Prop) (h0 : ∀ H2, Tabbed P H1 H2 → Pv 0 H2)
    (hs : ∀ i H (N : Hp → Prop), (∀ H3, Pv (i + 1) H3 → N H3) → i < n → Pv i H → gt (.int (lo + (i : Int))) (wipe σ vs) H fun σ2 H2 => wipe σ2 vs = wipe σ vs ∧ te σ2 H2 fun y H3 => ∃ b, y = .bl b ∧ if b = stop then Q (.bl stop) H3 else N H3)
    (hd : ∀ H, Pv n H → Q (.bl (!stop)) H) : gTurns stop P gt te vs σ Q (Itr lo n) H1 :=
  gx_by hT Pv h0 (fun H p => Nat.le_refl _) (fun i H hi p => hi) (fun i x H H' N hN hi p y => by
    obtain ⟨rfl, rfl⟩ := y
    exact hs i _ N hN hi p) hd
end
end Gx
set_option Elab.async false
set_option linter.all false
set_option maxRecDepth 100000
set_option maxHeartbeats 4000000
namespace Eh
open PySem PySem.Spec PyProof.Rows L2 Evl Ms GxR Gx
/-- over zip of two lists of one length -/
theorem gx_zip {K : PySem.W.Frag} {P a b : Addr} {gt : TG} {te : TE} {vs : List Nat} {σ : L2.St} {Q : VK} {H1 : Hp} {stop : Bool} {xs ys : List V} (hT : TabG H1 P) (Pv : Nat → Hp → Prop) (h0 : ∀ H2, Tabbed P H1 H2 → Pv 0 H2) (hl : ∀ i H, Pv i H → SqL K H a xs ∧ SqL K H b ys) (e : xs.length = ys.length)
    (hs : ∀ i x y T H (N : Hp → Prop), (∀ H3, Pv (i + 1) H3 → N H3) → xs[i]? = some x → ys[i]? = some y → Pv i H → H T = none → gt (.ref T) (wipe σ vs) (upd H T (.tup [x, y])) fun σ2 H2 => wipe σ2 vs = wipe σ vs ∧ te σ2 H2 fun y H3 => ∃ b, y = .bl b ∧ if b = stop then Q (.bl stop) H3 else N H3)
    (hd : ∀ H, Pv xs.length H → Q (.bl (!stop)) H) : gTurns stop P gt te vs σ Q (Itz K a b) H1 :=
  gx_by hT Pv h0 (fun H p => ⟨xs, ys, (hl _ H p).1, (hl _ H p).2, .inl (Nat.le_refl _)⟩) (fun i H hi p => ⟨xs, ys, xs[i], ys[i], (hl _ H p).1, (hl _ H p).2, List.getElem?_eq_getElem hi, List.getElem?_eq_getElem (by omega)⟩) (fun i x H H' N hN hi p y => by
    obtain ⟨T, x', y', rfl, hT', rfl, f1, f2⟩ := y
    exact hs i x' y' T H N hN (f1 xs (hl _ _ p).1) (f2 ys (hl _ _ p).2) p hT') hd
def ltrK (k : List Key) : Str := match k with
  | [_, _, .inr b, _] => b
  | [_, _, .inr a, _, _] => a
  | [_, _, .inl _, .inr c, _] => c
  | _ => ""
theorem ltrK_key (v : Mv) : ltrK v.key = v.ltr := by cases v <;> rfl
/-- the moves are the machine's, and spell the word -/
def byB (M : List (List Key)) (W : List Str) (ks : List (List Key)) : Bool := decide (ks.length = W.length) && (ks.zip W).all fun p => inK p.1 M && decide (ltrK p.1 = p.2)
theorem MsAt.et {H H' : Hp} {mv : List (Addr × List Key)} (h : MsAt H mv) (e : ET H H') : MsAt H' mv := fun x hx => e.tup (h x hx)
theorem SheetAt.et {H H' : Hp} {s : Addr} {os ls qs : List Str} (h : SheetAt H s os ls qs) (e : ET H H') : SheetAt H' s os ls qs := by
  obtain ⟨a, b, c, h0, h1, h2, h3⟩ := h
  exact ⟨a, b, c, e.tup h0, e.tup h1, e.tup h2, e.tup h3⟩
theorem MachAt.et {H H' : Hp} {t s : Addr} {os ls qs : List Str} {n m : Nat} {F L : List Nat} {mv : List (Addr × List Key)} (h : MachAt os ls qs H t s n m F L mv) (e : ET H H') : MachAt os ls qs H' t s n m F L mv := by
  obtain ⟨f, l, g, h0, h1, h2, h3⟩ := h.ex
  exact ⟨⟨f, l, g, e.tup h0, e.tup h1, e.tup h2, e.tup h3⟩, h.sh.et e, fun x hx => e.tup (h.at_ x hx)⟩
theorem inK_snoc (k j : List Key) (ks : List (List Key)) : inK j (ks ++ [k]) = (inK j ks || decide (k = j)) := by
  unfold inK
  rw [List.any_append]
  congr 1
  exact Bool.or_false _
theorem ite_some {α : Type} {c : Prop} [Decidable c] {a : α} {o : Option α} : (if c then some a else o).isSome = (o.isSome || decide c) := by
  by_cases h : c
  · rw [if_pos h, decide_eq_true h, Bool.or_true]; rfl
  · rw [if_neg h, decide_eq_false h, Bool.or_false]
theorem all_snoc {α : Type} {f : α → Bool} {xs : List α} {i : Nat} {x : α} (h : (xs.take i).all f = true) (hx : xs[i]? = some x) (hf : f x = true) : (xs.take (i + 1)).all f = true := by
  rw [List.take_succ, hx, List.all_append, h]
  show (true && (f x && true)) = true
  rw [hf]
  rfl
theorem all_fail {α : Type} {f : α → Bool} {xs : List α} {i : Nat} {x : α} (hx : xs[i]? = some x) (hf : f x = false) : xs.all f = false := by
  rw [List.all_eq_false]
  exact ⟨x, List.mem_of_getElem? hx, by rw [hf]; decide⟩
theorem ifN {A B : Prop} (h : B) : if true = false then A else B := by
  rw [if_neg (fun z => nomatch z)]; exact h
theorem ifY {A B : Prop} (h : A) : if false = false then A else B := by
  rw [if_pos rfl]; exact h
theorem ne_of_none {H : Hp} {b N : Addr} {o : HO} (hb : H b = some o) (hN : H N = none) : b ≠ N := fun z => by rw [z, hN] at hb; cases hb
theorem room1 {k : Nat} {A : Around} (r : Room k A) : A.units + 1 < cLine := by have := r.un; omega
abbrev nAreMovesBy : List Str := ["machine", "word", "moves", "known", "move", "letter"]
theorem scAreMovesBy : FnScope nAreMovesBy ["machine", "word", "moves"] (defScope sAreMovesBy) := ⟨rfl, rfl, rfl, by decide +kernel, rfl, by decide +kernel, by decide +kernel⟩
section
variable {P : Program} {w : World} {K : PySem.W.Frag} {mg : Str → Option Value} {base : Heap}
def spMovesBy (PM : Addr) : Sp := fun vs H Q _ => ∃ (t s wd l : Addr) (os ls qs : List Str) (n m : Nat) (F L : List Nat) (mv ks : List (Addr × List Key)) (W : List Str), vs = [.ref t, .ref wd, .ref l] ∧ MachAt os ls qs H t s n m F L mv ∧ MachOk os ls qs n m F L mv ∧ H wd = some (.lst (W.map V.str)) ∧ H l = some (.lst (refs ks)) ∧ MsAt H ks ∧ TabG H PM ∧ ∀ H', ET H H' → Q (.bl (byB (keys mv) W (keys ks))) H'
theorem ok_movesBy {f c PM fLO : Addr} {fd dLO : FuncData} {k : Nat} (F : FunC K "are_moves_by" "are_moves_by" sAreMovesBy f fd c) (TB : TabB base mg c PM)
    (FLO : Fun K "letter_of" "letter_of" sLetterOf fLO dLO) (GLO : FnOk P w K mg base CX0 k fLO dLO ["move"] spLetterOf) (bLO : Binds K dLO ["move"] []) (gLO : mg "letter_of" = some (.ref fLO))
    (ml : mg "len" = none) (ma : mg "all" = none) (mz : mg "zip" = none) : FnOk P w K mg base CX0 (k + 2) f fd ["machine", "word", "moves"] (spMovesBy PM) := by
  have nd := scAreMovesBy.nd
  refine F.okC scAreMovesBy (fun vs H Q E h => ?_) (fun A outer s H vs Q E hr h => ?_)
  · obtain ⟨t, s, wd, l, os, ls, qs, n, m, F, L, mv, ks, W, rfl, _⟩ := h
    rfl
  · obtain ⟨t, s, wd, l, os, ls, qs, n, m, F, L, mv, ks, W, rfl, hM, hO, hW, hl, hks, tP, q⟩ := h
    refine ⟨_, pss_cons (ps_if (pt_cmpR op_ne (pe_callB call_len_seq (by rfl) ml PySem.boot_len (pa_cons (pv 2) pa_nil)) (pe_callB call_len_seq (by rfl) ml PySem.boot_len (pa_cons (pv 1) pa_nil)) (nomark _)) (pss_one (ps_ret pe_bl)) pss_nil)
      (pss_cons (ps_set (i := 3) nd rfl (.inr rfl) (Dct.pe_dcT (own := [("move", 4)]) (g := gName 4) (tt := tYes) (tk := tVar 4) (tv := tC (.bl true)) rfl (room1 hr) nd (pi_tup (pe_ix ix_tup (pv 0) pe_int (fun _ _ => rfl))) (blkOk_by (own := [("move", 4)]) (N := nAreMovesBy) (sc := defScope sAreMovesBy) (by decide +kernel)) (fun _ _ _ _ _ => pg_name (i := 4) nd rfl (.inl rfl)) (fun _ _ _ _ _ => pts_nil) (fun _ _ _ _ _ => pv 4) (fun _ _ _ _ _ => pe_bl)))
      (pss_one (ps_ret (pe_allG (own := [("move", 4), ("letter", 5)]) (gt := gTup K 2 (gCons (gName 4) (gCons (gName 5) gNil))) (te := tAndV (tDIn (tVar 4) (tVar 3)) (tOp rEq (tCall spLetterOf [] E0 (tCons (tVar 4) tNil)) (tVar 5))) rfl nd hr (by rfl) ma TB rfl (pi_zip (by rfl) mz (pa_cons (pv 2) (pa_cons (pv 1) pa_nil))) (blkOk_by (own := [("move", 4), ("letter", 5)]) (N := nAreMovesBy) (sc := defScope sAreMovesBy) (by decide +kernel)) (by decide +kernel) rfl (fun _ _ _ _ _ _ _ => pg_tup rfl (pgs_cons (pg_name (i := 4) nd rfl (.inl rfl)) (pgs_cons (pg_name (i := 5) nd rfl (.inl rfl)) pgs_nil)))
        (fun _ _ _ _ _ _ _ hr2 => pe_and (pe_cmp (pc_din (room1 hr2) (pv 4) (pv 3)) rfl) (pe_one (pe_cmpR op_eq (pe_call GLO hr2 (by rfl) gLO FLO.kp bLO .nil pass0 (pa_cons (pv 4) pa_nil)) (pv 5) (nomark _)))))))), ?_⟩
    obtain ⟨f0, l0, g0, e0, e1, e2, e3⟩ := hM.ex
    refine ⟨_, rfl, _, _, rfl, .inl (sq_of hl), _, rfl, _, _, rfl, .inl (sq_of hW), rfl, _, rfl, ?_⟩
    rw [List.length_map, List.length_map]
    have eB : byB (keys mv) W (keys ks) = (decide (ks.length = W.length) && ((keys ks).zip W).all fun p => inK p.1 (keys mv) && decide (ltrK p.1 = p.2)) := by
      unfold byB
      rw [List.length_map]
    rw [eB] at q
    by_cases hlen : ks.length = W.length
    · rw [decide_eq_true hlen] at q
      rw [hlen, decide_eq_true rfl]
      refine iteF ?_
      refine ⟨_, rfl, t, _, _, _, rfl, rfl, st_of e0, rfl, g0, rfl, ⟨_, st_of e3⟩, fun N nN => ?_⟩
      refine Dct.dcT_tup (K := K) (xs := refs mv) (fun i H' => Ex H H' ∧ ∃ kvs, H' N = some (.dT kvs) ∧ kvs.length ≤ i ∧ ∀ k, (valV kvs k).isSome = inK k ((keys mv).take i)) ⟨Ex.new nN, [], upd_same, Nat.zero_le _, fun k => rfl⟩ (fun i H' _ h => st_of (h.1 _ _ e3)) (fun x => rfl) ?_ ?_
      · rintro i x H' hx ⟨eH, kvs, hN, hkl, hkv⟩
        rw [List.getElem?_map] at hx
        obtain ⟨z, hz, rfl⟩ := Option.map_eq_some_iff.mp hx
        have hmz := List.mem_of_getElem? hz
        have hil : i < mv.length := (List.getElem?_eq_some_iff.mp hz).1
        have h600 := hO.ml
        refine ⟨_, rfl, kvs, z.2, z.1, rfl, eH _ _ (hM.at_ z hmz), hN, sz_lt (by omega), ?_, _, upd_same, ?_, fun k => ?_⟩
        · exact fun b o hb => by rw [upd_ne (ne_of_none hb nN)]; exact eH b o hb
        · have := length_putK kvs z.2 (.bl true)
          omega
        · rw [valV_put, ite_some, hkv k, List.take_succ, show (keys mv)[i]? = some z.2 by rw [List.getElem?_map, hz]; rfl]
          show _ = inK k ((keys mv).take i ++ [z.2])
          rw [inK_snoc]
          congr 1
          exact decide_eq_decide.mpr eq_comm
      · rintro H2 ⟨eH, kvs, hN, _, hkv⟩
        rw [show (refs mv).length = (keys mv).length by rw [List.length_map, List.length_map], List.take_length] at hkv
        refine ⟨_, rfl, _, rfl, l, wd, _, _, rfl, sq_of (eH _ _ hl), sq_of (eH _ _ hW), ?_⟩
        have lz : ((keys ks).zip W).length = (refs ks).length := by rw [List.length_zip, List.length_map, List.length_map]; omega
        refine gx_zip (K := K) (xs := refs ks) (ys := W.map V.str) (ET.of eH |>.tab _ tP) (fun i H' => ET H2 H' ∧ (((keys ks).zip W).take i).all (fun p => inK p.1 (keys mv) && decide (ltrK p.1 = p.2)) = true) (fun H3 t => ⟨ET.grown (ET.of eH |>.tab _ tP) t, rfl⟩) (fun i H' h => ⟨sq_of (h.1.lst (eH _ _ hl)), sq_of (h.1.lst (eH _ _ hW))⟩) (by rw [List.length_map, List.length_map]; exact hlen) ?_ ?_
        · rintro i x y T H' N2 hN2 hx hy ⟨eT, hall⟩ nT
          rw [List.getElem?_map] at hx hy
          obtain ⟨z, hz, rfl⟩ := Option.map_eq_some_iff.mp hx
          obtain ⟨u, hu, rfl⟩ := Option.map_eq_some_iff.mp hy
          have hmz := List.mem_of_getElem? hz
          have hzip : ((keys ks).zip W)[i]? = some (z.2, u) := by
            rw [List.getElem?_zip_eq_some]
            exact ⟨by rw [List.getElem?_map, hz]; rfl, hu⟩
          have e5 := Ex.new (o := .tup [V.ref z.1, .str u]) nT
          have eA : ET H2 (upd H' T (.tup [V.ref z.1, .str u])) := eT.trans (ET.of e5)
          have hz5 : upd H' T (.tup [V.ref z.1, .str u]) z.1 = some (.tup (z.2.map kV)) := eA.tup (eH _ _ (hks z hmz))
          have hN5 : upd H' T (.tup [V.ref z.1, .str u]) N = some (.dT kvs) := (eA.obj _ _ hN).elim (fun ⟨_, q⟩ => by cases q) id
          refine ⟨T, _, rfl, st_of upd_same, rfl, _, _, rfl, _, _, rfl, rfl, rfl, _, rfl, _, rfl, N, _, rfl, DGet.t hN5 hz5, _, rfl, ?_⟩
          rw [hkv z.2]
          cases hin : inK z.2 (keys mv) with
          | false =>
            refine iteF ⟨_, rfl, ifY ?_⟩
            have := q _ ((ET.of eH).trans eA)
            rw [all_fail hzip (by show (inK z.2 (keys mv) && _) = false; rw [hin]; rfl)] at this
            exact this
          | true =>
            obtain ⟨v, hv⟩ : ∃ v : Mv, z.2 = v.key := by
              obtain ⟨y, hy, e⟩ := List.mem_map.mp (inK_iff.mp hin)
              obtain ⟨v, hv, _⟩ := Eh.MvK.mv (hO.mvk y hy)
              exact ⟨v, e ▸ hv⟩
            refine iteT ⟨_, rfl, z.1, v, rfl, hv ▸ hz5, _, rfl, rfl, _, rfl, ?_⟩
            have ed : decide (V.str v.ltr = V.str u) = decide (ltrK z.2 = u) := by
              rw [hv, ltrK_key]
              exact decide_eq_decide.mpr ⟨fun h => V.str.inj h, fun h => by rw [h]⟩
            rw [ed]
            by_cases hlt : ltrK z.2 = u
            · rw [decide_eq_true hlt]
              refine ifN (hN2 _ ⟨eA, all_snoc hall hzip ?_⟩)
              show (inK z.2 (keys mv) && decide (ltrK z.2 = u)) = true
              rw [hin, decide_eq_true hlt]
              rfl
            · rw [decide_eq_false hlt]
              refine ifY ?_
              have := q _ ((ET.of eH).trans eA)
              rw [all_fail hzip (by show (inK z.2 (keys mv) && decide (ltrK z.2 = u)) = false; rw [hin, decide_eq_false hlt]; rfl)] at this
              exact this
        · rintro H' ⟨eT, hall⟩
          rw [← lz, List.take_length] at hall
          have := q H' ((ET.of eH).trans eT)
          rw [hall] at this
          exact this
    · rw [decide_eq_false hlen] at q
      rw [decide_eq_false (fun h => hlen (by have := V.int.inj h; omega))]
      exact iteT (q H (ET.refl H))
end
end Eh
set_option Elab.async false
set_option linter.all false
set_option maxRecDepth 100000
set_option maxHeartbeats 4000000
namespace Eh
open PySem PySem.Spec PyProof.Rows L2 Evl Ms GxR Gx
def mkAt (vs : List Mv) (i : Nat) : Nat := (vs[i]?.map Mv.mark).getD 0
def keptAt (vs : List Mv) (t : List (Option Nat)) (i : Nat) : Bool := !(begB t i && !decide (mkAt vs i = mkAt vs ((tv t i).getD 0)))
def keptB (vs : List Mv) (t : List (Option Nat)) : Bool := (List.range vs.length).all (keptAt vs t)
/-- at a pair's begin an open move, at its end a close move -/
def Paird (vs : List Mv) (t : List (Option Nat)) : Prop := ∀ i j, tv t i = some j → i < j → (∃ p a k q, vs[i]? = some (.op p a k q)) ∧ ∃ p k c q, vs[j]? = some (.cl p k c q)
theorem range_snoc {f : Nat → Bool} {i : Nat} (h : (List.range i).all f = true) (hf : f i = true) : (List.range (i + 1)).all f = true := by
  rw [List.range_succ, List.all_append, h]
  show (true && (f i && true)) = true
  rw [hf]
  rfl
theorem range_fail {f : Nat → Bool} {i n : Nat} (hi : i < n) (hf : f i = false) : (List.range n).all f = false := by
  rw [List.all_eq_false]
  exact ⟨i, List.mem_range.mpr hi, by rw [hf]; decide⟩
abbrev nAreMarksKept : List Str := ["moves", "told", "place", "move"]
theorem scAreMarksKept : FnScope nAreMarksKept ["moves", "told"] (defScope sAreMarksKept) := ⟨rfl, rfl, rfl, by decide +kernel, rfl, by decide +kernel, by decide +kernel⟩
section
variable {P : Program} {w : World} {K : PySem.W.Frag} {mg : Str → Option Value} {base : Heap}
def spKept : Sp := fun vs H Q _ => ∃ (l a : Addr) (ks : List (Addr × List Key)) (ms : List Mv) (t : List (Option Nat)), vs = [.ref l, .ref a] ∧ H l = some (.lst (refs ks)) ∧ MsAt H ks ∧ keys ks = ms.map Mv.key ∧ H a = some (.lst (t.map oV)) ∧ t.length = ms.length ∧ Paird ms t ∧ ∀ H', Ex H H' → Q (.bl (keptB ms t)) H'
theorem ok_kept {f fIB : Addr} {fd dIB : FuncData} {k : Nat} (F : Fun K "are_marks_kept" "are_marks_kept" sAreMarksKept f fd) (FIB : Fun K "is_begin" "is_begin" sIsBegin fIB dIB) (GIB : FnOk P w K mg base CX0 (k + 1) fIB dIB ["told", "place"] (spBegin K)) (bIB : Binds K dIB ["told", "place"] []) (gIB : mg "is_begin" = some (.ref fIB)) (me : mg "enumerate" = none) : FnOk P w K mg base CX0 (k + 2) f fd ["moves", "told"] spKept := by
  have nd := scAreMarksKept.nd
  refine F.ok scAreMarksKept (fun vs H Q E h => ?_) (fun cdv A outer s H vs Q E hr h => ?_)
  · obtain ⟨l, a, ks, ms, t, rfl, _⟩ := h
    rfl
  · obtain ⟨l, a, ks, ms, t, rfl, hl, hks, hk, ha, htl, hp, q⟩ := h
    refine ⟨_, (pss_cons (ps_for PassesOwn.never rfl (pi_enum (by rfl) me (pa_cons (pv 0) pa_nil)) (pg_tup rfl (pgs_cons (pg_name (i := 2) nd rfl (.inl rfl)) (pgs_cons (pg_name (i := 3) nd rfl (.inl rfl)) pgs_nil))) (pss_one (ps_if (PW.pt (pw_and (pt_val (pe_call GIB hr (by rfl) gIB FIB.kp bIB .nil pass0 (pa_cons (pv 1) (pa_cons (pv 2) pa_nil)))) (pw_and1 (pt_cmpR op_ne (pe_ix ix_tup (pv 3) pe_int (fun _ _ => rfl)) (pe_ix ix_tup (pe_ix ix_list (pv 0) (pe_ix ix_list (pv 1) (pv 2) (fun _ _ => rfl)) (fun _ _ => rfl)) pe_int (fun _ _ => rfl)) (nomark _))))) (pss_one (ps_ret pe_bl)) pss_nil)))
      (pss_one (ps_ret pe_bl))), ?_⟩
    have kl : ks.length = ms.length := by
      have := congrArg List.length hk
      rw [List.length_map, List.length_map] at this
      exact this
    have hget : ∀ {i : Nat} {v : Mv}, ms[i]? = some v → ∃ z : Addr, (refs ks)[i]? = some (.ref z) ∧ ∀ H', Ex H H' → H' z = some (.tup (v.key.map kV)) := fun {i v} hv => by
      have hi : i < ks.length := by rw [kl]; exact (List.getElem?_eq_some_iff.mp hv).1
      have h1 : ks[i]? = some ks[i] := List.getElem?_eq_getElem hi
      have h2 : (keys ks)[i]? = some v.key := by rw [hk, List.getElem?_map, hv]; rfl
      rw [List.getElem?_map, h1] at h2
      have h3 : ks[i].2 = v.key := Option.some.inj h2
      exact ⟨ks[i].1, by rw [List.getElem?_map, h1]; rfl, fun H' e => h3 ▸ e _ _ (hks _ (List.mem_of_getElem? h1))⟩
    refine ⟨_, rfl, l, _, rfl, sq_of hl, for_enum (xs := refs ks) (fun i σ H' => (∃ y2 y3, σ = [some (.ref l), some (.ref a), y2, y3]) ∧ Ex H H' ∧ (List.range i).all (keptAt ms t) = true) ⟨⟨_, _, rfl⟩, Ex.refl _, rfl⟩ (fun i σ H' _ hh => sq_of (hh.2.1 _ _ hl)) ?_ ?_⟩
    · rintro i x σ H' T hx ⟨⟨y2, y3, rfl⟩, eH, hall⟩ nT
      have hi : i < ms.length := by
        have := (List.getElem?_eq_some_iff.mp hx).1
        rw [List.length_map] at this
        omega
      have eT : Ex H (upd H' T (.tup [.int (i : Nat), x])) := eH.trans (Ex.new nT)
      refine ⟨_, rfl, _, rfl, a, t, i, rfl, sq_of (eT _ _ ha), by omega, _, rfl, ?_⟩
      cases hb : begB t i with
      | false =>
        refine iteF (iteF ⟨⟨_, _, rfl⟩, eT, range_snoc hall ?_⟩)
        unfold keptAt
        rw [hb]
        rfl
      | true =>
        obtain ⟨j, hj, hij⟩ : ∃ j, tv t i = some j ∧ i < j := by
          unfold begB at hb
          cases hz : tv t i with
          | none => rw [hz] at hb; cases hb
          | some j => rw [hz] at hb; exact ⟨j, rfl, of_decide_eq_true hb⟩
        obtain ⟨⟨p, o, m1, q1, h1⟩, p2, m2, c2, q2, h2⟩ := hp i j hj hij
        obtain ⟨z1, hz1, g1⟩ := hget h1
        obtain ⟨z2, hz2, g2⟩ := hget h2
        rw [hx] at hz1
        cases Option.some.inj hz1
        have hkp : keptAt ms t i = decide (m1 = m2) := by
          unfold keptAt mkAt
          rw [hb, hj, h1]
          show (!(true && !decide (m1 = ((ms[j]?).map Mv.mark).getD 0))) = _
          rw [h2]
          show (!(true && !decide (m1 = m2))) = _
          rw [Bool.true_and, Bool.not_not]
        have hat := t_at (t := t) (a := i) (by omega)
        rw [hj] at hat
        refine iteT ⟨_, rfl, z1, _, 3, _, rfl, rfl, st_of (g1 _ eT), rfl, _, rfl, _, rfl, _, rfl, a, _, _, _, rfl, rfl, sq_of (eT _ _ ha), hat, l, _, _, _, rfl, rfl, sq_of (eT _ _ hl), atI_nat hz2, z2, _, 2, _, rfl, rfl, st_of (g2 _ eT), rfl, rfl, _, rfl, ?_⟩
        rw [show decide (kV (.inl (m1 : Int)) = kV (.inl (m2 : Int))) = decide (m1 = m2) from decide_eq_decide.mpr ⟨fun h => by have := V.int.inj h; omega, fun h => by rw [h]⟩]
        by_cases hm : m1 = m2
        · rw [decide_eq_true hm]
          refine iteF ⟨⟨_, _, rfl⟩, eT, range_snoc hall ?_⟩
          rw [hkp, decide_eq_true hm]
        · rw [decide_eq_false hm]
          refine iteT ?_
          have := q _ eT
          rw [show keptB ms t = false from range_fail hi (by rw [hkp, decide_eq_false hm])] at this
          exact this
    · rintro σ H' ⟨⟨y2, y3, rfl⟩, eH, hall⟩
      rw [List.length_map, kl] at hall
      have := q _ eH
      rw [show keptB ms t = true from hall] at this
      exact this
end
end Eh
set_option Elab.async false
set_option linter.all false
set_option maxRecDepth 100000
set_option maxHeartbeats 4000000
namespace Eh
open PySem PySem.Spec PyProof.Rows L2 Evl Ms GxR Gx
theorem inV_nat (x : Nat) : ∀ os : List Nat, inV (nV x) (os.map nV) = decide (x ∈ os)
  | [] => rfl
  | y :: r => by
    show (eqV (nV y) (nV x) || inV (nV x) (r.map nV)) = _
    rw [inV_nat x r, show eqV (nV y) (nV x) = ((y : Int) == (x : Int)) from rfl]
    by_cases e : y = x
    · subst e
      simp
    · have e' : ¬ x = y := fun z => e z.symm
      have e2 : ¬ (y : Int) = (x : Int) := fun z => e (by omega)
      simp [e', e2]
theorem flat_nat (os : List Nat) : (os.map nV).all flatV = true := by
  rw [List.all_map, List.all_eq_true]
  exact fun _ _ => rfl
theorem byB_cons (M : List (List Key)) (x : Str) (W : List Str) (k : List Key) (ks : List (List Key)) : byB M (x :: W) (k :: ks) = ((inK k M && decide (ltrK k = x)) && byB M W ks) := by
  unfold byB
  show (decide (ks.length + 1 = W.length + 1) && ((inK k M && decide (ltrK k = x)) && (ks.zip W).all _)) = _
  rw [show decide (ks.length + 1 = W.length + 1) = decide (ks.length = W.length) from decide_eq_decide.mpr ⟨fun h => by omega, fun h => by omega⟩]
  cases decide (ks.length = W.length) <;> cases (inK k M && decide (ltrK k = x)) <;> rfl
theorem byB_ms {M : List (List Key)} (hM : ∀ k ∈ M, ∃ v : Mv, k = v.key) : ∀ {ks : List (List Key)} {W : List Str}, byB M W ks = true → ∃ ms : List Mv, ks = ms.map Mv.key ∧ (∀ v ∈ ms, v.key ∈ M) ∧ ms.map Mv.ltr = W
  | [], [], _ => ⟨[], rfl, fun v hv => (List.not_mem_nil hv).elim, rfl⟩
  | [], _ :: _, h => by cases h
  | _ :: _, [], h => by cases h
  | k :: ks, x :: W, h => by
    rw [byB_cons, Bool.and_eq_true, Bool.and_eq_true] at h
    obtain ⟨⟨h1, h2⟩, h3⟩ := h
    obtain ⟨ms, e, hm, hl⟩ := byB_ms hM h3
    have hk := inK_iff.mp h1
    obtain ⟨v, rfl⟩ := hM k hk
    refine ⟨v :: ms, by rw [e]; rfl, fun u hu => ?_, ?_⟩
    · rcases List.mem_cons.mp hu with rfl | hu
      · exact hk
      · exact hm u hu
    · have := of_decide_eq_true h2
      rw [ltrK_key] at this
      show v.ltr :: ms.map Mv.ltr = _
      rw [this, hl]
theorem byB_of {M : List (List Key)} : ∀ {ms : List Mv}, (∀ v ∈ ms, v.key ∈ M) → byB M (ms.map Mv.ltr) (ms.map Mv.key) = true
  | [], _ => rfl
  | v :: ms, h => by
    show byB M (v.ltr :: ms.map Mv.ltr) (v.key :: ms.map Mv.key) = true
    rw [byB_cons, byB_of fun u hu => h u (List.mem_cons_of_mem _ hu), inK_iff.mpr (h v (List.mem_cons_self ..)), ltrK_key, decide_eq_true rfl]
    rfl
theorem keys_inj : ∀ {a b : List Mv}, a.map Mv.key = b.map Mv.key → a = b
  | [], [], _ => rfl
  | [], _ :: _, h => by cases h
  | _ :: _, [], h => by cases h
  | x :: r, y :: t, h => by
    injection h with h1 h2
    rw [Mv.inj h1, keys_inj h2]
/-- a walk by the word: moves of the machine that spell it, hang together, begin and end where they should, the marks kept -/
structure WalkP (os qs : List Str) (M : List (List Key)) (F L : List Nat) (W : List Str) (ms : List Mv) : Prop where
  inM : ∀ v ∈ ms, v.key ∈ M
  ltr : ms.map Mv.ltr = W
  nil : ms = [] → ∃ p ∈ F, p ∈ L
  fst : ∀ v, ms[0]? = some v → v.frm ∈ F
  lst : ∀ v, ms[ms.length - 1]? = some v → v.to ∈ L
  chn : ∀ (i : Nat) v u, ms[i]? = some v → ms[i + 1]? = some u → v.to = u.frm
  kept : keptB ms (ansOf os qs W) = true
def IsWalkK (os qs : List Str) (M : List (List Key)) (F L : List Nat) (W : List Str) (ks : List (List Key)) : Prop := ∃ ms : List Mv, ks = ms.map Mv.key ∧ WalkP os qs M F L W ms
theorem paird {os ls qs W : List Str} {n m : Nat} {M : List (List Key)} {ms : List Mv} (hS : Sht os ls qs) (hM : ∀ k ∈ M, MvK os ls qs n m k) (hin : ∀ v ∈ ms, v.key ∈ M) (hl : ms.map Mv.ltr = W) : Paird ms (ansOf os qs W) := by
  intro i j hij lt
  have g := (good_run (kfOf os qs W) W.length W.length (Nat.le_refl _)).pr i j hij
  have kd : ∀ {a : Nat} (ha : a < W.length), ∃ v, ms[a]? = some v ∧ kfOf os qs W a = match v with | .pl _ _ _ => .pl | .op _ _ _ _ => .op | .cl _ _ _ _ => .cl := fun {a} ha => by
    have hla : a < ms.length := by rw [← hl, List.length_map] at ha; exact ha
    have hv : ms[a]? = some ms[a] := List.getElem?_eq_getElem hla
    refine ⟨_, hv, ?_⟩
    have hw : W[a]? = some ms[a].ltr := by rw [← hl, List.getElem?_map, hv]; rfl
    obtain ⟨u, e, ok⟩ := Eh.MvK.mv (hM _ (hin _ (List.mem_of_getElem? hv)))
    rw [← Mv.inj e] at ok
    refine (kfOf_at hw).trans ((Mv.kd hS ok).trans ?_)
    generalize ms[a] = v
    cases v <;> rfl
  obtain ⟨h1, h2, _, h4⟩ := g
  obtain ⟨v, hv, kv⟩ := kd h1
  obtain ⟨u, hu, ku⟩ := kd h2
  rcases h4 with ⟨a, b, _⟩ | ⟨_, _, c, _⟩
  · rw [a] at kv
    rw [b] at ku
    constructor
    · cases v with
      | op p x k q => exact ⟨p, x, k, q, hv⟩
      | pl _ _ _ => cases kv
      | cl _ _ _ _ => cases kv
    · cases u with
      | cl p x k q => exact ⟨p, x, k, q, hu⟩
      | pl _ _ _ => cases ku
      | op _ _ _ _ => cases ku
  · omega
theorem key_frm (v : Mv) : atI (v.key.map kV) 1 = some (nV v.frm) := by cases v <;> rfl
theorem key_to (v : Mv) : atI (v.key.map kV) (-1) = some (nV v.to) := by cases v <;> rfl
theorem at_last {α : Type} {xs : List α} {v : α} (h : xs[xs.length - 1]? = some v) : atI xs (-1) = some v := by
  obtain ⟨ys, y, e⟩ : ∃ ys y, xs = ys ++ [y] := by
    rcases List.eq_nil_or_concat xs with rfl | ⟨ys, y, rfl⟩
    · cases h
    · exact ⟨ys, y, List.concat_eq_append⟩
  rw [e] at h ⊢
  rw [List.length_append, List.length_singleton, Nat.add_sub_cancel, List.getElem?_append_right (Nat.le_refl _), Nat.sub_self] at h
  rw [atI_last, ← h]
  rfl
end Eh
set_option Elab.async false
set_option linter.all false
set_option maxRecDepth 100000
set_option maxHeartbeats 4000000
namespace Eh
open PySem PySem.Spec PyProof.Rows L2 Evl Ms GxR Gx
abbrev nIsWalk : List Str := ["machine", "word", "moves", "told", "at", "room"]
theorem scIsWalk : FnScope nIsWalk ["machine", "word", "moves"] (defScope sIsWalk) := ⟨rfl, rfl, rfl, by decide +kernel, rfl, by decide +kernel, by decide +kernel⟩
section
variable {P : Program} {w : World} {K : PySem.W.Frag} {mg : Str → Option Value} {base : Heap}
def spIsWalk (PM PQ : Addr) : Sp := fun vs H Q _ => ∃ (t s wd l : Addr) (os ls qs : List Str) (n m : Nat) (F L : List Nat) (mv ks : List (Addr × List Key)) (W : List Str), vs = [.ref t, .ref wd, .ref l] ∧ MachAt os ls qs H t s n m F L mv ∧ MachOk os ls qs n m F L mv ∧ Sht os ls qs ∧ H wd = some (.lst (W.map V.str)) ∧ (∀ x ∈ W, x ∈ os ++ ls ++ qs) ∧ W.length ≤ 10000 ∧ bal os qs W 0 = some 0 ∧ H l = some (.lst (refs ks)) ∧ MsAt H ks ∧ TabG H PM ∧ TabG H PQ ∧ ∀ b H', ET H H' → (b = true ↔ IsWalkK os qs (keys mv) F L W (keys ks)) → Q (.bl b) H'
theorem ok_isWalk {f c PM PQ fNS fMB fMK : Addr} {fd dNS dMB dMK : FuncData} {k : Nat} (F : FunC K "is_walk" "is_walk" sIsWalk f fd c) (TB : TabB base mg c PQ)
    (FNS : Fun K "need_shut" "need_shut" sNeedShut fNS dNS) (GNS : FnOk P w K mg base CX0 (k + 1) fNS dNS ["sheet", "word"] (spNeedShut0 K)) (bNS : Binds K dNS ["sheet", "word"] []) (gNS : mg "need_shut" = some (.ref fNS))
    (FMB : Fun K "are_moves_by" "are_moves_by" sAreMovesBy fMB dMB) (GMB : FnOk P w K mg base CX0 (k + 1) fMB dMB ["machine", "word", "moves"] (spMovesBy PM)) (bMB : Binds K dMB ["machine", "word", "moves"] []) (gMB : mg "are_moves_by" = some (.ref fMB))
    (FMK : Fun K "are_marks_kept" "are_marks_kept" sAreMarksKept fMK dMK) (GMK : FnOk P w K mg base CX0 (k + 1) fMK dMK ["moves", "told"] spKept) (bMK : Binds K dMK ["moves", "told"] []) (gMK : mg "are_marks_kept" = some (.ref fMK))
    (ml : mg "len" = none) (ma : mg "any" = none) (mr : mg "range" = none) : FnOk P w K mg base CX0 (k + 2) f fd ["machine", "word", "moves"] (spIsWalk PM PQ) := by
  have nd := scIsWalk.nd
  refine F.okC scIsWalk (fun vs H Q E h => ?_) (fun A outer s H vs Q E hr h => ?_)
  · obtain ⟨t, s, wd, l, os, ls, qs, n, m, F, L, mv, ks, W, rfl, _⟩ := h
    rfl
  · obtain ⟨t, s, wd, l, os, ls, qs, n, m, F, L, mv, ks, W, rfl, hM, hO, hS, hW, hwl, hlen, hbal, hl, hks, tM, tW, q⟩ := h
    refine ⟨_, (pss_cons (ps_set (i := 3) nd rfl (.inl rfl) (pe_call GNS hr (by rfl) gNS FNS.kp bNS .nil pass0 (pa_cons (pe_ix ix_tup (pv 0) pe_int (fun _ _ => rfl)) (pa_cons (pv 1) pa_nil))))
      (pss_cons (ps_if (pt_not (pt_val (pe_call GMB hr (by rfl) gMB FMB.kp bMB .nil pass0 (pa_cons (pv 0) (pa_cons (pv 1) (pa_cons (pv 2) pa_nil)))))) (pss_one (ps_ret pe_bl)) pss_nil)
      (pss_cons (ps_if (pt_not (pt_truth (pv 2) (by intro _; rfl))) (pss_one (ps_ret (pe_anyG (own := [("room", 5)]) (gt := gName 5) (te := tOp (rIn K false) (tVar 5) (tOp (rIxT K) (tVar 0) (tC (.int 4)))) rfl nd hr (by rfl) ma TB rfl (pi_tup (pe_ix ix_tup (pv 0) pe_int (fun _ _ => rfl))) (blkOk_by (own := [("room", 5)]) (N := nIsWalk) (sc := defScope sIsWalk) (by decide +kernel)) (by decide +kernel) rfl (fun _ _ _ _ _ _ _ => pg_name (i := 5) nd rfl (.inl rfl))
          (fun _ _ _ _ _ _ _ hr2 => pe_cmpR op_in_seq (pv 5) (pe_ix ix_tup (pv 0) pe_int (fun _ _ => rfl)) (by rfl))))) pss_nil)
      (pss_cons (ps_if (PW.pt (pw_or (pt_cmpR op_notIn_seq (pe_ix ix_tup (pe_ix ix_list (pv 2) pe_int (fun _ _ => rfl)) pe_int (fun _ _ => rfl)) (pe_ix ix_tup (pv 0) pe_int (fun _ _ => rfl)) (by rfl)) (pw_or1 (pt_cmpR op_notIn_seq (pe_ix ix_tup (pe_ix ix_list (pv 2) (pe_un un_neg pe_int) (fun _ _ => rfl)) (pe_un un_neg pe_int) (fun _ _ => rfl)) (pe_ix ix_tup (pv 0) pe_int (fun _ _ => rfl)) (by rfl))))) (pss_one (ps_ret pe_bl)) pss_nil)
      (pss_cons (ps_if (pt_val (pe_anyG (own := [("at", 4)]) (gt := gName 4) (te := tOp rNe (tOp (rIxT K) (tOp (rIxL K) (tVar 2) (tVar 4)) (tUn (rU fun i => .int (-i)) (tC (.int 1)))) (tOp (rIxT K) (tOp (rIxL K) (tVar 2) (tOp (rI0 fun i j => .int (i + j)) (tVar 4) (tC (.int 1)))) (tC (.int 1)))) rfl nd hr (by rfl) ma TB rfl (pi_range1 (by rfl) mr (pa_cons (pe_op op_sub (pe_callB call_len_seq (by rfl) ml PySem.boot_len (pa_cons (pv 2) pa_nil)) pe_int) pa_nil)) (blkOk_by (own := [("at", 4)]) (N := nIsWalk) (sc := defScope sIsWalk) (by decide +kernel)) (by decide +kernel) rfl (fun _ _ _ _ _ _ _ => pg_name (i := 4) nd rfl (.inl rfl))
          (fun _ _ _ _ _ _ _ hr2 => pe_cmpR op_ne (pe_ix ix_tup (pe_ix ix_list (pv 2) (pv 4) (fun _ _ => rfl)) (pe_un un_neg pe_int) (fun _ _ => rfl)) (pe_ix ix_tup (pe_ix ix_list (pv 2) (pe_op op_add (pv 4) pe_int) (fun _ _ => rfl)) pe_int (fun _ _ => rfl)) (nomark _)))) (pss_one (ps_ret pe_bl)) pss_nil)
      (pss_one (ps_ret (pe_call GMK hr (by rfl) gMK FMK.kp bMK .nil pass0 (pa_cons (pv 2) (pa_cons (pv 3) pa_nil)))))))))), ?_⟩
    obtain ⟨f0, l0, g0, e0, e1, e2, e3⟩ := hM.ex
    refine ⟨_, rfl, t, _, 0, _, rfl, rfl, st_of e0, rfl, _, rfl, s, wd, os, ls, qs, W, rfl, hS, hM.sh, sq_of hW, hwl, hlen, hbal, fun a H1 x1 na ha => ?_⟩
    have t1 := ET.of x1
    refine ⟨_, rfl, _, rfl, _, rfl, t, s, wd, l, os, ls, qs, n, m, F, L, mv, ks, W, rfl, hM.et t1, hO, x1 _ _ hW, x1 _ _ hl, hks.et t1, t1.tab _ tM, fun H2 t2 => ⟨_, rfl, ?_⟩⟩
    have t12 := t1.trans t2
    have hMv : ∀ x ∈ keys mv, MvK os ls qs n m x := fun x hx => by
      obtain ⟨y, hy, rfl⟩ := List.mem_map.mp hx
      exact hO.mvk y hy
    cases hby : byB (keys mv) W (keys ks) with
    | false =>
      refine iteT (q false H2 t12 ⟨fun z => (nomatch z), fun ⟨ms, e, wp⟩ => ?_⟩)
      rw [e, ← wp.ltr, byB_of wp.inM] at hby
      cases hby
    | true =>
      refine iteF ?_
      obtain ⟨ms, hk, hin, hltr⟩ := byB_ms (fun x hx => (Eh.MvK.mv (hMv x hx)).imp fun v h => h.1) hby
      have kl : ks.length = ms.length := by
        have := congrArg List.length hk
        rw [List.length_map, List.length_map] at this
        exact this
      have mlW : ms.length = W.length := by rw [← hltr, List.length_map]
      have back : ∀ {b : Bool} {H' : Hp}, ET H2 H' → (b = true ↔ WalkP os qs (keys mv) F L W ms) → Q (.bl b) H' := fun {b H'} e hb => q b H' (t12.trans e) (hb.trans ⟨fun h => ⟨ms, hk, h⟩, fun ⟨ms', e', h⟩ => keys_inj (e'.symm.trans hk) ▸ h⟩)
      have hget : ∀ {i : Nat} {v : Mv}, ms[i]? = some v → ∃ z : Addr, (refs ks)[i]? = some (.ref z) ∧ ∀ H', ET H2 H' → H' z = some (.tup (v.key.map kV)) := fun {i v} hv => by
        have hi : i < ks.length := by rw [kl]; exact (List.getElem?_eq_some_iff.mp hv).1
        have h1 : ks[i]? = some ks[i] := List.getElem?_eq_getElem hi
        have h2 : (keys ks)[i]? = some v.key := by rw [hk, List.getElem?_map, hv]; rfl
        rw [List.getElem?_map, h1] at h2
        have h3 : ks[i].2 = v.key := Option.some.inj h2
        exact ⟨ks[i].1, by rw [List.getElem?_map, h1]; rfl, fun H' e => h3 ▸ (t12.trans e).tup (hks _ (List.mem_of_getElem? h1))⟩
      have hl2 := t12.lst hl
      refine ⟨_, rfl, _, .inl ⟨refs ks, sq_of hl2, rfl⟩, ?_⟩
      by_cases hm0 : ms = []
      · have ks0 : ks = [] := List.eq_nil_of_length_eq_zero (by rw [kl, hm0]; rfl)
        rw [ks0]
        refine iteT ?_
        refine ⟨_, rfl, t, _, _, _, rfl, rfl, st_of (t12.tup e0), rfl, f0, rfl, ⟨_, st_of (t12.tup e1)⟩, ?_⟩
        have w0 : WalkP os qs (keys mv) F L W ms ↔ ∃ p ∈ F, p ∈ L := ⟨fun h => h.nil hm0, fun h => ⟨hin, hltr, fun _ => h, (fun v hv => by rw [hm0] at hv; cases hv), (fun v hv => by rw [hm0] at hv; cases hv), (fun i v u hv => by rw [hm0] at hv; cases hv), by rw [hm0]; rfl⟩⟩
        refine gx_tup (K := K) (xs := F.map nV) (t12.tab _ tW) (fun i H' => ET H2 H' ∧ ∀ p ∈ F.take i, p ∉ L) (fun H3 t3 => ⟨ET.grown (t12.tab _ tW) t3, fun p hp => (List.not_mem_nil hp).elim⟩) (fun i H' h => st_of ((t12.trans h.1).tup e1)) ?_ ?_
        · rintro i x H' N hN hx ⟨eH, hall⟩
          rw [List.getElem?_map] at hx
          obtain ⟨p, hp, rfl⟩ := Option.map_eq_some_iff.mp hx
          refine ⟨rfl, _, rfl, _, rfl, t, _, _, _, rfl, rfl, st_of ((t12.trans eH).tup e0), rfl, l0, _, rfl, .inr (st_of ((t12.trans eH).tup e2)), rfl, flat_nat L, _, rfl, ?_⟩
          show if inV (nV p) (L.map nV) = true then _ else _
          rw [inV_nat]
          by_cases hpl : p ∈ L
          · rw [decide_eq_true hpl]
            exact iteT (back eH ⟨fun _ => w0.mpr ⟨p, List.mem_of_getElem? hp, hpl⟩, fun _ => rfl⟩)
          · rw [decide_eq_false hpl]
            refine iteF (hN _ ⟨eH, fun z hz => ?_⟩)
            rw [List.take_succ, hp] at hz
            rcases List.mem_append.mp hz with hz | hz
            · exact hall z hz
            · rw [List.mem_singleton.mp hz]
              exact hpl
        · rintro H' ⟨eH, hall⟩
          rw [List.length_map, List.take_length] at hall
          refine back eH ⟨fun z => (nomatch z), fun h => ?_⟩
          obtain ⟨p, hp, hpl⟩ := w0.mp h
          exact absurd hpl (hall p hp)
      · have mpos : 0 < ms.length := List.length_pos_iff.mpr hm0
        have hv0 : ms[0]? = some ms[0] := List.getElem?_eq_getElem mpos
        have hvl : ms[ms.length - 1]? = some ms[ms.length - 1] := List.getElem?_eq_getElem (by omega)
        generalize ms[0] = v0 at hv0
        generalize ms[ms.length - 1] = vl at hvl
        obtain ⟨z0, hz0, g0'⟩ := hget hv0
        obtain ⟨zl, hzl, gl'⟩ := hget hvl
        have hne : (!(refs ks).isEmpty) = true := by
          cases ks with
          | nil => rw [← kl] at mpos; exact absurd mpos (Nat.lt_irrefl _)
          | cons _ _ => rfl
        rw [hne]
        refine iteF ?_
        have hzl' : (refs ks)[(refs ks).length - 1]? = some (.ref zl) := by rw [List.length_map, kl]; exact hzl
        refine ⟨_, rfl, l, _, 0, _, rfl, rfl, sq_of hl2, atI_nat (j := 0) hz0, z0, _, 1, _, rfl, rfl, st_of (g0' _ (ET.refl _)), key_frm v0, _, rfl, t, _, 3, _, rfl, rfl, st_of (t12.tup e0), rfl, f0, _, rfl, .inr (st_of (t12.tup e1)), rfl, flat_nat F, _, rfl, ?_⟩
        show if (!inV (nV v0.frm) (F.map nV)) = true then _ else _
        rw [inV_nat]
        by_cases hf : v0.frm ∈ F
        · rw [decide_eq_true hf]
          refine iteF ?_
          refine ⟨_, rfl, _, rfl, l, _, -1, _, rfl, rfl, sq_of hl2, at_last hzl', _, rfl, zl, _, -1, _, rfl, rfl, st_of (gl' _ (ET.refl _)), key_to vl, _, rfl, t, _, 4, _, rfl, rfl, st_of (t12.tup e0), rfl, l0, _, rfl, .inr (st_of (t12.tup e2)), rfl, flat_nat L, _, rfl, ?_⟩
          show if (!inV (nV vl.to) (L.map nV)) = true then _ else _
          rw [inV_nat]
          by_cases hl' : vl.to ∈ L
          · rw [decide_eq_true hl']
            refine iteF ?_
            refine ⟨_, rfl, _, _, rfl, .inl (sq_of hl2), _, _, rfl, rfl, _, rfl, ?_, ?_, ?_⟩
            · omega
            · rw [List.length_map]
              omega
            · rw [List.length_map, kl, show ((ms.length : Int) - 1).toNat = ms.length - 1 by omega]
              refine gx_range (t12.tab _ tW) (fun i H' => ET H2 H' ∧ ∀ (j : Nat) v u, j < i → ms[j]? = some v → ms[j + 1]? = some u → v.to = u.frm) (fun H3 t3 => ⟨ET.grown (t12.tab _ tW) t3, fun j v u hj => absurd hj (Nat.not_lt_zero _)⟩) ?_ ?_
              · rintro i H' N hN hi ⟨eH, hall⟩
                have hv1 : ms[i]? = some ms[i] := List.getElem?_eq_getElem (by omega)
                have hv2 : ms[i + 1]? = some ms[i + 1] := List.getElem?_eq_getElem (by omega)
                generalize ms[i] = v1 at hv1
                generalize ms[i + 1] = v2 at hv2
                obtain ⟨z1, hz1, g1⟩ := hget hv1
                obtain ⟨z2, hz2, g2⟩ := hget hv2
                have hl3 := eH.lst hl2
                have ei : (0 : Int) + (i : Int) = ((i : Nat) : Int) := by omega
                rw [ei]
                refine ⟨rfl, _, rfl, _, rfl, l, _, _, _, rfl, rfl, sq_of hl3, atI_nat hz1, _, rfl, z1, _, -1, _, rfl, rfl, st_of (g1 _ eH), key_to v1, _, rfl, _, rfl, _, _, rfl, rfl, l, _, _, _, rfl, rfl, sq_of hl3, atI_nat (j := i + 1) hz2, z2, _, 1, _, rfl, rfl, st_of (g2 _ eH), key_frm v2, rfl, _, rfl, ?_⟩
                rw [show decide (nV v1.to = nV v2.frm) = decide (v1.to = v2.frm) from decide_eq_decide.mpr ⟨fun h => by have := V.int.inj h; omega, fun h => by rw [h]⟩]
                by_cases hc : v1.to = v2.frm
                · rw [decide_eq_true hc]
                  refine iteF (hN _ ⟨eH, fun j v u hj hv hu => ?_⟩)
                  rcases Nat.lt_or_ge j i with h | h
                  · exact hall j v u h hv hu
                  · have : j = i := by omega
                    subst this
                    rw [hv1] at hv
                    rw [hv2] at hu
                    cases hv
                    cases hu
                    exact hc
                · rw [decide_eq_false hc]
                  exact iteT ⟨_, rfl, iteT (back eH ⟨fun z => (nomatch z), fun h => absurd (h.chn i v1 v2 hv1 hv2) hc⟩)⟩
              · rintro H' ⟨eH, hall⟩
                refine ⟨_, rfl, iteF ?_⟩
                refine ⟨_, rfl, _, rfl, l, a, ks, ms, ansOf os qs W, rfl, eH.lst hl2, hks.et (t12.trans eH), hk, (t2.trans eH).lst ha, by rw [ansOf_len', mlW], paird hS hMv hin hltr, fun H3 e3 => back (eH.trans (ET.of e3)) ⟨fun hkp => ?_, fun h => h.kept⟩⟩
                refine ⟨hin, hltr, fun z => absurd z hm0, fun v hv => ?_, fun v hv => ?_, fun i v u hv hu => ?_, hkp⟩
                · rw [hv0] at hv
                  cases hv
                  exact hf
                · rw [hvl] at hv
                  cases hv
                  exact hl'
                · exact hall i v u (by have := (List.getElem?_eq_some_iff.mp hu).1; omega) hv hu
          · rw [decide_eq_false hl']
            exact iteT (back (ET.refl _) ⟨fun z => (nomatch z), fun h => absurd (h.lst vl hvl) hl'⟩)
        · rw [decide_eq_false hf]
          exact iteT (back (ET.refl _) ⟨fun z => (nomatch z), fun h => absurd (h.fst v0 hv0) hf⟩)
end
end Eh
set_option Elab.async false
set_option linter.all false
set_option maxRecDepth 100000
set_option maxHeartbeats 4000000
namespace Eh
open PySem PySem.Spec PyProof.Rows L2 Evl Ms GxR Gx
abbrev nD (p : Nat) : PyData := .int (p : Int)
theorem dpNats {K : PySem.W.Frag} {H : Hp} : ∀ P : List Nat, DpAll K H (P.map nV) (P.map nD)
  | [] => .nil
  | x :: r => .cons (.int _) (dpNats r)
theorem layNats : ∀ P : List Nat, PyData.canLayAll0 (P.map nD) = true
  | [] => rfl
  | x :: r => by
    show (true && PyData.canLayAll0 (r.map nD)) = true
    rw [layNats r]
    rfl
theorem deepNats : ∀ P : List Nat, PyData.depthAll (P.map nD) = 0
  | [] => rfl
  | x :: r => by
    show max 0 (PyData.depthAll (r.map nD)) = 0
    rw [deepNats r]
    rfl
theorem shapedN (P : List Nat) : SeqAt.shaped (.list (P.map nD)) = true := by
  unfold SeqAt.shaped
  rw [show PyData.canLay0 (.list (P.map nD)) = true from layNats P, show PyData.depth (.list (P.map nD)) = 1 by
    show PyData.depthAll (P.map nD) + 1 = 1
    rw [deepNats]]
  rfl
theorem shaped0 : SeqAt.shaped (.list []) = true := shapedN []
theorem eqv_nilL (ds : List PyData) : PyData.eqv (.list ds) (.list []) = ds.isEmpty := by
  cases ds <;> rfl
/-- keys whose texts are texts -/
def okK (k : List Key) : Prop := PyData.canLayAll0 (k.map keyD) = true
theorem layKs : ∀ ks : List (List Key), (∀ k ∈ ks, okK k) → PyData.canLayAll0 (ks.map kD) = true
  | [], _ => rfl
  | k :: r, h => by
    show (PyData.canLayAll0 (k.map keyD) && PyData.canLayAll0 (r.map kD)) = true
    rw [layKs r fun y hy => h y (List.mem_cons_of_mem _ hy), h k (List.mem_cons_self ..)]
    rfl
theorem deepKs : ∀ ks : List (List Key), PyData.depthAll (ks.map kD) ≤ 1
  | [] => Nat.zero_le _
  | k :: r => by
    show max (kD k).depth (PyData.depthAll (r.map kD)) ≤ 1
    rw [dep_kD]
    exact Nat.max_le.mpr ⟨Nat.le_refl _, deepKs r⟩
theorem shapedK {ks : List (List Key)} (h : ∀ k ∈ ks, okK k) : SeqAt.shaped (.list (ks.map kD)) = true := by
  unfold SeqAt.shaped
  rw [show PyData.canLay0 (.list (ks.map kD)) = true from layKs ks h]
  refine decide_eq_true ?_
  show PyData.depthAll (ks.map kD) + 1 ≤ 64
  have := deepKs ks
  omega
theorem okK_cons_i {i : Int} {k : List Key} (h : okK k) : okK (.inl i :: k) := by
  show (true && PyData.canLayAll0 (k.map keyD)) = true
  rw [show PyData.canLayAll0 (k.map keyD) = true from h]
  rfl
theorem okK_cons_s {x : Str} {k : List Key} (hx : PyData.strOk x = true) (h : okK k) : okK (.inr x :: k) := by
  show (PyData.strOk x && PyData.canLayAll0 (k.map keyD)) = true
  rw [show PyData.canLayAll0 (k.map keyD) = true from h, hx]
  rfl
theorem okK_nil : okK [] := rfl
theorem okK_inv {a : Key} {k : List Key} (h : okK (a :: k)) : okK [a] ∧ okK k := by
  have h' : (PyData.canLay0 (keyD a) && PyData.canLayAll0 (k.map keyD)) = true := h
  rw [Bool.and_eq_true] at h'
  refine ⟨?_, h'.2⟩
  show (PyData.canLay0 (keyD a) && true) = true
  rw [h'.1]
  rfl
theorem okK_app : ∀ {a b : List Key}, okK a → okK b → okK (a ++ b)
  | [], b, _, hb => hb
  | x :: r, b, ha, hb => by
    have h' : (PyData.canLay0 (keyD x) && PyData.canLayAll0 (r.map keyD)) = true := ha
    rw [Bool.and_eq_true] at h'
    show (PyData.canLay0 (keyD x) && PyData.canLayAll0 ((r ++ b).map keyD)) = true
    rw [h'.1, show PyData.canLayAll0 ((r ++ b).map keyD) = true from okK_app h'.2 hb]
    rfl
theorem strOk_of {x : Str} (h : Ltr x) : PyData.strOk x = true := strOk_ltr h.1
theorem okMv {os ls qs : List Str} {n m : Nat} (hS : Sht os ls qs) : ∀ {v : Mv}, v.Ok os ls qs n m → okK v.key
  | .pl p b q, h => okK_cons_s (by decide +kernel) (okK_cons_i (okK_cons_s (strOk_of (hS.lt _ (List.mem_append_left _ (List.mem_append_right _ h.2.2)))) (okK_cons_i okK_nil)))
  | .op p b k q, h => okK_cons_s (by decide +kernel) (okK_cons_i (okK_cons_s (strOk_of (hS.lt _ (List.mem_append_left _ (List.mem_append_left _ h.2.2.2)))) (okK_cons_i (okK_cons_i okK_nil))))
  | .cl p k b q, h => okK_cons_s (by decide +kernel) (okK_cons_i (okK_cons_i (okK_cons_s (strOk_of (hS.lt _ (List.mem_append_right _ h.2.2.2))) (okK_cons_i okK_nil))))
theorem okMvK {os ls qs : List Str} {n m : Nat} (hS : Sht os ls qs) {k : List Key} (h : MvK os ls qs n m k) : okK k := by
  obtain ⟨v, rfl, ok⟩ := Eh.MvK.mv h
  exact okMv hS ok
/-- a slice of a list of numbers -/
def cutN (P : List Nat) (lo hi : Option Int) : List Nat := (P.drop (HT.sIx P.length 0 lo)).take (HT.sIx P.length P.length hi - HT.sIx P.length 0 lo)
theorem cutV_nat (P : List Nat) (lo hi : Option Int) : cutV (P.map nV) lo hi = (cutN P lo hi).map nV := by
  unfold cutV cutN
  rw [List.length_map, List.map_take, List.map_drop]
end Eh
set_option Elab.async false
set_option linter.all false
set_option maxRecDepth 100000
set_option maxHeartbeats 4000000
namespace Eh
open PySem PySem.Spec PyProof.Rows L2 Evl Ms GxR Gx
abbrev nLawOwnWalk : List Str := ["pot", "machine", "most", "room", "pile", "moves", "turn", "some", "move", "ends"]
theorem scLawOwnWalk : FnScope nLawOwnWalk ["pot", "machine", "most"] (defScope sLawOwnWalk) := ⟨rfl, rfl, rfl, by decide +kernel, rfl, by decide +kernel, by decide +kernel⟩
abbrev rInt1 : List V → Hp → VK → Prop := fun xs H Q => (∃ i, xs = [.int i] ∧ Q (.int i) H) ∨ ∃ k, xs = [.bl k] ∧ Q (.int (if k then 1 else 0)) H
theorem ev_yes {σ : L2.St} {H : Hp} : EvT tYes σ H true := fun H1 _ _ q => q H1 (Ex.refl H1)
theorem given_yes (xs : List Str) : given xs.length (fun _ => true) (fun i => V.str (xs.getD i "")) = xs.map V.str := by
  unfold given
  rw [List.filter_eq_self.mpr fun _ _ => rfl]
  apply List.ext_getElem
  · rw [List.length_map, List.length_range, List.length_map]
  · intro i h1 h2
    rw [List.length_map] at h2
    rw [List.getElem_map, List.getElem_range, List.getElem_map, List.getD_eq_getElem?_getD, List.getElem?_eq_getElem h2]
    rfl
def ltrs (ks : List (Addr × List Key)) : List Str := ks.map fun x => ltrK x.2
theorem ltrs_snoc (ks : List (Addr × List Key)) (x : Addr × List Key) : ltrs (ks ++ [x]) = ltrs ks ++ [ltrK x.2] := by
  unfold ltrs
  rw [List.map_append]
  rfl
theorem refs_snoc (ks : List (Addr × List Key)) (x : Addr × List Key) : refs ks ++ [V.ref x.1] = refs (ks ++ [x]) := by
  unfold refs
  rw [List.map_append]
  rfl
/-- the letter of a move, as the law reads it -/
abbrev tLtr (K : PySem.W.Frag) (j : Nat) : TE := tOp (rIxT K) (tVar j) (tOp (rI0 fun i j => .int (i + j)) (tC (.int 2)) (tCB rInt1 (tCons (tOp rEq (tOp (rIxT K) (tVar j) (tC (.int 0))) (tC (.str "close"))) tNil)))
theorem ltr_rd {K : PySem.W.Frag} {j : Nat} {σ : L2.St} {H : Hp} {a : Addr} {v : Mv} {Q : VK} (hj : σ[j]? = some (some (.ref a))) (h : H a = some (.tup (v.key.map kV))) (q : Q (.str v.ltr) H) : tLtr K j σ H Q := by
  cases v with
  | pl p b r => exact ⟨_, hj, _, hj, a, _, _, _, rfl, rfl, st_of h, rfl, rfl, .inr ⟨false, rfl, _, _, rfl, rfl, a, _, _, _, rfl, rfl, st_of h, rfl, q⟩⟩
  | op p b i r => exact ⟨_, hj, _, hj, a, _, _, _, rfl, rfl, st_of h, rfl, rfl, .inr ⟨false, rfl, _, _, rfl, rfl, a, _, _, _, rfl, rfl, st_of h, rfl, q⟩⟩
  | cl p i b r => exact ⟨_, hj, _, hj, a, _, _, _, rfl, rfl, st_of h, rfl, rfl, .inr ⟨true, rfl, _, _, rfl, rfl, a, _, _, _, rfl, rfl, st_of h, rfl, q⟩⟩
section
variable {P : Program} {w : World} {K : PySem.W.Frag} {mg : Str → Option Value} {base : Heap}
def spOwn : Sp := fun vs H Q _ => ∃ (p c t s : Addr) (ns : List Int) (os ls qs : List Str) (n m : Nat) (F L : List Nat) (mv : List (Addr × List Key)) (most : Nat), vs = [.ref p, .ref t, .int (most : Int)] ∧ most ≤ 60 ∧ Pot p c ns H ∧ Sht os ls qs ∧ MachAt os ls qs H t s n m F L mv ∧ MachOk os ls qs n m F L mv ∧
  ∀ r wd l W ks H', H' r = some (.tup [.ref wd, .ref l]) → H' wd = some (.lst (W.map V.str)) → H' l = some (.lst (refs ks)) → H wd = none → H l = none → (∀ x ∈ ks, x ∈ mv) → (∀ x ∈ W, x ∈ os ++ ls ++ qs) → W.length ≤ 120 → ks.length ≤ 120 → bal os qs W 0 = some 0 → Keep p H H' → Pot p c ns H' → Q (.ref r) H'
theorem ok_own {f fpick : Addr} {fd dpick : FuncData} {k : Nat} (F : Fun K "_law_own_walk" "_law_own_walk" sLawOwnWalk f fd) (Fpick : Fun K "_law_pick" "_law_pick" sPick fpick dpick) (Gpick : FnOk P w K mg base CX0 k fpick dpick ["pot", "many"] spPick) (bpick : Binds K dpick ["pot", "many"] []) (gpick : mg "_law_pick" = some (.ref fpick)) (mlen : mg "len" = none) (mrange : mg "range" = none) (mint : mg "int" = none) : FnOk P w K mg base CX0 (k + 1) f fd ["pot", "machine", "most"] spOwn := by
  have nd := scLawOwnWalk.nd
  refine F.ok scLawOwnWalk (fun vs H Q E h => ?_) (fun cdv A outer s0 H vs Q E hr h => ?_)
  · obtain ⟨p, c, t, s, ns, os, ls, qs, n, m, F, L, mv, most, rfl, _⟩ := h
    rfl
  · obtain ⟨p, c, t, s, ns, os, ls, qs, n, m, F, L, mv, most, rfl, hmost, hP, hS, hM, hO, q⟩ := h
    refine ⟨_, (pss_cons (ps_set (i := 3) nd rfl (.inl rfl) (pe_ix ix_tup (pe_ix ix_tup (pv 1) pe_int (fun _ _ => rfl)) (pe_call Gpick hr (by rfl) gpick Fpick.kp bpick .nil pass0 (pa_cons (pv 0) (pa_cons (pe_callB call_len_seq (by rfl) mlen PySem.boot_len (pa_cons (pe_ix ix_tup (pv 1) pe_int (fun _ _ => rfl)) pa_nil)) pa_nil))) (fun _ _ => rfl)))
      (pss_cons (ps_set (i := 4) nd rfl (.inl rfl) (pe_lst pa_nil))
      (pss_cons (ps_set (i := 5) nd rfl (.inl rfl) (pe_lst pa_nil))
      (pss_cons (ps_for PassesOwn.never rfl (pi_range1 (by rfl) mrange (pa_cons (pe_op op_mul pe_int (pv 2)) pa_nil)) (pg_name (i := 6) nd rfl (.inl rfl)) (pss_cons (ps_set (i := 7) nd rfl (.inl rfl) (pe_lst pa_nil))
      (pss_cons (ps_for PassesOwn.never rfl (pi_tup (pe_ix ix_tup (pv 1) pe_int (fun _ _ => rfl))) (pg_name (i := 8) nd rfl (.inl rfl)) (pss_cons (ps_set (i := 9) nd rfl (.inl rfl) (pe_and (pe_cmpR op_eq (pe_ix ix_tup (pv 8) pe_int (fun _ _ => rfl)) pe_str (nomark _)) (pe_one (pe_cmpR (op_eqD hr.units) (pe_slice sl_list (pv 4) (po_some (pe_un un_neg pe_int)) po_none) (pe_lst (pa_cons (pe_ix ix_tup (pv 8) pe_int (fun _ _ => rfl)) pa_nil)) (nomark _)))))
      (pss_one (ps_if (PW.pt (pw_and (pt_cmpR op_eq (pe_ix ix_tup (pv 8) pe_int (fun _ _ => rfl)) (pv 3) (nomark _)) (pw_and1 (PW.pt (pw_or (pt_val (pv 9)) (pw_or1 (PW.pt (pw_and (pt_cmpR op_ne (pe_ix ix_tup (pv 8) pe_int (fun _ _ => rfl)) pe_str (nomark _)) (pw_and1 (pt_cmpR op_lt (pv 6) (pv 2) (nomark _))))))))))) (pss_one (ps_expr (pe_bm PySem.F.plainAttrs_list PySem.F.slot_list_append PySem.F.type_list_append mt_append (pv 7) (pa_cons (pv 8) pa_nil)))) pss_nil))))
      (pss_one (ps_if (pt_cmpR (op_neD hr.units) (pv 7) (pe_lst pa_nil) (nomark _)) (pss_cons (ps_expr (pe_bm PySem.F.plainAttrs_list PySem.F.slot_list_append PySem.F.type_list_append mt_append (pv 5) (pa_cons (pe_ix ix_list (pv 7) (pe_call Gpick hr (by rfl) gpick Fpick.kp bpick .nil pass0 (pa_cons (pv 0) (pa_cons (pe_callB call_len_seq (by rfl) mlen PySem.boot_len (pa_cons (pv 7) pa_nil)) pa_nil))) (fun _ _ => rfl)) pa_nil)))
      (pss_cons (ps_set (i := 3) nd rfl (.inl rfl) (pe_ix ix_tup (pe_ix ix_list (pv 5) (pe_un un_neg pe_int) (fun _ _ => rfl)) (pe_un un_neg pe_int) (fun _ _ => rfl)))
      (pss_cons (ps_if (pt_cmpR op_eq (pe_ix ix_tup (pe_ix ix_list (pv 5) (pe_un un_neg pe_int) (fun _ _ => rfl)) pe_int (fun _ _ => rfl)) pe_str (nomark _)) (pss_one (ps_expr (pe_bm PySem.F.plainAttrs_list PySem.F.slot_list_append PySem.F.type_list_append mt_append (pv 4) (pa_cons (pe_ix ix_tup (pe_ix ix_list (pv 5) (pe_un un_neg pe_int) (fun _ _ => rfl)) pe_int (fun _ _ => rfl)) pa_nil)))) pss_nil)
      (pss_one (ps_if (pt_cmpR op_eq (pe_ix ix_tup (pe_ix ix_list (pv 5) (pe_un un_neg pe_int) (fun _ _ => rfl)) pe_int (fun _ _ => rfl)) pe_str (nomark _)) (pss_one (ps_expr (pe_bm0 PySem.F.plainAttrs_list PySem.F.slot_list_pop PySem.F.type_list_pop mt_pop (pv 4)))) pss_nil))))) pss_nil)))))
      (pss_cons (ps_if (pt_cmpR (op_neD hr.units) (pv 4) (pe_lst pa_nil) (nomark _)) (pss_one (ps_ret (pe_tup (pa_cons (pe_lst pa_nil) (pa_cons (pe_lst pa_nil) pa_nil))))) pss_nil)
      (pss_one (ps_ret (pe_tup (pa_cons (pe_lc (own := [("move", 8)]) (g := gName 8) (tt := tYes) (te := tLtr K 8) rfl nd (pi_list (pv 5)) (blkOk_by (own := [("move", 8)]) (N := nLawOwnWalk) (sc := defScope sLawOwnWalk) (by decide +kernel)) (fun _ _ _ _ _ => pg_name (i := 8) nd rfl (.inl rfl)) (fun _ _ _ _ _ => pts_nil) (fun _ _ _ _ _ => (pe_ix ix_tup (pv 8) (pe_op op_add pe_int (pe_callTy call_int1 (by rfl) mint (by decide +kernel) (pa_cons (pe_cmpR op_eq (pe_ix ix_tup (pv 8) pe_int (fun _ _ => rfl)) pe_str (nomark _)) pa_nil))) (fun _ _ => rfl)))) (pa_cons (pv 5) pa_nil)))))))))), ?_⟩
    obtain ⟨f0, l0, g0, e0, e1, e2, e3⟩ := hM.ex
    have hFl : 0 < F.length := List.length_pos_iff.mpr hO.f0
    have hF2 := hO.fl
    refine ⟨_, rfl, t, _, _, _, rfl, rfl, st_of e0, rfl, _, rfl, _, rfl, t, _, _, _, rfl, rfl, st_of e0, rfl, _, _, rfl, .inr (st_of e1), p, c, ns, _, rfl, ?_, ?_, hP, fun v H1 hv k1 hP1 => ?_⟩
    · rw [List.length_map]; omega
    · rw [List.length_map]; omega
    rw [List.length_map] at hv
    have hv' : v < F.length := by omega
    have tne : t ≠ p := hP.ne_tup e0
    have kk := fun {a : Addr} {xs : List V} (h : H a = some (.tup xs)) => hP.ne_tup h
    refine ⟨f0, _, _, nV F[v], rfl, rfl, st_of (k1 _ _ (kk e1) e1), atI_nat (by rw [List.getElem?_map, List.getElem?_eq_getElem hv']; rfl), ?_⟩
    generalize F[v] = r0
    refine ⟨Nat.zero_le _, fun a4 n4 => ⟨Nat.zero_le _, fun a5 n5 => ?_⟩⟩
    have a4p : a4 ≠ p := fun z => by
      obtain ⟨_, _, _, h1, _⟩ := hP1
      rw [z, h1] at n4
      cases n4
    have n4H : H a4 = none := k1.fresh a4p n4
    have x4 := Ex.new (o := .lst []) n4
    have a5p : a5 ≠ p := fun z => by
      obtain ⟨_, _, _, h1, _⟩ := hP1.ex x4
      rw [z, h1] at n5
      cases n5
    have k4 : Keep p H (upd H1 a4 (.lst [])) := k1.trans (Keep.ofEx x4)
    have n5H : H a5 = none := k4.fresh a5p n5
    have x5 := Ex.new (o := .lst []) n5
    have a45 : a4 ≠ a5 := ne_of_none (upd_same (H := H1) (o := .lst [])) n5
    have a4c : a4 ≠ c := fun z => by
      obtain ⟨_, _, _, _, h1⟩ := hP1
      rw [z, h1] at n4
      cases n4
    have a5c : a5 ≠ c := fun z => by
      obtain ⟨_, _, _, _, h1⟩ := hP1.ex x4
      rw [z, h1] at n5
      cases n5
    have hmv : ∀ {x : Addr × List Key}, x ∈ mv → ∃ v : Mv, x.2 = v.key ∧ v.Ok os ls qs n m := fun hx => Eh.MvK.mv (hO.mvk _ hx)
    have hat : ∀ {x : Addr × List Key} {H' : Hp}, x ∈ mv → Keep p H H' → H' x.1 = some (.tup (x.2.map kV)) := fun hx k => k _ _ (kk (hM.at_ _ hx)) (hM.at_ _ hx)
    refine ⟨_, rfl, _, _, rfl, rfl, .inl ⟨by omega, by omega⟩, _, rfl, by omega, by omega, ?_⟩
    rw [show (2 * (most : Int)).toNat = 2 * most by omega]
    refine for_range (fun i σ H' => ∃ (r : Nat) (P : List Nat) (ks : List (Addr × List Key)) (y6 y7 y8 y9 : Option V), σ = [some (.ref p), some (.ref t), some (.int (most : Int)), some (nV r), some (.ref a4), some (.ref a5), y6, y7, y8, y9] ∧ Keep p H H' ∧ Pot p c ns H' ∧ H' a4 = some (.lst (P.map nV)) ∧ H' a5 = some (.lst (refs ks)) ∧ (∀ x ∈ ks, x ∈ mv) ∧ ks.length ≤ i ∧ P.length ≤ i ∧ bal os qs (ltrs ks) 0 = some P.length)
      ⟨r0, [], [], _, _, _, _, rfl, k4.trans (Keep.ofEx x5), (hP1.ex x4).ex x5, by rw [upd_ne a45]; exact upd_same, upd_same, fun x hx => (List.not_mem_nil hx).elim, Nat.zero_le _, Nat.zero_le _, rfl⟩ ?_ ?_
    · rintro i σ H' hi ⟨r, P, ks, y6, y7, y8, y9, rfl, kH, hPt, h4, h5, hks, kl, pl, hb⟩
      refine ⟨Nat.zero_le _, fun a7 n7 => ?_⟩
      have x7 := Ex.new (o := .lst []) n7
      have a7p : a7 ≠ p := fun z => by
        obtain ⟨_, _, _, h1, _⟩ := hPt
        rw [z, h1] at n7
        cases n7
      have a7c : a7 ≠ c := fun z => by
        obtain ⟨_, _, _, _, h1⟩ := hPt
        rw [z, h1] at n7
        cases n7
      have a74 : a4 ≠ a7 := ne_of_none h4 n7
      have a75 : a5 ≠ a7 := ne_of_none h5 n7
      have n7H : H a7 = none := kH.fresh a7p n7
      have kH7 := kH.trans (Keep.ofEx (p := p) x7)
      refine ⟨_, rfl, t, _, _, _, rfl, rfl, st_of (kH7 _ _ (kk e0) e0), rfl, g0, rfl, ⟨_, st_of (kH7 _ _ (kk e3) e3)⟩, for_tup (K := K) (xs := refs mv) (fun j σ H' => ∃ (S1 : List (Addr × List Key)) (y8 y9 : Option V), σ = [some (.ref p), some (.ref t), some (.int (most : Int)), some (nV r), some (.ref a4), some (.ref a5), some (.int (0 + (i : Int))), some (.ref a7), y8, y9] ∧ Keep p H H' ∧ Pot p c ns H' ∧ H' a4 = some (.lst (P.map nV)) ∧ H' a5 = some (.lst (refs ks)) ∧ H' a7 = some (.lst (refs S1)) ∧ S1.length ≤ j ∧ ∀ x ∈ S1, x ∈ mv ∧ ∀ p k c q, x.2 = (Mv.cl p k c q).key → P ≠ []) ⟨[], _, _, rfl, kH7, hPt.ex x7, x7 _ _ h4, x7 _ _ h5, upd_same, Nat.zero_le _, fun x hx => (List.not_mem_nil hx).elim⟩ (fun j σ H' _ h => by obtain ⟨_, _, _, _, k, _⟩ := h; exact st_of (k _ _ (kk e3) e3)) ?_ ?_⟩
      · rintro j x σ H2 hx ⟨S, y8, y9, rfl, k2, hP2, h42, h52, h7, sl, hS'⟩
        rw [List.getElem?_map] at hx
        obtain ⟨z, hz, rfl⟩ := Option.map_eq_some_iff.mp hx
        have hzm := List.mem_of_getElem? hz
        have hjl : j < mv.length := (List.getElem?_eq_some_iff.mp hz).1
        have hm6 := hO.ml
        have zat := hat hzm k2
        have skip : ∀ (u9 : Option V) (H3 : Hp), Ex H2 H3 → ∃ (S1 : List (Addr × List Key)) (y8 y9 : Option V), [some (.ref p), some (.ref t), some (.int (most : Int)), some (nV r), some (.ref a4), some (.ref a5), some (.int (0 + (i : Int))), some (.ref a7), some (V.ref z.1), u9] = [some (.ref p), some (.ref t), some (.int (most : Int)), some (nV r), some (.ref a4), some (.ref a5), some (.int (0 + (i : Int))), some (.ref a7), y8, y9] ∧ Keep p H H3 ∧ Pot p c ns H3 ∧ H3 a4 = some (.lst (P.map nV)) ∧ H3 a5 = some (.lst (refs ks)) ∧ H3 a7 = some (.lst (refs S1)) ∧ S1.length ≤ j + 1 ∧ ∀ x ∈ S1, x ∈ mv ∧ ∀ p k c q, x.2 = (Mv.cl p k c q).key → P ≠ [] := fun u9 H3 e => ⟨S, _, _, rfl, k2.trans (Keep.ofEx e), hP2.ex e, e _ _ h42, e _ _ h52, e _ _ h7, by omega, hS'⟩
        have app : (∀ p k c q, z.2 = (Mv.cl p k c q).key → P ≠ []) → ∀ (u9 : Option V) (H3 : Hp), Ex H2 H3 → H3 a7 = some (.lst (refs S)) ∧ (refs S).length < sizeLine ∧ ∃ (S1 : List (Addr × List Key)) (y8 y9 : Option V), [some (.ref p), some (.ref t), some (.int (most : Int)), some (nV r), some (.ref a4), some (.ref a5), some (.int (0 + (i : Int))), some (.ref a7), some (V.ref z.1), u9] = [some (.ref p), some (.ref t), some (.int (most : Int)), some (nV r), some (.ref a4), some (.ref a5), some (.int (0 + (i : Int))), some (.ref a7), y8, y9] ∧ Keep p H (upd H3 a7 (.lst (refs S ++ [V.ref z.1]))) ∧ Pot p c ns (upd H3 a7 (.lst (refs S ++ [V.ref z.1]))) ∧ (upd H3 a7 (.lst (refs S ++ [V.ref z.1]))) a4 = some (.lst (P.map nV)) ∧ (upd H3 a7 (.lst (refs S ++ [V.ref z.1]))) a5 = some (.lst (refs ks)) ∧ (upd H3 a7 (.lst (refs S ++ [V.ref z.1]))) a7 = some (.lst (refs S1)) ∧ S1.length ≤ j + 1 ∧ ∀ x ∈ S1, x ∈ mv ∧ ∀ p k c q, x.2 = (Mv.cl p k c q).key → P ≠ [] := fun hc u9 H3 e => by
          refine ⟨e _ _ h7, by rw [List.length_map]; exact sz_lt (by omega), S ++ [z], _, _, rfl, (k2.trans (Keep.ofEx e)).new n7H, (hP2.ex e).new a7p.symm a7c.symm, by rw [upd_ne a74]; exact e _ _ h42, by rw [upd_ne a75]; exact e _ _ h52, by rw [upd_same, refs_snoc], by rw [List.length_append, List.length_singleton]; omega, fun x hx => ?_⟩
          rcases List.mem_append.mp hx with hx | hx
          · exact hS' x hx
          · rw [List.mem_singleton.mp hx]
            exact ⟨hzm, hc⟩
        obtain ⟨v, hv, vok⟩ := hmv hzm
        rw [hv] at zat
        --have rdE : ∀ (b9 : Bool) (H3 : Hp), Ex H2 H3 → (b9 = true → (∀ p k c q, z.2 = (Mv.cl p k c q).key → P ≠ [])) → ((∀ p k c q, v ≠ .cl p k c q) ∨ ∃ p k c q, v = .cl p k c q) → True := fun _ _ _ _ _ => trivial
        cases v with
        | pl p1 b1 q1 =>
          have hc : ∀ p k c q, z.2 = (Mv.cl p k c q).key → P ≠ [] := fun p k c q e => nomatch (Mv.inj (hv.symm.trans e))
          refine ⟨_, rfl, z.1, _, _, _, rfl, rfl, st_of zat, rfl, rfl, _, rfl, iteF ?_⟩
          refine ⟨_, rfl, z.1, _, _, _, rfl, rfl, st_of zat, rfl, _, rfl, rfl, _, rfl, ite2 (fun _ => ?_) (fun _ => iteF (skip _ _ (Ex.refl _)))⟩
          refine ⟨_, rfl, _, rfl, iteF ⟨_, rfl, z.1, _, _, _, rfl, rfl, st_of zat, rfl, rfl, _, rfl, iteT ⟨_, rfl, _, rfl, _, _, rfl, rfl, _, rfl, ite2 (fun _ => ?_) (fun _ => skip _ _ (Ex.refl _))⟩⟩⟩
          obtain ⟨g1, g2, g3⟩ := app hc (some (.bl false)) _ (Ex.refl _)
          exact ⟨_, rfl, .inl ⟨rfl, _, sq_of g1⟩, _, rfl, a7, _, _, rfl, rfl, g1, g2, g3⟩
        | op p1 b1 m1 q1 =>
          have hc : ∀ p k c q, z.2 = (Mv.cl p k c q).key → P ≠ [] := fun p k c q e => nomatch (Mv.inj (hv.symm.trans e))
          refine ⟨_, rfl, z.1, _, _, _, rfl, rfl, st_of zat, rfl, rfl, _, rfl, iteF ?_⟩
          refine ⟨_, rfl, z.1, _, _, _, rfl, rfl, st_of zat, rfl, _, rfl, rfl, _, rfl, ite2 (fun _ => ?_) (fun _ => iteF (skip _ _ (Ex.refl _)))⟩
          refine ⟨_, rfl, _, rfl, iteF ⟨_, rfl, z.1, _, _, _, rfl, rfl, st_of zat, rfl, rfl, _, rfl, iteT ⟨_, rfl, _, rfl, _, _, rfl, rfl, _, rfl, ite2 (fun _ => ?_) (fun _ => skip _ _ (Ex.refl _))⟩⟩⟩
          obtain ⟨g1, g2, g3⟩ := app hc (some (.bl false)) _ (Ex.refl _)
          exact ⟨_, rfl, .inl ⟨rfl, _, sq_of g1⟩, _, rfl, a7, _, _, rfl, rfl, g1, g2, g3⟩
        | cl p1 m1 b1 q1 =>
          refine ⟨_, rfl, z.1, _, _, _, rfl, rfl, st_of zat, rfl, rfl, _, rfl, iteT ?_⟩
          refine ⟨_, rfl, _, rfl, _, rfl, a4, _, rfl, sq_of h42, fun a8 n8 => ?_⟩
          rw [cutV_nat]
          have x8 := Ex.new (o := .lst ((cutN P (some (-1)) none).map nV)) n8
          refine ⟨_, rfl, z.1, _, _, _, rfl, rfl, st_of (x8 _ _ zat), rfl, (by show 1 ≤ sizeLine; decide), fun a9 n9 => ?_⟩
          have x9 := x8.trans (Ex.new (o := .lst [nV m1]) n9)
          refine ⟨.list ((cutN P (some (-1)) none).map nD), .list [nD m1], .lst (sq_of ((Ex.new n9) _ _ upd_same)) (dpNats _), .lst (sq_of upd_same) (dpNats [m1]), shapedN _, shapedN [m1], ?_⟩
          have hend : PyData.eqv (.list ((cutN P (some (-1)) none).map nD)) (.list [nD m1]) = true → (∀ p k c q, z.2 = (Mv.cl p k c q).key → P ≠ []) := fun h _ _ _ _ _ e => by
            rw [e] at h
            cases h
          generalize PyData.eqv (.list ((cutN P (some (-1)) none).map nD)) (.list [nD m1]) = bE at hend
          have zat9 := x9 _ _ zat
          refine ⟨_, rfl, z.1, _, _, _, rfl, rfl, st_of zat9, rfl, _, rfl, rfl, _, rfl, ite2 (fun _ => ?_) (fun _ => iteF (skip _ _ x9))⟩
          refine ⟨_, rfl, _, rfl, ?_⟩
          cases bE with
          | true =>
            refine iteT (iteT ?_)
            obtain ⟨g1, g2, g3⟩ := app (hend rfl) (some (.bl true)) _ x9
            exact ⟨_, rfl, .inl ⟨rfl, _, sq_of g1⟩, _, rfl, a7, _, _, rfl, rfl, g1, g2, g3⟩
          | false =>
            exact iteF ⟨_, rfl, z.1, _, _, _, rfl, rfl, st_of zat9, rfl, rfl, _, rfl, iteF (iteF (skip _ _ x9))⟩
      · rintro σ H2 ⟨S, y8, y9, rfl, k2, hP2, h42, h52, h7, sl, hS'⟩
        refine ⟨_, rfl, Nat.zero_le _, fun z0 nz0 => ?_⟩
        have x0 := Ex.new (o := .lst []) nz0
        have k3 := k2.trans (Keep.ofEx (p := p) x0)
        have hP3 := hP2.ex x0
        refine ⟨.list ((keys S).map kD), .list [], .lst (sq_of (x0 _ _ h7)) (dpRows S fun x hx => hat (hS' x hx).1 k3), .lst (sq_of upd_same) .nil, shapedK fun k hk => ?_, shaped0, _, rfl, ?_⟩
        · obtain ⟨x, hx, rfl⟩ := List.mem_map.mp hk
          exact okMvK hS (hO.mvk x (hS' x hx).1)
        replace h42 := x0 _ _ h42
        replace h52 := x0 _ _ h52
        replace h7 := x0 _ _ h7
        generalize upd H2 z0 (.lst []) = H3 at k3 hP3 h42 h52 h7
        rw [eqv_nilL]
        cases hSS : S with
        | nil =>
          refine iteF ⟨r, P, ks, _, _, _, _, rfl, k3, hP3, h42, h52, hks, by omega, by omega, hb⟩
        | cons s1 S1 =>
          refine iteT ?_
          have sl0 : 0 < S.length := by rw [hSS]; exact Nat.succ_pos _
          have sl6 : S.length ≤ 600 := by
            have h1 := hO.ml
            rw [List.length_map] at sl
            omega
          refine ⟨_, rfl, .inl ⟨rfl, _, sq_of h52⟩, _, rfl, _, rfl, _, rfl, _, _, rfl, .inl (sq_of h7), p, c, ns, _, rfl, ?_, ?_, hP3, fun u H4 hu k4' hP4 => ?_⟩
          · rw [List.length_map]; omega
          · rw [List.length_map]; omega
          rw [List.length_map] at hu
          have hux : S[u]? = some S[u] := List.getElem?_eq_getElem (by omega)
          generalize S[u] = x at hux
          obtain ⟨xm, xc⟩ := hS' x (List.mem_of_getElem? hux)
          replace h42 := k4' _ _ a4p h42
          replace h52 := k4' _ _ a5p h52
          replace h7 := k4' _ _ a7p h7
          replace k3 := k3.trans k4'
          refine ⟨a7, _, _, _, rfl, rfl, sq_of h7, atI_nat (by rw [List.getElem?_map, hux]; rfl), a5, _, _, rfl, rfl, h52, by rw [List.length_map]; exact sz_lt (by omega), ?_⟩
          have xat := hat xm (k3.new (o := .lst (refs ks ++ [V.ref x.1])) n5H)
          obtain ⟨v, hv, vok⟩ := hmv xm
          have hltr : ltrK x.2 = v.ltr := by rw [hv, ltrK_key]
          rw [hv] at xat
          have k5 := k3.new (o := .lst (refs ks ++ [V.ref x.1])) n5H
          have hP5 := hP4.new (o := .lst (refs ks ++ [V.ref x.1])) a5p.symm a5c.symm
          have h45 : upd H4 a5 (.lst (refs ks ++ [V.ref x.1])) a4 = some (.lst (P.map nV)) := by rw [upd_ne a45]; exact h42
          have h55 : upd H4 a5 (.lst (refs ks ++ [V.ref x.1])) a5 = some (.lst (refs ks ++ [V.ref x.1])) := upd_same
          generalize upd H4 a5 (.lst (refs ks ++ [V.ref x.1])) = H5 at xat k5 hP5 h45 h55
          have hks' : ∀ y ∈ ks ++ [x], y ∈ mv := fun y hy => by
            rcases List.mem_append.mp hy with hy | hy
            · exact hks y hy
            · rw [List.mem_singleton.mp hy]; exact xm
          have kl' : (ks ++ [x]).length ≤ i + 1 := by rw [List.length_append, List.length_singleton]; omega
          have hbal : bal os qs (ltrs (ks ++ [x])) 0 = bal os qs [v.ltr] P.length := by rw [ltrs_snoc, bal_app, hb, hltr]; rfl
          refine ⟨_, rfl, _, rfl, a5, _, _, _, rfl, rfl, sq_of h55, atI_last _ _, _, rfl, x.1, _, _, _, rfl, rfl, st_of xat, key_to v, ?_⟩
          cases v with
          | pl p1 b1 q1 =>
            refine ⟨_, rfl, _, rfl, a5, _, _, _, rfl, rfl, sq_of h55, atI_last _ _, x.1, _, _, _, rfl, rfl, st_of xat, rfl, rfl, _, rfl, iteF ?_⟩
            refine ⟨_, rfl, _, rfl, a5, _, _, _, rfl, rfl, sq_of h55, atI_last _ _, x.1, _, _, _, rfl, rfl, st_of xat, rfl, rfl, _, rfl, iteF ?_⟩
            exact ⟨q1, P, ks ++ [x], _, _, _, _, rfl, k5, hP5, h45, by rw [h55, refs_snoc], hks', kl', by omega, hbal.trans (bal_one_pl hS vok.2.2 _)⟩
          | op p1 b1 m1 q1 =>
            refine ⟨_, rfl, _, rfl, a5, _, _, _, rfl, rfl, sq_of h55, atI_last _ _, x.1, _, _, _, rfl, rfl, st_of xat, rfl, rfl, _, rfl, iteT ?_⟩
            refine ⟨_, rfl, .inl ⟨rfl, _, sq_of h45⟩, _, rfl, _, rfl, a5, _, _, _, rfl, rfl, sq_of h55, atI_last _ _, x.1, _, _, _, rfl, rfl, st_of xat, rfl, a4, _, _, rfl, rfl, h45, by rw [List.length_map]; exact sz_lt (by omega), ?_⟩
            have k6 := k5.new (o := .lst (P.map nV ++ [nV m1])) n4H
            have xat6 := hat xm k6
            rw [hv] at xat6
            have h56 : upd H5 a4 (.lst (P.map nV ++ [nV m1])) a5 = some (.lst (refs ks ++ [V.ref x.1])) := by rw [upd_ne a45.symm]; exact h55
            refine ⟨_, rfl, _, rfl, a5, _, _, _, rfl, rfl, sq_of h56, atI_last _ _, x.1, _, _, _, rfl, rfl, st_of xat6, rfl, rfl, _, rfl, iteF ?_⟩
            exact ⟨q1, P ++ [m1], ks ++ [x], _, _, _, _, rfl, k6, hP5.new a4p.symm a4c.symm, by rw [List.map_append]; exact upd_same, by rw [← refs_snoc]; exact h56, hks', kl', by rw [List.length_append, List.length_singleton]; omega, by rw [hbal, List.length_append]; exact bal_one_op vok.2.2.2 _⟩
          | cl p1 m1 b1 q1 =>
            refine ⟨_, rfl, _, rfl, a5, _, _, _, rfl, rfl, sq_of h55, atI_last _ _, x.1, _, _, _, rfl, rfl, st_of xat, rfl, rfl, _, rfl, iteF ?_⟩
            refine ⟨_, rfl, _, rfl, a5, _, _, _, rfl, rfl, sq_of h55, atI_last _ _, x.1, _, _, _, rfl, rfl, st_of xat, rfl, rfl, _, rfl, iteT ?_⟩
            have hPne := xc p1 m1 b1 q1 hv
            obtain ⟨P0, pz, hPz⟩ : ∃ P0 pz, P = P0 ++ [pz] := by
              rcases List.eq_nil_or_concat P with z | ⟨ys, y, z⟩
              · exact absurd z hPne
              · exact ⟨ys, y, z.trans List.concat_eq_append⟩
            subst hPz
            rw [List.map_append] at h45
            refine ⟨_, rfl, .inl ⟨rfl, _, sq_of h45⟩, a4, _, nV pz, rfl, rfl, h45, ?_, ?_⟩
            · rw [List.length_append, List.length_map]
              show (P0.map nV ++ [nV pz])[P0.length + 1 - 1]? = _
              rw [Nat.add_sub_cancel, List.getElem?_append_right (by rw [List.length_map]; exact Nat.le_refl _), List.length_map, Nat.sub_self]
              rfl
            · rw [show (P0.map nV ++ [pz].map nV).dropLast = P0.map nV from List.dropLast_concat]
              have h56 : upd H5 a4 (.lst (P0.map nV)) a5 = some (.lst (refs ks ++ [V.ref x.1])) := by rw [upd_ne a45.symm]; exact h55
              rw [List.length_append, List.length_singleton] at pl hbal
              exact ⟨q1, P0, ks ++ [x], _, _, _, _, rfl, k5.new n4H, hP5.new a4p.symm a4c.symm, upd_same, by rw [← refs_snoc]; exact h56, hks', kl', by omega, hbal.trans (bal_one_cl hS vok.2.2.2 _)⟩
    · rintro σ H' ⟨r, P, ks, y6, y7, y8, y9, rfl, kH, hPt, h4, h5, hks, kl, pl, hb⟩
      refine ⟨_, rfl, Nat.zero_le _, fun z0 nz0 => ?_⟩
      have x0 := Ex.new (o := .lst []) nz0
      have k3 := kH.trans (Keep.ofEx (p := p) x0)
      have hP3 := hPt.ex x0
      refine ⟨.list (P.map nD), .list [], .lst (sq_of (x0 _ _ h4)) (dpNats P), .lst (sq_of upd_same) .nil, shapedN P, shaped0, _, rfl, ?_⟩
      replace h4 := x0 _ _ h4
      replace h5 := x0 _ _ h5
      generalize upd H' z0 (.lst []) = H3 at k3 hP3 h4 h5
      rw [eqv_nilL]
      have potn : ∀ {H6 : Hp} {b : Addr}, Pot p c ns H6 → H6 b = none → b ≠ p := fun {H6 b} hp hb z => by
        obtain ⟨_, _, _, h1, _⟩ := hp
        rw [z, h1] at hb
        cases hb
      cases hPP : P with
      | cons _ _ =>
        refine iteT ⟨Nat.zero_le _, fun w1 nw1 => ⟨Nat.zero_le _, fun w2 nw2 => ⟨(by show 2 ≤ sizeLine; decide), fun rr nrr => ?_⟩⟩⟩
        have y1 := Ex.new (o := .lst []) nw1
        have y2 := Ex.new (o := .lst []) nw2
        have y3 := Ex.new (o := .tup [.ref w1, .ref w2]) nrr
        have e13 := (y1.trans y2).trans y3
        exact q rr w1 w2 [] [] _ upd_same ((y2.trans y3) _ _ upd_same) (y3 _ _ upd_same) (k3.fresh (potn hP3 nw1) nw1) ((k3.trans (Keep.ofEx y1)).fresh (potn (hP3.ex y1) nw2) nw2) (fun x hx => (List.not_mem_nil hx).elim) (fun x hx => (List.not_mem_nil hx).elim) (Nat.zero_le _) (Nat.zero_le _) rfl (k3.trans (Keep.ofEx e13)) (hP3.ex e13)
      | nil =>
        rw [hPP] at hb
        refine iteF ?_
        have ll : (ltrs ks).length = ks.length := List.length_map _
        show tTup (tCons (tLc (iList K (tVar 5)) (gName 8) tYes (tLtr K 8) [8]) (tCons (tVar 5) tNil)) [some (.ref p), some (.ref t), some (.int (most : Int)), some (nV r), some (.ref a4), some (.ref a5), y6, y7, y8, y9] H3 Q
        unfold tTup tCons
        refine (el_lcL (K := K) (te := tLtr K 8) (t := tYes) (j := 8) (vs := [8]) (σ := [some (.ref p), some (.ref t), some (.int (most : Int)), some (nV r), some (.ref a4), some (.ref a5), y6, y7, y8, y9]) (fun _ => true) (fun i => V.str ((ltrs ks).getD i "")) (ev_var (i := 5) rfl) (sq_of h5) (by rw [List.length_map]; omega) (fun x => rfl) (fun i x H1 e1 hx => ev_yes) (fun i x H1 e1 hx _ => ?_)) H3 (Ex.refl _) _ fun wd H4 nwd e4 hwd => ?_
        · rw [List.getElem?_map] at hx
          obtain ⟨z, hz, rfl⟩ := Option.map_eq_some_iff.mp hx
          have zm := hks z (List.mem_of_getElem? hz)
          obtain ⟨v, hv, _⟩ := hmv zm
          have hg : (ltrs ks).getD i "" = v.ltr := by
            unfold ltrs
            rw [List.getD_eq_getElem?_getD, List.getElem?_map, hz]
            show ltrK z.2 = v.ltr
            rw [hv, ltrK_key]
          rw [hg]
          exact fun H2 e2 Q2 q2 => ltr_rd (K := K) (v := v) rfl (hv ▸ hat zm ((k3.trans (Keep.ofEx e1)).trans (Keep.ofEx e2))) (q2 H2 (Ex.refl _))
        · rw [List.length_map, ← ll, given_yes] at hwd
          refine ⟨_, rfl, (by show 2 ≤ sizeLine; decide), fun rr nrr => ?_⟩
          have y3 := Ex.new (o := .tup [.ref wd, .ref a5]) nrr
          have e13 := e4.trans y3
          refine q rr wd a5 (ltrs ks) ks _ upd_same (y3 _ _ hwd) (e13 _ _ h5) (k3.fresh (potn hP3 nwd) nwd) n5H hks (fun x hx => ?_) (by omega) (by omega) hb (k3.trans (Keep.ofEx e13)) (hP3.ex e13)
          obtain ⟨z, hz, rfl⟩ := List.mem_map.mp hx
          obtain ⟨v, hv, vok⟩ := hmv (hks z hz)
          rw [hv, ltrK_key]
          cases v with
          | pl _ _ _ => exact List.mem_append_left _ (List.mem_append_right _ vok.2.2)
          | op _ _ _ _ => exact List.mem_append_left _ (List.mem_append_left _ vok.2.2.2)
          | cl _ _ _ _ => exact List.mem_append_right _ vok.2.2.2
end
end Eh
set_option Elab.async false
set_option linter.all false
set_option maxRecDepth 100000
set_option maxHeartbeats 4000000
namespace Eh
open PySem PySem.Spec PyProof.Rows L2 Evl Ms GxR Gx
def Mv.kind : Mv → Kd
  | .pl _ _ _ => .pl
  | .op _ _ _ _ => .op
  | .cl _ _ _ _ => .cl
theorem kf_mv {os ls qs W : List Str} {n m i : Nat} {v : Mv} (hS : Sht os ls qs) (ok : v.Ok os ls qs n m) (hw : W[i]? = some v.ltr) : kfOf os qs W i = v.kind := by
  rw [kfOf_at hw, Mv.kd hS ok]
  cases v <;> rfl
theorem mkAt_lt {ms : List Mv} {v : Mv} {a : Nat} (h : a < ms.length) : mkAt (ms ++ [v]) a = mkAt ms a := by
  unfold mkAt
  rw [List.getElem?_append_left h]
theorem mkAt_len (ms : List Mv) (v : Mv) : mkAt (ms ++ [v]) ms.length = v.mark := by
  unfold mkAt
  rw [List.getElem?_append_right (Nat.le_refl _), Nat.sub_self]
  rfl
theorem mkAt_take {ms : List Mv} {a i : Nat} (h : a < i) : mkAt (ms.take i) a = mkAt ms a := by
  unfold mkAt
  rw [List.getElem?_take_of_lt h]
structure WS (os qs : List Str) (M : List (List Key)) (F : List Nat) (W : List Str) (ks : List (List Key)) (i : Nat) (ms : List Mv) : Prop where
  len : ms.length = i
  ky : ks.take i = ms.map Mv.key
  inM : ∀ v ∈ ms, v.key ∈ M
  ltr : ms.map Mv.ltr = W.take i
  fst : ∀ v, ms[0]? = some v → v.frm ∈ F
  chn : ∀ (j : Nat) v u, ms[j]? = some v → ms[j + 1]? = some u → v.to = u.frm
  kept : ∀ a b, tv (run (kfOf os qs W) W.length i).1 a = some b → a < b → mkAt ms a = mkAt ms b
def pileOf (os qs W : List Str) (i : Nat) (ms : List Mv) : List Nat := (run (kfOf os qs W) W.length i).2.reverse.map (mkAt ms)
def roomV (ms : List Mv) : V := match ms[ms.length - 1]? with
  | none => .non
  | some v => nV v.to
theorem roomV_snoc (ms : List Mv) (v : Mv) : roomV (ms ++ [v]) = nV v.to := by
  unfold roomV
  rw [List.length_append, List.length_singleton, Nat.add_sub_cancel, List.getElem?_append_right (Nat.le_refl _), Nat.sub_self]
  rfl
section
variable {os ls qs W : List Str} {n m i : Nat} {M : List (List Key)} {F L : List Nat} {ks : List (List Key)} {ms : List Mv} {v : Mv}
theorem WS.zero : WS os qs M F W ks 0 [] := by
  refine ⟨rfl, rfl, fun v hv => (List.not_mem_nil hv).elim, rfl, fun v hv => ?_, fun j v u hv => ?_, fun a b h => ?_⟩
  · cases hv
  · cases hv
  · rw [show (run (kfOf os qs W) W.length 0).1 = List.replicate W.length none from rfl, tv_rep] at h
    cases h
theorem WS.step (h : WS os qs M F W ks i ms) (hi : i < W.length) (hk : ks[i]? = some v.key) (hM : v.key ∈ M) (hw : W[i]? = some v.ltr) (hkf : kfOf os qs W i = v.kind)
    (hroom : (ms = [] → v.frm ∈ F) ∧ ∀ u, ms[ms.length - 1]? = some u → u.to = v.frm) (hcl : v.kind = .cl → ∀ b r, (run (kfOf os qs W) W.length i).2 = b :: r → mkAt ms b = v.mark) : WS os qs M F W ks (i + 1) (ms ++ [v]) := by
  have hl := h.len
  have G := good_run (kfOf os qs W) W.length i (by omega)
  refine ⟨by rw [List.length_append, hl]; rfl, ?_, fun u hu => ?_, ?_, fun u hu => ?_, fun j a b ha hb => ?_, fun a b hab lt => ?_⟩
  · rw [List.take_succ, h.ky, hk, List.map_append]
    rfl
  · rcases List.mem_append.mp hu with hu | hu
    · exact h.inM u hu
    · rw [List.mem_singleton.mp hu]
      exact hM
  · rw [List.take_succ, ← h.ltr, hw, List.map_append]
    rfl
  · by_cases h0 : ms = []
    · rw [h0] at hu
      cases hu
      exact hroom.1 h0
    · rw [List.getElem?_append_left (List.length_pos_iff.mpr h0)] at hu
      exact h.fst u hu
  · have hb' := (List.getElem?_eq_some_iff.mp hb).1
    rw [List.length_append, List.length_singleton] at hb'
    by_cases hj : j + 1 < ms.length
    · rw [List.getElem?_append_left (by omega)] at ha hb
      exact h.chn j a b ha hb
    · have ej : j + 1 = ms.length := by omega
      rw [ej, List.getElem?_append_right (Nat.le_refl _), Nat.sub_self] at hb
      cases hb
      rw [List.getElem?_append_left (by omega)] at ha
      exact hroom.2 a (by rw [← ej]; exact ha)
  · have old : ∀ a b, tv (run (kfOf os qs W) W.length i).1 a = some b → a < b → mkAt (ms ++ [v]) a = mkAt (ms ++ [v]) b := fun a b hab lt => by
      obtain ⟨h1, h2, _⟩ := G.pr a b hab
      rw [mkAt_lt (by omega), mkAt_lt (by omega)]
      exact h.kept a b hab lt
    rw [show run (kfOf os qs W) W.length (i + 1) = Eh.step (kfOf os qs W) i (run (kfOf os qs W) W.length i) from rfl] at hab
    unfold Eh.step at hab
    rw [hkf] at hab
    cases v with
    | pl p x q => exact old a b hab lt
    | op p x k q => exact old a b hab lt
    | cl p k x q =>
      have hc := hcl rfl
      revert hab hc G
      generalize run (kfOf os qs W) W.length i = S at old ⊢
      obtain ⟨t, st⟩ := S
      intro G hab hc
      cases st with
      | nil => exact old a b hab lt
      | cons b0 r =>
        have hbd := G.bd b0 (List.mem_cons_self ..)
        have hln : t.length = W.length := G.len
        replace hab : tv ((t.set b0 (some i)).set i (some b0)) a = some b := hab
        rw [tv_set2 (by omega) (by omega)] at hab
        by_cases e1 : a = i
        · rw [if_pos e1] at hab
          cases hab
          omega
        · rw [if_neg e1] at hab
          by_cases e2 : a = b0
          · rw [if_pos e2] at hab
            cases hab
            rw [e2, mkAt_lt (by omega), hc b0 r rfl, ← hl, mkAt_len]
          · rw [if_neg e2] at hab
            exact old a b hab lt
theorem pile_op (hl : ms.length = i) (hi : i ≤ W.length) (hk : kfOf os qs W i = .op) : pileOf os qs W (i + 1) (ms ++ [v]) = pileOf os qs W i ms ++ [v.mark] := by
  have G := good_run (kfOf os qs W) W.length i hi
  unfold pileOf
  rw [show run (kfOf os qs W) W.length (i + 1) = Eh.step (kfOf os qs W) i (run (kfOf os qs W) W.length i) from rfl]
  unfold Eh.step
  rw [hk]
  show (i :: (run (kfOf os qs W) W.length i).2).reverse.map (mkAt (ms ++ [v])) = _
  rw [List.reverse_cons, List.map_append]
  congr 1
  · refine List.map_congr_left fun b hb => mkAt_lt ?_
    have := (G.bd b (List.mem_reverse.mp hb)).1
    omega
  · show [mkAt (ms ++ [v]) i] = [v.mark]
    rw [← hl, mkAt_len]
theorem pile_pl (hl : ms.length = i) (hi : i ≤ W.length) (hk : kfOf os qs W i = .pl) : pileOf os qs W (i + 1) (ms ++ [v]) = pileOf os qs W i ms := by
  have G := good_run (kfOf os qs W) W.length i hi
  unfold pileOf
  rw [show run (kfOf os qs W) W.length (i + 1) = Eh.step (kfOf os qs W) i (run (kfOf os qs W) W.length i) from rfl]
  unfold Eh.step
  rw [hk]
  refine List.map_congr_left fun b hb => mkAt_lt ?_
  have := (G.bd b (List.mem_reverse.mp hb)).1
  omega
/-- at a close letter of a shut word the pile holds something -/
theorem pile_cl (hb : bal os qs W 0 = some 0) (hl : ms.length = i) (hi : i < W.length) (hk : kfOf os qs W i = .cl) : ∃ b r, (run (kfOf os qs W) W.length i).2 = b :: r ∧ b < i ∧ pileOf os qs W i ms = r.reverse.map (mkAt ms) ++ [mkAt ms b] ∧ pileOf os qs W (i + 1) (ms ++ [v]) = r.reverse.map (mkAt ms) ∧ tv (ansOf os qs W) b = some i := by
  have G := good_run (kfOf os qs W) W.length i (by omega)
  have h1 := bal_take hb i (by omega)
  have h2 := bal_take hb (i + 1) hi
  cases hs : (run (kfOf os qs W) W.length i).2 with
  | nil =>
    rw [hs] at h1
    have e1 : W.take (i + 1) = W.take i ++ [W[i]] := by rw [List.take_succ, List.getElem?_eq_getElem hi]; rfl
    rw [e1, bal_app, h1] at h2
    rw [kfOf_at (List.getElem?_eq_getElem hi)] at hk
    replace h2 : bal os qs [W[i]] 0 = _ := h2
    unfold bal at h2
    rw [hk] at h2
    cases h2
  | cons b r =>
    have hbd := G.bd b (by rw [hs]; exact List.mem_cons_self ..)
    have hln := G.len
    have hst : run (kfOf os qs W) W.length (i + 1) = (((run (kfOf os qs W) W.length i).1.set b (some i)).set i (some b), r) := by
      show Eh.step (kfOf os qs W) i (run (kfOf os qs W) W.length i) = _
      unfold Eh.step
      rw [hk, hs]
    refine ⟨b, r, rfl, hbd.1, ?_, ?_, ?_⟩
    · unfold pileOf
      rw [hs, List.reverse_cons, List.map_append]
      rfl
    · unfold pileOf
      rw [hst]
      refine List.map_congr_left fun x hx => mkAt_lt ?_
      have := (G.bd x (by rw [hs]; exact List.mem_cons_of_mem _ (List.mem_reverse.mp hx))).1
      omega
    · have lt := (run_later (kfOf os qs W) W.length (i + 1) b (W.length - (i + 1)) (by omega)).1 i (by rw [hst]; show tv (((run (kfOf os qs W) W.length i).1.set b (some i)).set i (some b)) b = _; rw [tv_set2 (by omega) (by omega), if_neg (by omega), if_pos rfl])
      rw [show i + 1 + (W.length - (i + 1)) = W.length by omega] at lt
      exact lt
theorem keptB_iff {t : List (Option Nat)} (hl : t.length = ms.length) : keptB ms t = true ↔ ∀ a b, tv t a = some b → a < b → mkAt ms a = mkAt ms b := by
  unfold keptB
  rw [List.all_eq_true]
  constructor
  · intro h a b hab lt
    have ha : a < ms.length := by
      rcases Nat.lt_or_ge a t.length with z | z
      · omega
      · unfold tv at hab
        rw [List.getD_eq_getElem?_getD, List.getElem?_eq_none z] at hab
        cases hab
    have := h a (List.mem_range.mpr ha)
    unfold keptAt begB at this
    rw [hab] at this
    replace this : (!(decide (a < b) && !decide (mkAt ms a = mkAt ms b))) = true := this
    rw [decide_eq_true lt, Bool.true_and, Bool.not_not] at this
    exact of_decide_eq_true this
  · intro h a ha
    unfold keptAt begB
    cases hz : tv t a with
    | none => rfl
    | some b =>
      show (!(decide (a < b) && !decide (mkAt ms a = mkAt ms b))) = true
      by_cases lt : a < b
      · rw [decide_eq_true (h a b hz lt), Bool.not_true, Bool.and_false]
        rfl
      · rw [decide_eq_false lt]
        rfl
theorem WS.walk (h : WS os qs M F W ks W.length ms) (hkl : ks.length = W.length) (hw : W ≠ []) : WalkP os qs M F L W ms ↔ ∀ u, ms[ms.length - 1]? = some u → u.to ∈ L := by
  have hl := h.len
  refine ⟨fun p => p.lst, fun p => ⟨h.inM, by rw [h.ltr, List.take_length], fun z => ?_, h.fst, p, h.chn, ?_⟩⟩
  · rw [z] at hl
    exact absurd (List.eq_nil_of_length_eq_zero hl.symm) hw
  · rw [keptB_iff (by rw [ansOf_len', hl])]
    exact h.kept
theorem WS.det (h : WS os qs M F W ks i ms) {ms' : List Mv} (e : ks = ms'.map Mv.key) : ms'.take i = ms := by
  have := h.ky
  rw [e, ← List.map_take] at this
  exact keys_inj this
theorem get_det {ms' : List Mv} (e : ks = ms'.map Mv.key) (hk : ks[i]? = some v.key) : ms'[i]? = some v := by
  rw [e, List.getElem?_map] at hk
  obtain ⟨u, hu, hv⟩ := Option.map_eq_some_iff.mp hk
  rw [hu, Mv.inj hv]
end
end Eh
set_option Elab.async false
set_option linter.all false
set_option maxRecDepth 100000
set_option maxHeartbeats 4000000
namespace Eh
open PySem PySem.Spec PyProof.Rows L2 Evl Ms GxR Gx
abbrev nLawIsWalk : List Str := ["machine", "word", "moves", "room", "pile", "move", "letter", "p"]
theorem scLawIsWalk : FnScope nLawIsWalk ["machine", "word", "moves"] (defScope sLawIsWalk) := ⟨rfl, rfl, rfl, by decide +kernel, rfl, by decide +kernel, by decide +kernel⟩
theorem el_lcT {K : PySem.W.Frag} {σ : L2.St} {H : Hp} {t : TT} {te : TE} {a : Addr} {xs : List V} {tl : TE} {j : Nat} {vs : List Nat} (f : Nat → Bool) (v : Nat → V) (h : Ev tl σ H (.ref a)) (hx : SqT K H a xs) (hz : xs.length ≤ 40000) (hw : ∀ x, wipe ((wipe σ vs).set j (some x)) vs = wipe σ vs)
    (ht : ∀ (i : Nat) (x : V) H1, Ex H H1 → xs[i]? = some x → EvT t ((wipe σ vs).set j (some x)) H1 (f i)) (he : ∀ (i : Nat) (x : V) H1, Ex H H1 → xs[i]? = some x → f i = true → Ev te ((wipe σ vs).set j (some x)) H1 (v i)) :
    EvL (tLc (iTup K tl) (gName j) t te vs) σ H (given xs.length f v) := fun H0 e Q q => h H0 e _ fun H1 e1 => ⟨a, rfl, ⟨xs, ex_t (e.trans e1) hx⟩, fun Dl hD =>
  lc_tup (xs := xs) (Cw H1 f v Dl) ⟨hD, Ex.new hD, upd_same⟩ (fun i H' _ p => ex_t ((e.trans e1).trans p.2.1) hx) (fun i x H' hi p => ⟨hw x, cw_turn p (by have := (List.getElem?_eq_some_iff.mp hi).1; omega) (ht i x H1 (e.trans e1) hi) (fun hf => he i x H1 (e.trans e1) hi hf)⟩)
    (fun H' p => q Dl H' (fresh_back e1 p.1) (e1.trans p.2.1) p.2.2)⟩
theorem isi_l {K : PySem.W.Frag} {H : Hp} {σ : L2.St} {Q : VK} {i : Nat} {a : Addr} {xs : List V} (hi : σ[i]? = some (some (.ref a))) (h : H a = some (.lst xs)) (q : Q (.bl true) H) : tCB (rIsi K) (tCons (tVar i) (tCons (tC (.ty "list")) tNil)) σ H Q :=
  ⟨_, hi, _, .ty "list", .type "list", .type "list", true, rfl, .ty "list", .base (.lst h), kit_ty (by decide +kernel), q⟩
theorem isi_t {K : PySem.W.Frag} {H : Hp} {σ : L2.St} {Q : VK} {i : Nat} {a : Addr} {xs : List V} (hi : σ[i]? = some (some (.ref a))) (h : H a = some (.tup xs)) (q : Q (.bl true) H) : tCB (rIsi K) (tCons (tVar i) (tCons (tC (.ty "tuple")) tNil)) σ H Q :=
  ⟨_, hi, _, .ty "tuple", .type "tuple", .type "tuple", true, rfl, .ty "tuple", .base (.tup h), kit_ty (by decide +kernel), q⟩
theorem isi_b {K : PySem.W.Frag} {H : Hp} {σ : L2.St} {Q : VK} {i : Nat} {b : Bool} (hi : σ[i]? = some (some (.bl b))) (q : Q (.bl true) H) : tCB (rIsi K) (tCons (tVar i) (tCons (tC (.ty "bool")) tNil)) σ H Q :=
  ⟨_, hi, _, .ty "bool", .type "bool", .type "bool", true, rfl, .ty "bool", .base (.bl b), kit_ty (by decide +kernel), q⟩
section
variable {P : Program} {w : World} {K : PySem.W.Frag} {mg : Str → Option Value} {base : Heap}
def spLIsWalk : Sp := fun vs H Q _ => ∃ (t s wd l : Addr) (os ls qs : List Str) (n m : Nat) (F L : List Nat) (mv ks : List (Addr × List Key)) (W : List Str), vs = [.ref t, .ref wd, .ref l] ∧ MachAt os ls qs H t s n m F L mv ∧ MachOk os ls qs n m F L mv ∧ Sht os ls qs ∧ H wd = some (.lst (W.map V.str)) ∧ (∀ x ∈ W, x ∈ os ++ ls ++ qs) ∧ W.length ≤ 10000 ∧ bal os qs W 0 = some 0 ∧ H l = some (.lst (refs ks)) ∧ MsAt H ks ∧ ∀ b H', Ex H H' → (b = true ↔ IsWalkK os qs (keys mv) F L W (keys ks)) → Q (.bl b) H'
theorem ok_lIsWalk {f : Addr} {fd : FuncData} {k : Nat} (F : Fun K "_law_is_walk" "_law_is_walk" sLawIsWalk f fd) (mlen : mg "len" = none) (mzip : mg "zip" = none) (mint : mg "int" = none) (misinstance : mg "isinstance" = none) (mlist : mg "list" = none) (mtuple : mg "tuple" = none) : FnOk P w K mg base CX0 (k + 1) f fd ["machine", "word", "moves"] spLIsWalk := by
  have nd := scLawIsWalk.nd
  refine F.ok scLawIsWalk (fun vs H Q E h => ?_) (fun cdv A outer s0 H vs Q E hr h => ?_)
  · obtain ⟨t, s, wd, l, os, ls, qs, n, m, F, L, mv, ks, W, rfl, _⟩ := h
    rfl
  · obtain ⟨t, s, wd, l, os, ls, qs, n, m, F, L, mv, ks, W, rfl, hM, hO, hS, hW, hwl, hlen, hbal, hl, hks, q⟩ := h
    refine ⟨_, (pss_cons (ps_if (PW.pt (pw_or (pt_not (pt_val (pe_callB call_isi (by rfl) misinstance (by decide +kernel) (pa_cons (pv 2) (pa_cons (pe_bltn (v := .ty "list") (by rfl) mlist (by decide +kernel) rfl) pa_nil))))) (pw_or1 (pt_cmpR op_ne (pe_callB call_len_seq (by rfl) mlen PySem.boot_len (pa_cons (pv 2) pa_nil)) (pe_callB call_len_seq (by rfl) mlen PySem.boot_len (pa_cons (pv 1) pa_nil)) (nomark _))))) (pss_one (ps_ret pe_bl)) pss_nil)
      (pss_cons (ps_set (i := 3) nd rfl (.inl rfl) pe_non)
      (pss_cons (ps_set (i := 4) nd rfl (.inl rfl) (pe_lst pa_nil))
      (pss_cons (ps_for PassesOwn.never rfl (pi_zip (by rfl) mzip (pa_cons (pv 2) (pa_cons (pv 1) pa_nil))) (pg_tup rfl (pgs_cons (pg_name (i := 5) nd rfl (.inl rfl)) (pgs_cons (pg_name (i := 6) nd rfl (.inl rfl)) pgs_nil))) (pss_cons (ps_if (PW.pt (pw_or (pt_not (pt_val (pe_callB call_isi (by rfl) misinstance (by decide +kernel) (pa_cons (pv 5) (pa_cons (pe_bltn (v := .ty "tuple") (by rfl) mtuple (by decide +kernel) rfl) pa_nil))))) (pw_or1 (pt_cmpR (op_notInM hr.units) (pv 5) (pe_ix ix_tup (pv 0) pe_int (fun _ _ => rfl)) (by rfl))))) (pss_one (ps_ret pe_bl)) pss_nil)
      (pss_cons (ps_if (pt_cmpR op_ne (pe_ix ix_tup (pv 5) (pe_op op_add pe_int (pe_callTy call_int1 (by rfl) mint (by decide +kernel) (pa_cons (pe_cmpR op_eq (pe_ix ix_tup (pv 5) pe_int (fun _ _ => rfl)) pe_str (nomark _)) pa_nil))) (fun _ _ => rfl)) (pv 6) (nomark _)) (pss_one (ps_ret pe_bl)) pss_nil)
      (pss_cons (ps_if (PW.pt (pw_or (PW.pt (pw_and (pt_cmpR op_isN (pv 3) pe_non (nomark _)) (pw_and1 (pt_cmpR op_notIn_seq (pe_ix ix_tup (pv 5) pe_int (fun _ _ => rfl)) (pe_ix ix_tup (pv 0) pe_int (fun _ _ => rfl)) (by rfl))))) (pw_or1 (PW.pt (pw_and (pt_cmpR op_notN (pv 3) pe_non (nomark _)) (pw_and1 (pt_cmpR op_ne (pe_ix ix_tup (pv 5) pe_int (fun _ _ => rfl)) (pv 3) (nomark _)))))))) (pss_one (ps_ret pe_bl)) pss_nil)
      (pss_cons (ps_if (pt_cmpR op_eq (pe_ix ix_tup (pv 5) pe_int (fun _ _ => rfl)) pe_str (nomark _)) (pss_one (ps_expr (pe_bm PySem.F.plainAttrs_list PySem.F.slot_list_append PySem.F.type_list_append mt_append (pv 4) (pa_cons (pe_ix ix_tup (pv 5) pe_int (fun _ _ => rfl)) pa_nil)))) pss_nil)
      (pss_cons (ps_if (PW.pt (pw_and (pt_cmpR op_eq (pe_ix ix_tup (pv 5) pe_int (fun _ _ => rfl)) pe_str (nomark _)) (pw_and1 (pt_cmpR op_ne (pe_bm0 PySem.F.plainAttrs_list PySem.F.slot_list_pop PySem.F.type_list_pop mt_pop (pv 4)) (pe_ix ix_tup (pv 5) pe_int (fun _ _ => rfl)) (nomark _))))) (pss_one (ps_ret pe_bl)) pss_nil)
      (pss_one (ps_set (i := 3) nd rfl (.inl rfl) (pe_ix ix_tup (pv 5) (pe_un un_neg pe_int) (fun _ _ => rfl))))))))))
      (pss_cons (ps_if (pt_cmpR (op_eqD hr.units) (pv 1) (pe_lst pa_nil) (nomark _)) (pss_one (ps_ret (pe_cmpR (op_neD hr.units) (pe_lc (own := [("p", 7)]) (g := gName 7) (tt := (tTest (tOp (rIn K false) (tVar 7) (tOp (rIxT K) (tVar 0) (tC (.int 4)))))) (te := (tVar 7)) rfl nd (pi_tup (pe_ix ix_tup (pv 0) pe_int (fun _ _ => rfl))) (blkOk_by (own := [("p", 7)]) (N := nLawIsWalk) (sc := defScope sLawIsWalk) (by decide +kernel)) (fun _ _ _ _ _ => pg_name (i := 7) nd rfl (.inl rfl)) (fun _ _ _ _ _ => pts_one (pt_cmpR op_in_seq (pv 7) (pe_ix ix_tup (pv 0) pe_int (fun _ _ => rfl)) (by rfl))) (fun _ _ _ _ _ => (pv 7))) (pe_lst pa_nil) (nomark _)))) pss_nil)
      (pss_one (ps_ret (pe_cmpR op_in_seq (pv 3) (pe_ix ix_tup (pv 0) pe_int (fun _ _ => rfl)) (by rfl))))))))), ?_⟩
    obtain ⟨f0, l0, g0, e0, e1, e2, e3⟩ := hM.ex
    have wl : (W.map V.str).length = W.length := List.length_map _
    have rl : (refs ks).length = ks.length := List.length_map _
    have hMv : ∀ x ∈ keys mv, MvK os ls qs n m x := fun x hx => by
      obtain ⟨y, hy, rfl⟩ := List.mem_map.mp hx
      exact hO.mvk y hy
    refine isi_l rfl hl ⟨_, rfl, iteF ?_⟩
    refine ⟨_, rfl, _, _, rfl, .inl (sq_of hl), _, rfl, _, _, rfl, .inl (sq_of hW), rfl, _, rfl, ?_⟩
    rw [rl, wl]
    by_cases hkl : ks.length = W.length
    · rw [hkl, decide_eq_true rfl]
      refine iteF ?_
      refine ⟨Nat.zero_le _, fun a4 n4 => ?_⟩
      have x4 := Ex.new (o := .lst []) n4
      refine ⟨_, rfl, _, rfl, l, wd, _, _, rfl, sq_of (x4 _ _ hl), sq_of (x4 _ _ hW), ?_⟩
      refine RZ.for_zipL (K := K) (xs := refs ks) (ys := W.map V.str) (by rw [rl, wl]; exact hkl) (fun i σ H' => ∃ (ms : List Mv) (y5 y6 : Option V), σ = [some (.ref t), some (.ref wd), some (.ref l), some (roomV ms), some (.ref a4), y5, y6, none] ∧ Ex H H' ∧ H' a4 = some (.lst ((pileOf os qs W i ms).map nV)) ∧ WS os qs (keys mv) F W (keys ks) i ms)
        ⟨[], _, _, rfl, x4, upd_same, WS.zero⟩ (fun i σ H' h => by obtain ⟨_, _, _, _, e, _⟩ := h; exact ⟨sq_of (e _ _ hl), sq_of (e _ _ hW)⟩) ?_ ?_
      · rintro i x y T σ H' hx hy ⟨ms, y5, y6, rfl, eH, h4, ws⟩ nT
        rw [List.getElem?_map] at hx hy
        obtain ⟨z, hz, rfl⟩ := Option.map_eq_some_iff.mp hx
        obtain ⟨u, hu, rfl⟩ := Option.map_eq_some_iff.mp hy
        have hzm := List.mem_of_getElem? hz
        have hi : i < W.length := (List.getElem?_eq_some_iff.mp hu).1
        have xT := eH.trans (Ex.new (o := .tup [V.ref z.1, .str u]) nT)
        replace h4 := (Ex.new (o := .tup [V.ref z.1, .str u]) nT) _ _ h4
        refine ⟨T, _, rfl, st_of upd_same, rfl, _, _, rfl, _, _, rfl, rfl, ?_⟩
        generalize upd H' T (.tup [V.ref z.1, .str u]) = H2 at xT h4
        have zat := xT _ _ (hks z hzm)
        have hkz : (keys ks)[i]? = some z.2 := by rw [List.getElem?_map, hz]; rfl
        have no : (¬ IsWalkK os qs (keys mv) F L W (keys ks)) → ∀ H3, Ex H2 H3 → Q (.bl false) H3 := fun h H3 e => q false H3 (xT.trans e) ⟨fun z => (nomatch z), fun z => absurd z h⟩
        refine isi_t rfl zat ⟨_, rfl, iteF ?_⟩
        refine ⟨_, rfl, _, rfl, t, _, _, _, rfl, rfl, st_of (xT _ _ e0), rfl, z.1, g0, z.2, mv, rfl, rfl, zat, st_of (xT _ _ e3), fun x hx => xT _ _ (hM.at_ x hx), _, rfl, ?_⟩
        show if (!inK z.2 (keys mv)) = true then _ else _
        have pb : (pileOf os qs W i ms).length ≤ 10000 := by
          unfold pileOf
          rw [List.length_map, List.length_reverse]
          have G := good_run (kfOf os qs W) W.length i (by omega)
          have h2 := List.length_filter_le (fun a => decide (a ∈ (run (kfOf os qs W) W.length i).2)) (List.range i)
          have h3 := congrArg List.length (filter_desc i _ G.srt fun b hb => (G.bd b hb).1)
          rw [List.length_reverse] at h3
          rw [List.length_range] at h2
          omega
        have plen : ((pileOf os qs W i ms).map nV).length < sizeLine := by
          rw [List.length_map]
          exact sz_lt (by omega)
        cases hin : inK z.2 (keys mv) with
        | false =>
          refine iteT (no (fun ⟨ms', e, wp⟩ => ?_) _ (Ex.refl _))
          have hm := List.mem_of_getElem? hkz
          rw [e] at hm
          obtain ⟨v', hv', hve⟩ := List.mem_map.mp hm
          have := inK_iff.mpr (wp.inM v' hv')
          rw [hve, hin] at this
          cases this
        | true =>
          refine iteF ?_
          have inM := inK_iff.mp hin
          obtain ⟨v, hv, vok⟩ := Eh.MvK.mv (hMv _ inM)
          have zat0 := hks z hzm
          rw [hv] at zat zat0 hkz inM
          refine ltr_rd (K := K) (v := v) rfl zat ⟨_, rfl, rfl, _, rfl, ?_⟩
          rw [show decide (V.str v.ltr = V.str u) = decide (v.ltr = u) from decide_eq_decide.mpr ⟨fun h => V.str.inj h, fun h => by rw [h]⟩]
          by_cases hlt : v.ltr = u
          · rw [decide_eq_true hlt]
            subst hlt
            refine iteF ?_
            rcases hlast : ms[ms.length - 1]? with _ | u0
            · have hrv : roomV ms = .non := by
                unfold roomV
                rw [hlast]
              have ms0 : ms = [] := by
                rcases Nat.eq_zero_or_pos ms.length with z | z
                · exact List.eq_nil_of_length_eq_zero z
                · rw [List.getElem?_eq_getElem (by omega)] at hlast
                  cases hlast
              rw [hrv]
              refine ⟨_, rfl, rfl, _, rfl, iteT ?_⟩
              refine ⟨_, rfl, z.1, _, _, _, rfl, rfl, st_of zat, key_frm v, _, rfl, t, _, _, _, rfl, rfl, st_of (xT _ _ e0), rfl, f0, _, rfl, .inr (st_of (xT _ _ e1)), rfl, flat_nat F, _, rfl, ?_⟩
              show if (!inV (nV v.frm) (F.map nV)) = true then _ else _
              rw [inV_nat]
              by_cases hf : v.frm ∈ F
              rotate_left
              · rw [decide_eq_false hf]
                refine iteT (iteT (no (fun ⟨ms', e, wp⟩ => ?_) _ (Ex.refl _)))
                have hi0 : i = 0 := by rw [← ws.len, ms0]; rfl
                have := get_det e hkz
                rw [hi0] at this
                exact hf (wp.fst v this)
              rw [decide_eq_true hf]
              refine iteF ⟨_, rfl, rfl, _, rfl, iteF (iteF ?_)⟩
              have hroom : (ms = [] → v.frm ∈ F) ∧ ∀ u, ms[ms.length - 1]? = some u → u.to = v.frm := ⟨fun _ => hf, fun u h => by rw [hlast] at h; cases h⟩
              cases v with
              | pl p1 b1 q1 =>
                have hkf := kf_mv hS vok hu
                refine ⟨_, rfl, z.1, _, _, _, rfl, rfl, st_of zat, rfl, rfl, _, rfl, iteF ?_⟩
                refine ⟨_, rfl, z.1, _, _, _, rfl, rfl, st_of zat, rfl, rfl, _, rfl, iteF (iteF ?_)⟩
                refine ⟨_, rfl, _, rfl, z.1, _, _, _, rfl, rfl, st_of zat, key_to _, ?_⟩
                exact ⟨ms ++ [_], _, _, by rw [roomV_snoc]; rfl, xT, by rw [pile_pl ws.len (by omega) hkf]; exact h4, ws.step hi hkz inM hu hkf hroom (fun z => nomatch z)⟩
              | op p1 b1 m1 q1 =>
                have hkf := kf_mv hS vok hu
                refine ⟨_, rfl, z.1, _, _, _, rfl, rfl, st_of zat, rfl, rfl, _, rfl, iteT ?_⟩
                refine ⟨_, rfl, .inl ⟨rfl, _, sq_of h4⟩, _, rfl, z.1, _, _, _, rfl, rfl, st_of zat, rfl, a4, _, _, rfl, rfl, h4, plen, ?_⟩
                have xU := xT.mut (o := .lst ((pileOf os qs W i ms).map nV ++ [nV m1])) n4
                have zat' := xU _ _ zat0
                refine ⟨_, rfl, z.1, _, _, _, rfl, rfl, st_of zat', rfl, rfl, _, rfl, iteF (iteF ?_)⟩
                refine ⟨_, rfl, _, rfl, z.1, _, _, _, rfl, rfl, st_of zat', key_to _, ?_⟩
                exact ⟨ms ++ [_], _, _, by rw [roomV_snoc]; rfl, xU, by rw [pile_op ws.len (by omega) hkf, List.map_append]; exact upd_same, ws.step hi hkz inM hu hkf hroom (fun z => nomatch z)⟩
              | cl p1 m1 b1 q1 =>
                have hkf := kf_mv hS vok hu
                obtain ⟨b, r, hrun, hbi, hp1, hp2, hans⟩ := pile_cl (v := .cl p1 m1 b1 q1) hbal ws.len hi hkf
                rw [hp1, List.map_append] at h4
                refine ⟨_, rfl, z.1, _, _, _, rfl, rfl, st_of zat, rfl, rfl, _, rfl, iteF ?_⟩
                refine ⟨_, rfl, z.1, _, _, _, rfl, rfl, st_of zat, rfl, rfl, _, rfl, iteT ?_⟩
                refine ⟨_, rfl, .inl ⟨rfl, _, sq_of h4⟩, a4, _, nV (mkAt ms b), rfl, rfl, h4, ?_, ?_⟩
                · rw [List.length_append, List.length_map, List.length_map]
                  show ((r.reverse.map (mkAt ms)).map nV ++ [nV (mkAt ms b)])[r.reverse.length + 1 - 1]? = _
                  rw [Nat.add_sub_cancel, List.getElem?_append_right (by rw [List.length_map, List.length_map]; exact Nat.le_refl _), List.length_map, List.length_map, Nat.sub_self]
                  rfl
                · rw [show ((r.reverse.map (mkAt ms)).map nV ++ [mkAt ms b].map nV).dropLast = (r.reverse.map (mkAt ms)).map nV from List.dropLast_concat]
                  have xU := xT.mut (o := .lst ((r.reverse.map (mkAt ms)).map nV)) n4
                  have zat' := xU _ _ zat0
                  refine ⟨_, rfl, z.1, _, _, _, rfl, rfl, st_of zat', rfl, rfl, _, rfl, ?_⟩
                  rw [show decide (nV (mkAt ms b) = kV (.inl (m1 : Int))) = decide (mkAt ms b = m1) from decide_eq_decide.mpr ⟨fun h => by have := V.int.inj h; omega, fun h => by rw [h]; rfl⟩]
                  by_cases hmk : mkAt ms b = m1
                  · rw [decide_eq_true hmk]
                    refine iteF ⟨_, rfl, _, rfl, z.1, _, _, _, rfl, rfl, st_of zat', key_to _, ?_⟩
                    refine ⟨ms ++ [_], _, _, by rw [roomV_snoc]; rfl, xU, by rw [hp2]; exact upd_same, ws.step hi hkz inM hu hkf hroom (fun _ b' r' h' => ?_)⟩
                    rw [hrun] at h'
                    cases h'
                    exact hmk
                  · rw [decide_eq_false hmk]
                    refine iteT (q false _ xU ⟨fun z => (nomatch z), fun ⟨ms', e, wp⟩ => ?_⟩)
                    have hk' := wp.kept
                    have lm : (ansOf os qs W).length = ms'.length := by rw [ansOf_len', ← wp.ltr, List.length_map]
                    rw [keptB_iff lm] at hk'
                    have h1 := hk' b i hans hbi
                    rw [← mkAt_take hbi, ws.det e] at h1
                    have h2 : mkAt ms' i = m1 := by
                      unfold mkAt
                      rw [get_det e hkz]
                      rfl
                    exact absurd (h1.trans h2) hmk
            · have hrv : roomV ms = nV u0.to := by
                unfold roomV
                rw [hlast]
              have msl : 0 < ms.length := by
                have := (List.getElem?_eq_some_iff.mp hlast).1
                omega
              rw [hrv]
              refine ⟨_, rfl, rfl, _, rfl, iteF ?_⟩
              refine ⟨_, rfl, rfl, _, rfl, iteT ?_⟩
              refine ⟨_, rfl, z.1, _, _, _, rfl, rfl, st_of zat, key_frm v, _, rfl, rfl, _, rfl, ?_⟩
              rw [show decide (nV v.frm = nV u0.to) = decide (v.frm = u0.to) from decide_eq_decide.mpr ⟨fun h => by have := V.int.inj h; omega, fun h => by rw [h]⟩]
              by_cases hf : v.frm = u0.to
              rotate_left
              · rw [decide_eq_false hf]
                refine iteT (no (fun ⟨ms', e, wp⟩ => ?_) _ (Ex.refl _))
                have h1 := get_det e hkz
                have h2 : ms'[i - 1]? = some u0 := by
                  rw [← ws.det e, List.getElem?_take_of_lt (by have := ws.len; rw [ws.det e]; omega)] at hlast
                  rw [ws.det e, ws.len] at hlast
                  exact hlast
                have il := ws.len
                have h3 := wp.chn (i - 1) u0 v h2 (by rw [show i - 1 + 1 = i by omega]; exact h1)
                exact hf h3.symm
              rw [decide_eq_true hf]
              refine iteF ?_
              have hroom : (ms = [] → v.frm ∈ F) ∧ ∀ u, ms[ms.length - 1]? = some u → u.to = v.frm := ⟨fun h => by rw [h] at msl; exact absurd msl (Nat.lt_irrefl _), fun u h => by rw [hlast] at h; cases h; exact hf.symm⟩
              cases v with
              | pl p1 b1 q1 =>
                have hkf := kf_mv hS vok hu
                refine ⟨_, rfl, z.1, _, _, _, rfl, rfl, st_of zat, rfl, rfl, _, rfl, iteF ?_⟩
                refine ⟨_, rfl, z.1, _, _, _, rfl, rfl, st_of zat, rfl, rfl, _, rfl, iteF (iteF ?_)⟩
                refine ⟨_, rfl, _, rfl, z.1, _, _, _, rfl, rfl, st_of zat, key_to _, ?_⟩
                exact ⟨ms ++ [_], _, _, by rw [roomV_snoc]; rfl, xT, by rw [pile_pl ws.len (by omega) hkf]; exact h4, ws.step hi hkz inM hu hkf hroom (fun z => nomatch z)⟩
              | op p1 b1 m1 q1 =>
                have hkf := kf_mv hS vok hu
                refine ⟨_, rfl, z.1, _, _, _, rfl, rfl, st_of zat, rfl, rfl, _, rfl, iteT ?_⟩
                refine ⟨_, rfl, .inl ⟨rfl, _, sq_of h4⟩, _, rfl, z.1, _, _, _, rfl, rfl, st_of zat, rfl, a4, _, _, rfl, rfl, h4, plen, ?_⟩
                have xU := xT.mut (o := .lst ((pileOf os qs W i ms).map nV ++ [nV m1])) n4
                have zat' := xU _ _ zat0
                refine ⟨_, rfl, z.1, _, _, _, rfl, rfl, st_of zat', rfl, rfl, _, rfl, iteF (iteF ?_)⟩
                refine ⟨_, rfl, _, rfl, z.1, _, _, _, rfl, rfl, st_of zat', key_to _, ?_⟩
                exact ⟨ms ++ [_], _, _, by rw [roomV_snoc]; rfl, xU, by rw [pile_op ws.len (by omega) hkf, List.map_append]; exact upd_same, ws.step hi hkz inM hu hkf hroom (fun z => nomatch z)⟩
              | cl p1 m1 b1 q1 =>
                have hkf := kf_mv hS vok hu
                obtain ⟨b, r, hrun, hbi, hp1, hp2, hans⟩ := pile_cl (v := .cl p1 m1 b1 q1) hbal ws.len hi hkf
                rw [hp1, List.map_append] at h4
                refine ⟨_, rfl, z.1, _, _, _, rfl, rfl, st_of zat, rfl, rfl, _, rfl, iteF ?_⟩
                refine ⟨_, rfl, z.1, _, _, _, rfl, rfl, st_of zat, rfl, rfl, _, rfl, iteT ?_⟩
                refine ⟨_, rfl, .inl ⟨rfl, _, sq_of h4⟩, a4, _, nV (mkAt ms b), rfl, rfl, h4, ?_, ?_⟩
                · rw [List.length_append, List.length_map, List.length_map]
                  show ((r.reverse.map (mkAt ms)).map nV ++ [nV (mkAt ms b)])[r.reverse.length + 1 - 1]? = _
                  rw [Nat.add_sub_cancel, List.getElem?_append_right (by rw [List.length_map, List.length_map]; exact Nat.le_refl _), List.length_map, List.length_map, Nat.sub_self]
                  rfl
                · rw [show ((r.reverse.map (mkAt ms)).map nV ++ [mkAt ms b].map nV).dropLast = (r.reverse.map (mkAt ms)).map nV from List.dropLast_concat]
                  have xU := xT.mut (o := .lst ((r.reverse.map (mkAt ms)).map nV)) n4
                  have zat' := xU _ _ zat0
                  refine ⟨_, rfl, z.1, _, _, _, rfl, rfl, st_of zat', rfl, rfl, _, rfl, ?_⟩
                  rw [show decide (nV (mkAt ms b) = kV (.inl (m1 : Int))) = decide (mkAt ms b = m1) from decide_eq_decide.mpr ⟨fun h => by have := V.int.inj h; omega, fun h => by rw [h]; rfl⟩]
                  by_cases hmk : mkAt ms b = m1
                  · rw [decide_eq_true hmk]
                    refine iteF ⟨_, rfl, _, rfl, z.1, _, _, _, rfl, rfl, st_of zat', key_to _, ?_⟩
                    refine ⟨ms ++ [_], _, _, by rw [roomV_snoc]; rfl, xU, by rw [hp2]; exact upd_same, ws.step hi hkz inM hu hkf hroom (fun _ b' r' h' => ?_)⟩
                    rw [hrun] at h'
                    cases h'
                    exact hmk
                  · rw [decide_eq_false hmk]
                    refine iteT (q false _ xU ⟨fun z => (nomatch z), fun ⟨ms', e, wp⟩ => ?_⟩)
                    have hk' := wp.kept
                    have lm : (ansOf os qs W).length = ms'.length := by rw [ansOf_len', ← wp.ltr, List.length_map]
                    rw [keptB_iff lm] at hk'
                    have h1 := hk' b i hans hbi
                    rw [← mkAt_take hbi, ws.det e] at h1
                    have h2 : mkAt ms' i = m1 := by
                      unfold mkAt
                      rw [get_det e hkz]
                      rfl
                    exact absurd (h1.trans h2) hmk
          · rw [decide_eq_false hlt]
            refine iteT (no (fun ⟨ms', e, wp⟩ => ?_) _ (Ex.refl _))
            have h1 := get_det e hkz
            rw [← wp.ltr, List.getElem?_map, h1] at hu
            exact hlt (Option.some.inj hu)
      · rintro σ H' ⟨ms, y5, y6, rfl, eH, h4, ws⟩
        rw [rl, hkl] at ws
        refine ⟨_, rfl, Nat.zero_le _, fun z0 nz0 => ?_⟩
        have x0 := eH.trans (Ex.new (o := .lst []) nz0)
        refine ⟨.list (W.map PyData.str), .list [], .lst (sq_of (x0 _ _ hW)) (dpStrs W), .lst (sq_of upd_same) .nil, shapedL (fun x hx => (hS.lt x (hwl x hx)).1), shaped0, _, rfl, ?_⟩
        generalize upd H' z0 (.lst []) = H2 at x0
        rw [eqv_nilL]
        cases hWW : W with
        | nil =>
          refine iteT ?_
          have w0 : IsWalkK os qs (keys mv) F L W (keys ks) ↔ ∃ p ∈ F, p ∈ L := by
            have hk0 : keys ks = [] := List.eq_nil_of_length_eq_zero (by rw [List.length_map, hkl, hWW]; rfl)
            constructor
            · rintro ⟨ms', e, wp⟩
              rw [hk0] at e
              exact wp.nil (List.map_eq_nil_iff.mp e.symm)
            · intro h
              refine ⟨[], hk0, fun v hv => (List.not_mem_nil hv).elim, hWW.symm, fun _ => h, fun v hv => ?_, fun v hv => ?_, fun i v u hv => ?_, rfl⟩
              · cases hv
              · cases hv
              · cases hv
          show tOp (rNeD K) (tLc (iTup K (tOp (rIxT K) (tVar 0) (tC (.int 3)))) (gName 7) (tTest (tOp (rIn K false) (tVar 7) (tOp (rIxT K) (tVar 0) (tC (.int 4))))) (tVar 7) [7]) (tLst tNil) [some (.ref t), some (.ref wd), some (.ref l), some (roomV ms), some (.ref a4), y5, y6, none] H2 Q
          have fl := hO.fl
          unfold tOp
          refine (el_lcT (K := K) (t := tTest (tOp (rIn K false) (tVar 7) (tOp (rIxT K) (tVar 0) (tC (.int 4))))) (te := tVar 7) (j := 7) (vs := [7]) (xs := F.map nV) (σ := [some (.ref t), some (.ref wd), some (.ref l), some (roomV ms), some (.ref a4), y5, y6, none]) (fun i => decide (F.getD i 0 ∈ L)) (fun i => nV (F.getD i 0)) (ev_op (ev_var (i := 0) rfl) ev_c (rv_ixT (st_of (x0 _ _ e0)) rfl)) (st_of (x0 _ _ e1)) (by rw [List.length_map]; omega) (fun x => rfl) (fun i x H1 e1' hx => ?_) (fun i x H1 e1' hx _ => ?_)) H2 (Ex.refl _) _ fun D H4 nD e4 hD => ?_
          · rw [List.getElem?_map] at hx
            obtain ⟨p, hp, rfl⟩ := Option.map_eq_some_iff.mp hx
            have hg : F.getD i 0 = p := by rw [List.getD_eq_getElem?_getD, hp]; rfl
            rw [hg, ← inV_nat]
            exact et_test (ev_op (ev_var rfl) (ev_op (ev_var rfl) ev_c (rv_ixT (st_of ((x0.trans e1') _ _ e0)) rfl)) (rv_isT (st_of ((x0.trans e1') _ _ e2)) rfl (flat_nat L)))
          · rw [List.getElem?_map] at hx
            obtain ⟨p, hp, rfl⟩ := Option.map_eq_some_iff.mp hx
            have hg : F.getD i 0 = p := by rw [List.getD_eq_getElem?_getD, hp]; rfl
            rw [hg]
            exact ev_var rfl
          · rw [List.length_map, given_map F (fun p => decide (p ∈ L)) nV] at hD
            refine ⟨Nat.zero_le _, fun z1 nz1 => ?_⟩
            have x1 := Ex.new (o := .lst []) nz1
            refine ⟨.list ((F.filter fun p => decide (p ∈ L)).map Eh.nD), .list [], .lst (sq_of (x1 _ _ hD)) (dpNats _), .lst (sq_of upd_same) .nil, shapedN _, shaped0, ?_⟩
            rw [eqv_nilL]
            refine q _ _ ((x0.trans e4).trans x1) (Iff.trans ?_ w0.symm)
            cases hFF : F.filter fun p => decide (p ∈ L) with
            | nil =>
              refine ⟨fun z => (nomatch z), fun ⟨p, hp, hpl⟩ => ?_⟩
              have := List.mem_filter (p := fun p => decide (p ∈ L)) |>.mpr ⟨hp, decide_eq_true hpl⟩
              rw [hFF] at this
              exact (List.not_mem_nil this).elim
            | cons p0 r0 =>
              refine ⟨fun _ => ?_, fun _ => rfl⟩
              have := List.mem_filter.mp (show p0 ∈ F.filter fun p => decide (p ∈ L) by rw [hFF]; exact List.mem_cons_self ..)
              exact ⟨p0, this.1, of_decide_eq_true this.2⟩
        | cons u1 W1 =>
          refine iteF ?_
          have hW0 : W ≠ [] := by rw [hWW]; exact fun z => nomatch z
          have ml0 : 0 < ms.length := by rw [ws.len]; exact List.length_pos_iff.mpr hW0
          have hlast : ms[ms.length - 1]? = some ms[ms.length - 1] := List.getElem?_eq_getElem (by omega)
          generalize ms[ms.length - 1] = u0 at hlast
          have hrv : roomV ms = nV u0.to := by
            unfold roomV
            rw [hlast]
          rw [hrv]
          refine ⟨_, rfl, _, rfl, t, _, _, _, rfl, rfl, st_of (x0 _ _ e0), rfl, l0, _, rfl, .inr (st_of (x0 _ _ e2)), rfl, flat_nat L, ?_⟩
          refine q _ _ x0 ?_
          show inV (nV u0.to) (L.map nV) = true ↔ _
          rw [inV_nat, decide_eq_true_iff]
          have hkk : keys ks = ms.map Mv.key := by
            have := ws.ky
            rw [List.take_of_length_le (by rw [List.length_map, hkl]; exact Nat.le_refl _)] at this
            exact this
          constructor
          · intro h
            exact ⟨ms, hkk, (ws.walk (by rw [List.length_map]; exact hkl) hW0).mpr fun u hu => by rw [hlast] at hu; cases hu; exact h⟩
          · rintro ⟨ms', e, wp⟩
            rw [← keys_inj (hkk.symm.trans e)] at wp
            exact wp.lst u0 hlast
    · rw [decide_eq_false (fun h => hkl (by have := V.int.inj h; omega))]
      refine iteT (q false H (Ex.refl _) ⟨fun z => (nomatch z), fun ⟨ms, e, wp⟩ => ?_⟩)
      have e1 := congrArg List.length e
      have e2 := congrArg List.length wp.ltr
      rw [List.length_map, List.length_map] at e1
      rw [List.length_map] at e2
      omega
end
end Eh
set_option Elab.async false
set_option linter.all false
set_option maxRecDepth 100000
set_option maxHeartbeats 4000000
namespace Eh
open PySem PySem.Spec PyProof.Rows L2 Evl Ms GxR Gx
abbrev nLawJudged : List Str := ["machine", "word", "moves", "handed", "found"]
theorem scLawJudged : FnScope nLawJudged ["machine", "word", "moves"] (defScope sLawJudged) := ⟨rfl, rfl, rfl, by decide +kernel, rfl, by decide +kernel, by decide +kernel⟩
def dJ (W : List Str) (ks : List (List Key)) : PyData := .list [.list (W.map PyData.str), .list (ks.map kD)]
theorem layJ {W : List Str} {ks : List (List Key)} (hw : ∀ x ∈ W, ∀ c ∈ cs x, az c) (hk : ∀ k ∈ ks, okK k) : PyData.canLay0 (dJ W ks) = true := by
  show (PyData.canLayAll0 (W.map PyData.str) && (PyData.canLayAll0 (ks.map kD) && true)) = true
  rw [layStrs W hw, layKs ks hk]
  rfl
theorem depJ (W : List Str) (ks : List (List Key)) : PyData.depth (dJ W ks) ≤ 3 := by
  show max (PyData.depthAll (W.map PyData.str) + 1) (max (PyData.depthAll (ks.map kD) + 1) 0) + 1 ≤ 3
  have h1 := deepStrs W
  have h2 := deepKs ks
  omega
section
variable {P : Program} {w : World} {K : PySem.W.Frag} {mg : Str → Option Value} {base : Heap}
def spJudged (PM PQ : Addr) : Sp := fun vs H Q _ => ∃ (t s wd l : Addr) (os ls qs : List Str) (n m : Nat) (F L : List Nat) (mv ks : List (Addr × List Key)) (W : List Str), vs = [.ref t, .ref wd, .ref l] ∧ MachAt os ls qs H t s n m F L mv ∧ MachOk os ls qs n m F L mv ∧ Sht os ls qs ∧ H wd = some (.lst (W.map V.str)) ∧ (∀ x ∈ W, x ∈ os ++ ls ++ qs) ∧ W.length ≤ 10000 ∧ bal os qs W 0 = some 0 ∧ H l = some (.lst (refs ks)) ∧ MsAt H ks ∧ (∀ x ∈ ks, okK x.2) ∧ ks.length ≤ 10000 ∧ TabG H PM ∧ TabG H PQ ∧ ∀ H', ET H H' → Q (.bl true) H'
theorem ok_judged {f fis_walk flis_walk PM PQ : Addr} {fd dis_walk dlis_walk : FuncData} {k : Nat} (F : Fun K "_law_judged" "_law_judged" sLawJudged f fd) (Fis_walk : Fun K "is_walk" "is_walk" sIsWalk fis_walk dis_walk) (Gis_walk : FnOk P w K mg base CX0 k fis_walk dis_walk ["machine", "word", "moves"] (spIsWalk PM PQ)) (bis_walk : Binds K dis_walk ["machine", "word", "moves"] []) (gis_walk : mg "is_walk" = some (.ref fis_walk)) (Flis_walk : Fun K "_law_is_walk" "_law_is_walk" sLawIsWalk flis_walk dlis_walk) (Glis_walk : FnOk P w K mg base CX0 k flis_walk dlis_walk ["machine", "word", "moves"] spLIsWalk) (blis_walk : Binds K dlis_walk ["machine", "word", "moves"] []) (glis_walk : mg "_law_is_walk" = some (.ref flis_walk)) (misinstance : mg "isinstance" = none) (mlist : mg "list" = none) (mbool : mg "bool" = none) : FnOk P w K mg base CX0 (k + 1) f fd ["machine", "word", "moves"] (spJudged PM PQ) := by
  have nd := scLawJudged.nd
  refine F.ok scLawJudged (fun vs H Q E h => ?_) (fun cdv A outer s0 H vs Q E hr h => ?_)
  · obtain ⟨t, s, wd, l, os, ls, qs, n, m, F, L, mv, ks, W, rfl, _⟩ := h
    rfl
  · obtain ⟨t, s, wd, l, os, ls, qs, n, m, F, L, mv, ks, W, rfl, hM, hO, hS, hW, hwl, hlen, hbal, hl, hks, hok, hkl, tM, tQ, q⟩ := h
    refine ⟨_, (pss_cons (ps_set (i := 3) nd rfl (.inl rfl) (pe_lst (pa_cons (pe_callTy call_list_of (by rfl) mlist (by decide +kernel) (pa_cons (pv 1) pa_nil)) (pa_cons (pe_callTy call_list_of (by rfl) mlist (by decide +kernel) (pa_cons (pv 2) pa_nil)) pa_nil))))
      (pss_cons (ps_set (i := 4) nd rfl (.inl rfl) (pe_call Gis_walk hr (by rfl) gis_walk Fis_walk.kp bis_walk .nil pass0 (pa_cons (pv 0) (pa_cons (pe_ix ix_list (pv 3) pe_int (fun _ _ => rfl)) (pa_cons (pe_ix ix_list (pv 3) pe_int (fun _ _ => rfl)) pa_nil)))))
      (pss_cons (ps_if (PW.pt (pw_or (pt_not (pt_val (pe_callB call_isi (by rfl) misinstance (by decide +kernel) (pa_cons (pv 4) (pa_cons (pe_bltn (v := .ty "bool") (by rfl) mbool (by decide +kernel) rfl) pa_nil))))) (pw_or1 (pt_cmpR (op_neD hr.units) (pv 3) (pe_lst (pa_cons (pv 1) (pa_cons (pv 2) pa_nil))) (nomark _))))) (pss_one (ps_ret pe_bl)) pss_nil)
      (pss_one (ps_ret (pe_cmpR op_eq (pv 4) (pe_call Glis_walk hr (by rfl) glis_walk Flis_walk.kp blis_walk .nil pass0 (pa_cons (pv 0) (pa_cons (pv 1) (pa_cons (pv 2) pa_nil)))) (nomark _))))))), ?_⟩
    refine ⟨_, rfl, wd, _, rfl, .inl (sq_of hW), fun w1 nw1 => ?_⟩
    have x1 := Ex.new (o := .lst (W.map V.str)) nw1
    refine ⟨_, rfl, l, _, rfl, .inl (sq_of (x1 _ _ hl)), fun w2 nw2 => ⟨(by show 2 ≤ sizeLine; decide), fun hd nhd => ?_⟩⟩
    have x2 := Ex.new (o := .lst (refs ks)) nw2
    have x3 := Ex.new (o := .lst [.ref w1, .ref w2]) nhd
    have ee := (x1.trans x2).trans x3
    have g1 := (x2.trans x3) _ _ (upd_same (H := H) (a := w1) (o := .lst (W.map V.str)))
    have g2 := x3 _ _ (upd_same (H := upd H w1 (.lst (W.map V.str))) (a := w2) (o := .lst (refs ks)))
    have g3 := upd_same (H := upd (upd H w1 (.lst (W.map V.str))) w2 (.lst (refs ks))) (a := hd) (o := .lst [.ref w1, .ref w2])
    have te := ET.of ee
    refine ⟨_, rfl, _, rfl, hd, _, _, _, rfl, rfl, sq_of g3, rfl, _, rfl, hd, _, _, _, rfl, rfl, sq_of g3, rfl, t, s, w1, w2, os, ls, qs, n, m, F, L, mv, ks, W, rfl, hM.et te, hO, hS, g1, hwl, hlen, hbal, g2, hks.et te, te.tab _ tM, te.tab _ tQ, fun b H2 t2 hb => ?_⟩
    replace g1 := t2.lst g1
    replace g2 := t2.lst g2
    replace g3 := t2.lst g3
    have t02 := te.trans t2
    refine isi_b rfl ⟨_, rfl, iteF ?_⟩
    refine ⟨_, rfl, _, rfl, _, rfl, (by show 2 ≤ sizeLine; decide), fun z0 nz0 => ?_⟩
    have x4 := Ex.new (o := .lst [.ref wd, .ref l]) nz0
    have t04 := t02.trans (ET.of x4)
    refine ⟨dJ W (keys ks), dJ W (keys ks), .lst (sq_of (x4 _ _ g3)) (.cons (.lst (sq_of (x4 _ _ g1)) (dpStrs W)) (.cons (.lst (sq_of (x4 _ _ g2)) (dpRows ks (hks.et t04))) .nil)), .lst (sq_of upd_same) (.cons (.lst (sq_of (t04.lst hW)) (dpStrs W)) (.cons (.lst (sq_of (t04.lst hl)) (dpRows ks (hks.et t04))) .nil)), ?_⟩
    have hly : PyData.canLay0 (dJ W (keys ks)) = true := layJ (fun x hx => (hS.lt x (hwl x hx)).1) fun k hk => by
      obtain ⟨x, hx, rfl⟩ := List.mem_map.mp hk
      exact hok x hx
    have hsh : SeqAt.shaped (dJ W (keys ks)) = true := by
      unfold SeqAt.shaped
      rw [hly]
      refine decide_eq_true ?_
      have := depJ W (keys ks)
      omega
    refine ⟨hsh, hsh, _, rfl, ?_⟩
    rw [SeqAt.eqv_refl _ hly]
    refine iteF ?_
    refine ⟨_, rfl, _, rfl, _, rfl, _, rfl, t, s, wd, l, os, ls, qs, n, m, F, L, mv, ks, W, rfl, hM.et t04, hO, hS, t04.lst hW, hwl, hlen, hbal, t04.lst hl, hks.et t04, fun b2 H5 e5 hb2 => ⟨rfl, ?_⟩⟩
    have hbb : b = b2 := Bool.eq_iff_iff.mpr (hb.trans hb2.symm)
    rw [hbb, decide_eq_true rfl]
    exact q H5 (t04.trans (ET.of e5))
end
end Eh
set_option Elab.async false
set_option linter.all false
set_option maxRecDepth 100000
set_option maxHeartbeats 4000000
namespace Eh
open PySem PySem.Spec PyProof.Rows L2 Evl Ms GxR Gx
/-- a reading that gives a tuple of numbers and texts -/
def EvK (te : TE) (σ : L2.St) (H : Hp) (k : List Key) : Prop := ∀ H1, Ex H H1 → ∀ Q : VK, (∀ a H2, Ex H1 H2 → H2 a = some (.tup (k.map kV)) → Q (.ref a) H2) → te σ H1 Q
def EvAK (ta : TA) (σ : L2.St) (H : Hp) (ks : List (List Key)) : Prop := ∀ H1, Ex H H1 → ∀ Q : List V → Hp → Prop, (∀ O H2, Ex H1 H2 → MsAt H2 O → keys O = ks → Q (refs O) H2) → ta σ H1 Q
def EvLK (te : TE) (σ : L2.St) (H : Hp) (ks : List (List Key)) : Prop := ∀ H1, Ex H H1 → ∀ Q : VK, (∀ l O H2, H1 l = none → Ex H1 H2 → H2 l = some (.lst (refs O)) → MsAt H2 O → keys O = ks → Q (.ref l) H2) → te σ H1 Q
section
variable {K : PySem.W.Frag} {σ : L2.St} {H : Hp} {k k1 k2 k' : List Key} {ks : List (List Key)} {i : Nat} {a : Addr}
theorem ek_var (h : σ[i]? = some (some (.ref a))) (ha : H a = some (.tup (k.map kV))) : EvK (tVar i) σ H k := fun H1 e Q q => ⟨_, h, q a H1 (Ex.refl _) (e _ _ ha)⟩
theorem ek_sl {tl th : TO} {lo hi : Option Int} (h : σ[i]? = some (some (.ref a))) (ha : H a = some (.tup (k.map kV))) (hl : EvO tl σ H lo) (hh : EvO th σ H hi) (nw : ¬ (HT.sIx (k.map kV).length 0 lo = 0 ∧ HT.sIx (k.map kV).length (k.map kV).length hi = (k.map kV).length)) (hc : cutV (k.map kV) lo hi = k'.map kV) : EvK (tSl (rSlT K) (tVar i) tl th) σ H k' := fun H1 e Q q =>
  ⟨_, h, hl H1 e _ fun H2 e2 => hh H2 (e.trans e2) _ fun H3 e3 => ⟨a, _, rfl, st_of ((e.trans (e2.trans e3)) _ _ ha), nw, fun p np => q p _ ((e2.trans e3).trans (Ex.new np)) (by rw [upd_same, hc])⟩⟩
theorem ek_tup {ta : TA} {vs : List V} (h : EvA ta σ H vs) (hv : vs = k.map kV) (hl : vs.length ≤ 100) : EvK (tTup ta) σ H k := fun H1 e Q q => h H1 e _ fun H2 e2 => ⟨sz_of (by omega), fun p np => q p _ (e2.trans (Ex.new np)) (by rw [upd_same, hv])⟩
theorem ek_cat {t1 t2 : TE} (h1 : EvK t1 σ H k1) (h2 : EvK t2 σ H k2) (n1 : k1 ≠ []) (n2 : k2 ≠ []) (hl : k1.length + k2.length ≤ 100) : EvK (tOp (rCatT K) t1 t2) σ H (k1 ++ k2) := fun H1 e Q q =>
  h1 H1 e _ fun a H2 e2 ha => h2 H2 (e.trans e2) _ fun b H3 e3 hb => ⟨a, b, _, _, rfl, rfl, st_of (e3 _ _ ha), st_of hb, fun z => n1 (List.map_eq_nil_iff.mp z), by rw [List.length_map, List.length_map]; exact sz_of (by omega), fun z => absurd (List.map_eq_nil_iff.mp z) n2, fun _ p np => q p _ ((e2.trans e3).trans (Ex.new np)) (by rw [upd_same, List.map_append])⟩
theorem eak_nil : EvAK tNil σ H [] := fun H1 e Q q => q [] H1 (Ex.refl _) (fun x hx => (List.not_mem_nil hx).elim) rfl
theorem eak_cons {te : TE} {tr : TA} (h : EvK te σ H k) (hr : EvAK tr σ H ks) : EvAK (tCons te tr) σ H (k :: ks) := fun H1 e Q q =>
  h H1 e _ fun a H2 e2 ha => hr H2 (e.trans e2) _ fun O H3 e3 hO hk => q ((a, k) :: O) H3 (e2.trans e3) (fun x hx => by
    rcases List.mem_cons.mp hx with rfl | hx
    · exact e3 _ _ ha
    · exact hO x hx) (by rw [← hk]; rfl)
theorem elk_lst {ta : TA} (h : EvAK ta σ H ks) (hl : ks.length ≤ 100) : EvLK (tLst ta) σ H ks := fun H1 e Q q => h H1 e _ fun O H2 e2 hO hk => by
  have ol : (refs O).length ≤ 100 := by
    have := congrArg List.length hk
    rw [List.length_map] at this
    rw [List.length_map]
    omega
  exact ⟨sz_of (by omega), fun p np => q p O _ (fresh_back e2 np) (e2.trans (Ex.new np)) upd_same (fun x hx => (Ex.new np) _ _ (hO x hx)) hk⟩
theorem elk_cat {j : Nat} {l : Addr} {O1 : List (Addr × List Key)} {t2 : TE} (hj : σ[j]? = some (some (.ref l))) (hl : H l = some (.lst (refs O1))) (hO : MsAt H O1) (h2 : EvLK t2 σ H ks) (hz : O1.length + ks.length ≤ 100) : EvLK (tOp rCat (tVar j) t2) σ H (keys O1 ++ ks) := fun H1 e Q q => ⟨_, hj, h2 H1 e _ fun b O H2 nb e2 hb hO2 hk => by
  have ol : (refs O).length = ks.length := by
    have := congrArg List.length hk
    rw [List.length_map] at this
    rw [List.length_map]
    exact this
  refine ⟨l, b, _, _, rfl, rfl, (e.trans e2) _ _ hl, hb, by rw [ol, List.length_map]; exact sz_of (by omega), fun p np => q p (O1 ++ O) _ (fresh_back e2 np) (e2.trans (Ex.new np)) (by rw [upd_same]; unfold refs; rw [List.map_append]) (fun x hx => (Ex.new np) _ _ ?_) (by unfold keys; rw [List.map_append]; exact congrArg _ hk)⟩
  rcases List.mem_append.mp hx with hx | hx
  · exact (e.trans e2) _ _ (hO x hx)
  · exact hO2 x hx⟩
theorem given_mapG {α : Type} (d : α) (xs : List α) (f : α → Bool) (g : α → V) : given xs.length (fun i => f (xs.getD i d)) (fun i => g (xs.getD i d)) = (xs.filter f).map g := by
  have e : (List.range xs.length).map (fun i => xs.getD i d) = xs := by
    apply List.ext_getElem
    · rw [List.length_map, List.length_range]
    · intro i h1 h2
      rw [List.getElem_map, List.getElem_range, List.getD_eq_getElem?_getD, List.getElem?_eq_getElem h2]
      rfl
  unfold given
  conv => rhs; rw [← e]
  rw [List.filter_map, List.map_map]
  rfl
/-- slices of rows -/
def cutR (ks : List (Addr × List Key)) (lo hi : Option Int) : List (Addr × List Key) := (ks.drop (HT.sIx ks.length 0 lo)).take (HT.sIx ks.length ks.length hi - HT.sIx ks.length 0 lo)
theorem cutV_refs (ks : List (Addr × List Key)) (lo hi : Option Int) : cutV (refs ks) lo hi = refs (cutR ks lo hi) := by
  unfold cutV cutR refs
  rw [List.length_map, List.map_take, List.map_drop]
theorem cutR_mem {ks : List (Addr × List Key)} {lo hi : Option Int} {x : Addr × List Key} (h : x ∈ cutR ks lo hi) : x ∈ ks := List.mem_of_mem_drop (List.mem_of_mem_take h)
theorem cutR_len (ks : List (Addr × List Key)) (lo hi : Option Int) : (cutR ks lo hi).length ≤ ks.length := by
  unfold cutR
  rw [List.length_take, List.length_drop]
  omega
end
end Eh
set_option Elab.async false
set_option linter.all false
set_option maxRecDepth 100000
set_option maxHeartbeats 400000
namespace Eh
open PySem PySem.Spec PyProof.Rows L2 Evl Ms GxR Gx
theorem q_asgLK {te : TE} {σ : L2.St} {H : Hp} {ks : List (List Key)} {j : Nat} {D : Ends} {tz : TS} (h : EvLK te σ H ks) (hq : ∀ l O H2, H l = none → Ex H H2 → H2 l = some (.lst (refs O)) → MsAt H2 O → keys O = ks → tz D (σ.set j (some (.ref l))) H2) : tSeq (tAsg te (gName j)) tz D σ H := h H (Ex.refl _) _ fun l O H2 n e h1 h2 h3 => hq l O H2 n e h1 h2 h3
theorem rv_neg1 {H : Hp} : RU (rU fun i => V.int (-i)) (.int 1) H (.int (-1)) := fun H1 _ _ q => ⟨1, rfl, q H1 (Ex.refl H1)⟩
theorem key45 (v : Mv) : (v.key.map kV).length = 4 ∨ (v.key.map kV).length = 5 := by
  cases v
  · exact .inl rfl
  · exact .inr rfl
  · exact .inr rfl
theorem nwA (v : Mv) : ¬ (HT.sIx (v.key.map kV).length 0 none = 0 ∧ HT.sIx (v.key.map kV).length (v.key.map kV).length (some (-1)) = (v.key.map kV).length) := by
  rcases key45 v with h | h <;> rw [h] <;> decide
theorem nwB (v : Mv) {j : Int} (hj : j = 1 ∨ j = 2) : ¬ (HT.sIx (v.key.map kV).length 0 (some j) = 0 ∧ HT.sIx (v.key.map kV).length (v.key.map kV).length none = (v.key.map kV).length) := by
  rcases hj with rfl | rfl <;> rcases key45 v with h | h <;> rw [h] <;> decide
theorem cutA (v : Mv) : cutV (v.key.map kV) none (some (-1)) = v.key.dropLast.map kV := by cases v <;> rfl
theorem cutB (v : Mv) : cutV (v.key.map kV) (some 1) none = v.key.tail.map kV := by cases v <;> rfl
theorem cutC (v : Mv) : cutV (v.key.map kV) (some 2) none = (v.key.drop 2).map kV := by cases v <;> rfl
theorem dl_ne (v : Mv) : v.key.dropLast ≠ [] := by cases v <;> exact fun z => nomatch z
theorem tl_ne (v : Mv) : v.key.tail ≠ [] := by cases v <;> exact fun z => nomatch z
theorem d2_ne (v : Mv) : v.key.drop 2 ≠ [] := by cases v <;> exact fun z => nomatch z
theorem ky_ne (v : Mv) : v.key ≠ [] := by cases v <;> exact fun z => nomatch z
theorem ky_l (v : Mv) : v.key.length ≤ 5 := by cases v <;> exact Nat.le_of_ble_eq_true rfl
def tagS (v : Mv) : Str := match v with
  | .pl _ _ _ => "plain"
  | .op _ _ _ _ => "open"
  | .cl _ _ _ _ => "close"
theorem key_tgS (v : Mv) : atI (v.key.map kV) 0 = some (.str (tagS v)) := by cases v <;> rfl
abbrev tM1 : TE := tUn (rU fun i => V.int (-i)) (tC (.int 1))
abbrev sl1 (K : PySem.W.Frag) : TE := tSl (rSlT K) (tVar 5) tNoPart (tPart tM1)
def odd1 (v : Mv) : List (List Key) := [v.key.dropLast ++ [.inl ((v.to : Int) + 1)], v.key.dropLast ++ [.inl (-1)], [.inr "plain"] ++ v.key.tail]
def odd2 (v : Mv) : List (List Key) := [[.inr (tagS v), .inl ((v.frm : Int) + 1)] ++ v.key.drop 2, v.key ++ [.inl 0], v.key.dropLast]
def odd3 : List (List Key) := [[], [.inr "close"], [.inr "open", .inl 0], [.inl 0, .inl 0, .inl 0, .inl 0], [.inr "plain", .inl 0, .inr ""]]
abbrev T1 (K : PySem.W.Frag) : TE := tLst (tCons (tOp (rCatT K) (sl1 K) (tTup (tCons (tOp (rI0 fun i j => .int (i + j)) (tOp (rIxT K) (tVar 5) tM1) (tC (.int 1))) tNil))) (tCons (tOp (rCatT K) (sl1 K) (tTup (tCons tM1 tNil))) (tCons (tOp (rCatT K) (tTup (tCons (tC (.str "plain")) tNil)) (tSl (rSlT K) (tVar 5) (tPart (tC (.int 1))) tNoPart)) tNil)))
abbrev T2 (K : PySem.W.Frag) : TE := tLst (tCons (tOp (rCatT K) (tTup (tCons (tOp (rIxT K) (tVar 5) (tC (.int 0))) (tCons (tOp (rI0 fun i j => .int (i + j)) (tOp (rIxT K) (tVar 5) (tC (.int 1))) (tC (.int 1))) tNil))) (tSl (rSlT K) (tVar 5) (tPart (tC (.int 2))) tNoPart)) (tCons (tOp (rCatT K) (tVar 5) (tTup (tCons (tC (.int 0)) tNil))) (tCons (sl1 K) tNil)))
abbrev T3 : TE := tLst (tCons (tTup tNil) (tCons (tTup (tCons (tC (.str "close")) tNil)) (tCons (tTup (tCons (tC (.str "open")) (tCons (tC (.int 0)) tNil))) (tCons (tTup (tCons (tC (.int 0)) (tCons (tC (.int 0)) (tCons (tC (.int 0)) (tCons (tC (.int 0)) tNil))))) (tCons (tTup (tCons (tC (.str "plain")) (tCons (tC (.int 0)) (tCons (tC (.str "")) tNil)))) tNil)))))
section
variable {K : PySem.W.Frag} {σ : L2.St} {H : Hp} {a : Addr} {v : Mv}
theorem ek_sl1 (h5 : σ[5]? = some (some (.ref a))) (zat : H a = some (.tup (v.key.map kV))) : EvK (sl1 K) σ H v.key.dropLast := ek_sl h5 zat eo_none (eo_some (ev_un ev_c rv_neg1)) (nwA v) (cutA v)
theorem ev_odd1 (h5 : σ[5]? = some (some (.ref a))) (zat : H a = some (.tup (v.key.map kV))) : EvLK (T1 K) σ H (odd1 v) := by
  have kl := ky_l v
  have dl : v.key.dropLast.length ≤ 5 := by rw [List.length_dropLast]; omega
  have tl : v.key.tail.length ≤ 5 := by rw [List.length_tail]; omega
  refine elk_lst (eak_cons (ek_cat (ek_sl1 h5 zat) (ek_tup (ea_cons (ev_op (ev_op (ev_var h5) (ev_un ev_c rv_neg1) (rv_ixT (st_of zat) (key_to v))) ev_c rv_I0) ea_nil) rfl (Nat.le_of_ble_eq_true rfl)) (dl_ne v) (fun z => nomatch z) ?_) (eak_cons (ek_cat (ek_sl1 h5 zat) (ek_tup (ea_cons (ev_un ev_c rv_neg1) ea_nil) rfl (Nat.le_of_ble_eq_true rfl)) (dl_ne v) (fun z => nomatch z) ?_) (eak_cons (ek_cat (ek_tup (ea_cons ev_c ea_nil) rfl (Nat.le_of_ble_eq_true rfl)) (ek_sl h5 zat (eo_some ev_c) eo_none (nwB v (.inl rfl)) (cutB v)) (fun z => nomatch z) (tl_ne v) ?_) eak_nil))) (Nat.le_of_ble_eq_true rfl)
  · show v.key.dropLast.length + 1 ≤ 100; omega
  · show v.key.dropLast.length + 1 ≤ 100; omega
  · show 1 + v.key.tail.length ≤ 100; omega
theorem ev_odd2 (h5 : σ[5]? = some (some (.ref a))) (zat : H a = some (.tup (v.key.map kV))) : EvLK (T2 K) σ H (odd2 v) := by
  have kl := ky_l v
  have d2 : (v.key.drop 2).length ≤ 5 := by rw [List.length_drop]; omega
  refine elk_lst (eak_cons (ek_cat (ek_tup (ea_cons (ev_op (ev_var h5) ev_c (rv_ixT (st_of zat) (key_tgS v))) (ea_cons (ev_op (ev_op (ev_var h5) ev_c (rv_ixT (st_of zat) (key_frm v))) ev_c rv_I0) ea_nil)) rfl (Nat.le_of_ble_eq_true rfl)) (ek_sl h5 zat (eo_some ev_c) eo_none (nwB v (.inr rfl)) (cutC v)) (fun z => nomatch z) (d2_ne v) ?_) (eak_cons (ek_cat (ek_var h5 zat) (ek_tup (ea_cons ev_c ea_nil) rfl (Nat.le_of_ble_eq_true rfl)) (ky_ne v) (fun z => nomatch z) ?_) (eak_cons (ek_sl1 h5 zat) eak_nil))) (Nat.le_of_ble_eq_true rfl)
  · show 2 + (v.key.drop 2).length ≤ 100; omega
  · show v.key.length + 1 ≤ 100; omega
theorem ev_odd3 : EvLK T3 σ H odd3 :=
  elk_lst (eak_cons (ek_tup ea_nil rfl (Nat.le_of_ble_eq_true rfl)) (eak_cons (ek_tup (ea_cons ev_c ea_nil) rfl (Nat.le_of_ble_eq_true rfl)) (eak_cons (ek_tup (ea_cons ev_c (ea_cons ev_c ea_nil)) rfl (Nat.le_of_ble_eq_true rfl)) (eak_cons (ek_tup (ea_cons ev_c (ea_cons ev_c (ea_cons ev_c (ea_cons ev_c ea_nil)))) rfl (Nat.le_of_ble_eq_true rfl)) (eak_cons (ek_tup (ea_cons ev_c (ea_cons ev_c (ea_cons ev_c ea_nil))) rfl (Nat.le_of_ble_eq_true rfl)) eak_nil))))) (Nat.le_of_ble_eq_true rfl)
end
theorem okK_sub {a b : List Key} (h : okK b) (hs : ∀ x ∈ a, x ∈ b) : okK a := by
  induction a with
  | nil => rfl
  | cons x r ih =>
    have hx : PyData.canLay0 (keyD x) = true := by
      have hm : keyD x ∈ b.map keyD := List.mem_map.mpr ⟨x, hs x (List.mem_cons_self ..), rfl⟩
      exact PyData.canLay0_of_mem _ _ h hm
    show (PyData.canLay0 (keyD x) && PyData.canLayAll0 (r.map keyD)) = true
    rw [hx, show PyData.canLayAll0 (r.map keyD) = true from ih fun y hy => hs y (List.mem_cons_of_mem _ hy)]
    rfl
theorem ok_odd {v : Mv} (h : okK v.key) : ∀ k ∈ odd1 v ++ odd2 v ++ odd3, okK k := by
  have hd : okK v.key.dropLast := okK_sub h fun x hx => List.dropLast_subset _ hx
  have ht : okK v.key.tail := okK_sub h fun x hx => List.mem_of_mem_tail hx
  have h2 : okK (v.key.drop 2) := okK_sub h fun x hx => List.mem_of_mem_drop hx
  have hs : PyData.strOk (tagS v) = true := by
    cases v
    · exact (by decide +kernel : PyData.strOk "plain" = true)
    · exact (by decide +kernel : PyData.strOk "open" = true)
    · exact (by decide +kernel : PyData.strOk "close" = true)
  intro k hk
  simp only [odd1, odd2, odd3, List.mem_append, List.mem_cons, List.not_mem_nil, or_false] at hk
  rcases hk with ((rfl | rfl | rfl) | rfl | rfl | rfl) | rfl | rfl | rfl | rfl | rfl
  · exact okK_app hd (okK_cons_i okK_nil)
  · exact okK_app hd (okK_cons_i okK_nil)
  · exact okK_app (okK_cons_s (by decide +kernel) okK_nil) ht
  · exact okK_app (okK_cons_s hs (okK_cons_i okK_nil)) h2
  · exact okK_app h (okK_cons_i okK_nil)
  · exact hd
  · rfl
  · exact okK_cons_s (by decide +kernel) okK_nil
  · exact okK_cons_s (by decide +kernel) (okK_cons_i okK_nil)
  · exact okK_cons_i (okK_cons_i (okK_cons_i (okK_cons_i okK_nil)))
  · exact okK_cons_s (by decide +kernel) (okK_cons_i (okK_cons_s (by decide +kernel) okK_nil))
end Eh
set_option Elab.async false
set_option linter.all false
set_option maxRecDepth 100000
set_option maxHeartbeats 4000000
namespace Eh
open PySem PySem.Spec PyProof.Rows L2 Evl Ms GxR Gx
abbrev nLawOther : List Str := ["pot", "machine", "moves", "some", "at", "move", "way", "kin", "to", "odd", "one"]
theorem scLawOther : FnScope nLawOther ["pot", "machine", "moves"] (defScope sLawOther) := ⟨rfl, rfl, rfl, by decide +kernel, rfl, by decide +kernel, by decide +kernel⟩
def tg0 (k : List Key) : V := (k.map kV).getD 0 .non
def th2 (k : List Key) : V := (k.map kV).getD 2 .non
theorem key_tg (v : Mv) : atI (v.key.map kV) 0 = some (tg0 v.key) := by cases v <;> rfl
theorem key_th (v : Mv) : atI (v.key.map kV) 2 = some (th2 v.key) := by cases v <;> rfl
theorem scal_tg (v u : Mv) : scal (tg0 v.key) (tg0 u.key) = true := by cases v <;> cases u <;> rfl
theorem scal_th (v u : Mv) : scal (th2 v.key) (th2 u.key) = true := by cases v <;> cases u <;> rfl
theorem rv_eqS {x y : V} {H : Hp} (h : scal x y = true) : RV rEq x y H (.bl (decide (x = y))) := fun H1 _ _ q => ⟨h, q H1 (Ex.refl H1)⟩
def kinB (z x : Addr × List Key) : Bool := decide (tg0 x.2 = tg0 z.2) && decide (th2 x.2 = th2 z.2)
theorem refs_set (ks : List (Addr × List Key)) (i : Nat) (x : Addr × List Key) : (refs ks).set i (.ref x.1) = refs (ks.set i x) := by
  unfold refs
  rw [List.map_set]
section
variable {P : Program} {w : World} {K : PySem.W.Frag} {mg : Str → Option Value} {base : Heap}
def spOther : Sp := fun vs H Q _ => ∃ (p c t s l : Addr) (ns : List Int) (os ls qs : List Str) (n m : Nat) (F L : List Nat) (mv ks : List (Addr × List Key)), vs = [.ref p, .ref t, .ref l] ∧ Pot p c ns H ∧ Sht os ls qs ∧ MachAt os ls qs H t s n m F L mv ∧ MachOk os ls qs n m F L mv ∧ H l = some (.lst (refs ks)) ∧ (∀ x ∈ ks, x ∈ mv) ∧ ks ≠ [] ∧ ks.length ≤ 120 ∧
  ∀ r ks' H', H' r = some (.lst (refs ks')) → H r = none → MsAt H' ks' → (∀ x ∈ ks', okK x.2) → ks'.length ≤ 400 → Keep p H H' → Pot p c ns H' → Q (.ref r) H'
theorem ok_other {f fpick : Addr} {fd dpick : FuncData} {k : Nat} (F : Fun K "_law_other" "_law_other" sLawOther f fd) (Fpick : Fun K "_law_pick" "_law_pick" sPick fpick dpick) (Gpick : FnOk P w K mg base CX0 k fpick dpick ["pot", "many"] spPick) (bpick : Binds K dpick ["pot", "many"] []) (gpick : mg "_law_pick" = some (.ref fpick)) (mlen : mg "len" = none) (mlist : mg "list" = none) : FnOk P w K mg base CX0 (k + 1) f fd ["pot", "machine", "moves"] spOther := by
  have nd := scLawOther.nd
  refine F.ok scLawOther (fun vs H Q E h => ?_) (fun cdv A outer s0 H vs Q E hr h => ?_)
  · obtain ⟨p, c, t, s, l, ns, os, ls, qs, n, m, F, L, mv, ks, rfl, _⟩ := h
    rfl
  · obtain ⟨p, c, t, s, l, ns, os, ls, qs, n, m, F, L, mv, ks, rfl, hP, hS, hM, hO, hl, hks, hne, hkl, q⟩ := h
    refine ⟨_, (pss_cons (ps_set (i := 3) nd rfl (.inl rfl) (pe_callTy call_list_of (by rfl) mlist (by decide +kernel) (pa_cons (pv 2) pa_nil)))
      (pss_cons (ps_set (i := 4) nd rfl (.inl rfl) (pe_call Gpick hr (by rfl) gpick Fpick.kp bpick .nil pass0 (pa_cons (pv 0) (pa_cons (pe_callB call_len_seq (by rfl) mlen PySem.boot_len (pa_cons (pv 3) pa_nil)) pa_nil))))
      (pss_cons (ps_set (i := 5) nd rfl (.inr rfl) (pe_ix ix_list (pv 3) (pv 4) (fun _ _ => rfl)))
      (pss_cons (ps_set (i := 6) nd rfl (.inl rfl) (pe_call Gpick hr (by rfl) gpick Fpick.kp bpick .nil pass0 (pa_cons (pv 0) (pa_cons pe_int pa_nil))))
      (pss_cons (ps_setLc (i := 7) (own := [("one", 10)]) (g := gName 10) (tt := (tAnd (tTest (tOp rEq (tOp (rIxT K) (tVar 10) (tC (.int 0))) (tOp (rIxT K) (tVar 5) (tC (.int 0))))) (tTest (tOp rEq (tOp (rIxT K) (tVar 10) (tC (.int 2))) (tOp (rIxT K) (tVar 5) (tC (.int 2))))))) (te := (tVar 10)) rfl nd rfl rfl (sw_true rfl rfl rfl (by decide +kernel)) (pi_tup (pe_ix ix_tup (pv 1) pe_int (fun _ _ => rfl))) (blkOk_by (own := [("one", 10)]) (N := nLawOther) (sc := defScope sLawOther) (by decide +kernel)) (fun _ _ _ _ _ => pg_name (i := 10) nd rfl (.inl rfl)) (fun _ _ _ _ _ => pts_one (PW.pt (pw_and (pt_cmpR op_eq (pe_ix ix_tup (pv 10) pe_int (fun _ _ => rfl)) (pe_ix ix_tup (pv 5) pe_int (fun _ _ => rfl)) (nomark _)) (pw_and1 (pt_cmpR op_eq (pe_ix ix_tup (pv 10) pe_int (fun _ _ => rfl)) (pe_ix ix_tup (pv 5) pe_int (fun _ _ => rfl)) (nomark _)))))) (fun _ _ _ _ _ => (pv 10)))
      (pss_cons (ps_if (pt_cmpR op_lt (pv 6) pe_int (nomark _)) (pss_one (ps_asg (pe_ix ix_list (pv 7) (pe_call Gpick hr (by rfl) gpick Fpick.kp bpick .nil pass0 (pa_cons (pv 0) (pa_cons (pe_callB call_len_seq (by rfl) mlen PySem.boot_len (pa_cons (pv 7) pa_nil)) pa_nil))) (fun _ _ => rfl)) (pg_sub (pv 3) (pv 4) set_list))) pss_nil)
      (pss_cons (ps_if (pt_cmpR op_eq (pv 6) pe_int (nomark _)) (pss_one (ps_asg (pe_ix ix_tup (pe_ix ix_tup (pv 1) pe_int (fun _ _ => rfl)) (pe_call Gpick hr (by rfl) gpick Fpick.kp bpick .nil pass0 (pa_cons (pv 0) (pa_cons (pe_callB call_len_seq (by rfl) mlen PySem.boot_len (pa_cons (pe_ix ix_tup (pv 1) pe_int (fun _ _ => rfl)) pa_nil)) pa_nil))) (fun _ _ => rfl)) (pg_sub (pv 3) (pv 4) set_list))) pss_nil)
      (pss_cons (ps_if (pt_cmpR op_eq (pv 6) pe_int (nomark _)) (pss_one (ps_set (i := 3) nd rfl (.inl rfl) (pe_op op_cat (pe_slice sl_list (pv 3) po_none (po_some (pv 4))) (pe_slice sl_list (pv 3) (po_some (pe_op op_add (pv 4) pe_int)) po_none)))) pss_nil)
      (pss_cons (ps_if (pt_cmpR op_eq (pv 6) pe_int (nomark _)) (pss_one (ps_set (i := 3) nd rfl (.inl rfl) (pe_op op_cat (pe_op op_cat (pe_slice sl_list (pv 3) po_none (po_some (pv 4))) (pe_slice sl_list (pv 3) (po_some (pv 4)) (po_some (pe_op op_add (pv 4) pe_int)))) (pe_slice sl_list (pv 3) (po_some (pv 4)) po_none)))) pss_nil)
      (pss_cons (ps_if (pt_cmpR op_eq (pv 6) pe_int (nomark _)) (pss_cons (ps_set (i := 8) nd rfl (.inl rfl) (pe_call Gpick hr (by rfl) gpick Fpick.kp bpick .nil pass0 (pa_cons (pv 0) (pa_cons (pe_callB call_len_seq (by rfl) mlen PySem.boot_len (pa_cons (pv 3) pa_nil)) pa_nil))))
      (pss_one (ps_asg (pe_tup (pa_cons (pe_ix ix_list (pv 3) (pv 8) (fun _ _ => rfl)) (pa_cons (pv 5) pa_nil))) (pg_tup rfl (pgs_cons (pg_sub (pv 3) (pv 4) set_list) (pgs_cons (pg_sub (pv 3) (pv 8) set_list) pgs_nil)))))) pss_nil)
      (pss_cons (ps_if (pt_cmpR op_eq (pv 6) pe_int (nomark _)) (pss_cons (ps_set (i := 9) nd rfl (.inl rfl) (pe_lst (pa_cons (pe_op op_catT (pe_slice sl_tup (pv 5) po_none (po_some (pe_un un_neg pe_int))) (pe_tup (pa_cons (pe_op op_add (pe_ix ix_tup (pv 5) (pe_un un_neg pe_int) (fun _ _ => rfl)) pe_int) pa_nil))) (pa_cons (pe_op op_catT (pe_slice sl_tup (pv 5) po_none (po_some (pe_un un_neg pe_int))) (pe_tup (pa_cons (pe_un un_neg pe_int) pa_nil))) (pa_cons (pe_op op_catT (pe_tup (pa_cons pe_str pa_nil)) (pe_slice sl_tup (pv 5) (po_some pe_int) po_none)) pa_nil)))))
      (pss_cons (ps_set (i := 9) nd rfl (.inl rfl) (pe_op op_cat (pv 9) (pe_lst (pa_cons (pe_op op_catT (pe_tup (pa_cons (pe_ix ix_tup (pv 5) pe_int (fun _ _ => rfl)) (pa_cons (pe_op op_add (pe_ix ix_tup (pv 5) pe_int (fun _ _ => rfl)) pe_int) pa_nil))) (pe_slice sl_tup (pv 5) (po_some pe_int) po_none)) (pa_cons (pe_op op_catT (pv 5) (pe_tup (pa_cons pe_int pa_nil))) (pa_cons (pe_slice sl_tup (pv 5) po_none (po_some (pe_un un_neg pe_int))) pa_nil))))))
      (pss_cons (ps_set (i := 9) nd rfl (.inl rfl) (pe_op op_cat (pv 9) (pe_lst (pa_cons (pe_tup pa_nil) (pa_cons (pe_tup (pa_cons pe_str pa_nil)) (pa_cons (pe_tup (pa_cons pe_str (pa_cons pe_int pa_nil))) (pa_cons (pe_tup (pa_cons pe_int (pa_cons pe_int (pa_cons pe_int (pa_cons pe_int pa_nil))))) (pa_cons (pe_tup (pa_cons pe_str (pa_cons pe_int (pa_cons pe_str pa_nil)))) pa_nil))))))))
      (pss_one (ps_asg (pe_ix ix_list (pv 9) (pe_call Gpick hr (by rfl) gpick Fpick.kp bpick .nil pass0 (pa_cons (pv 0) (pa_cons pe_int pa_nil))) (fun _ _ => rfl)) (pg_sub (pv 3) (pv 4) set_list)))))) pss_nil)
      (pss_one (ps_ret (pv 3)))))))))))))), ?_⟩
    obtain ⟨f0, l0, g0, e0, e1, e2, e3⟩ := hM.ex
    have kpos : 0 < ks.length := List.length_pos_iff.mpr hne
    have m600 := hO.ml
    have kk := fun {a : Addr} {xs : List V} (h : H a = some (.tup xs)) => hP.ne_tup h
    have rl : (refs ks).length = ks.length := List.length_map _
    refine ⟨_, rfl, l, _, rfl, .inl (sq_of hl), fun a3 n3 => ?_⟩
    have x3 := Ex.new (o := .lst (refs ks)) n3
    have a3p : a3 ≠ p := fun z => by
      obtain ⟨_, _, _, h1, _⟩ := hP
      rw [z, h1] at n3
      cases n3
    have a3c : a3 ≠ c := fun z => by
      obtain ⟨_, _, _, _, h1⟩ := hP
      rw [z, h1] at n3
      cases n3
    refine ⟨_, rfl, _, rfl, _, _, rfl, .inl (sq_of upd_same), p, c, ns, _, rfl, by rw [rl]; omega, by rw [rl]; omega, hP.ex x3, fun at_ H1 hat k1 hP1 => ?_⟩
    rw [rl] at hat
    replace hat : at_ < ks.length := by omega
    have h3 := k1 _ _ a3p (upd_same (H := H) (a := a3) (o := .lst (refs ks)))
    have kH1 := (Keep.ofEx x3).trans k1
    have hz : ks[at_]? = some ks[at_] := List.getElem?_eq_getElem hat
    generalize ks[at_] = z at hz
    have hzm := List.mem_of_getElem? hz
    have zmv := hks z hzm
    have hmv : ∀ {x : Addr × List Key}, x ∈ mv → ∃ v : Mv, x.2 = v.key ∧ v.Ok os ls qs n m := fun hx => Eh.MvK.mv (hO.mvk _ hx)
    have hatm : ∀ {x : Addr × List Key} {H' : Hp}, x ∈ mv → Keep p H H' → H' x.1 = some (.tup (x.2.map kV)) := fun hx k => k _ _ (kk (hM.at_ _ hx)) (hM.at_ _ hx)
    obtain ⟨v, hv, vok⟩ := hmv zmv
    refine ⟨_, rfl, _, rfl, a3, _, _, _, rfl, rfl, sq_of h3, atI_nat (by rw [List.getElem?_map, hz]; rfl), ?_⟩
    refine ⟨_, rfl, p, c, ns, 8, rfl, by decide, by decide, hP1, fun way H2 hway k2 hP2 => ?_⟩
    have kH2 := kH1.trans k2
    replace h3 := k2 _ _ a3p h3
    refine q_asgL (el_lcT (K := K) (xs := refs mv) (fun i => kinB z (mv.getD i z)) (fun i => V.ref (mv.getD i z).1) (ev_op (ev_var rfl) ev_c (rv_ixT (st_of (kH2 _ _ (kk e0) e0)) rfl)) (st_of (kH2 _ _ (kk e3) e3)) (by rw [List.length_map]; omega) (fun x => rfl) (fun i x H3 e3' hx => ?_) (fun i x H3 e3' hx _ => ?_)) fun a7 H3 n7 e3' h7 => ?_
    · rw [List.getElem?_map] at hx
      obtain ⟨y, hy, rfl⟩ := Option.map_eq_some_iff.mp hx
      have ym := List.mem_of_getElem? hy
      obtain ⟨u, hu, _⟩ := hmv ym
      have kH3 := kH2.trans (Keep.ofEx (p := p) e3')
      have yat := hatm ym kH3
      have zat := hatm zmv kH3
      have hg : mv.getD i z = y := by rw [List.getD_eq_getElem?_getD, hy]; rfl
      rw [hg]
      unfold kinB
      rw [hu, hv] at *
      exact et_and (et_test (ev_op (ev_op (ev_var rfl) ev_c (rv_ixT (st_of yat) (key_tg u))) (ev_op (ev_var rfl) ev_c (rv_ixT (st_of zat) (key_tg v))) (rv_eqS (scal_tg u v)))) (fun _ => et_test (ev_op (ev_op (ev_var rfl) ev_c (rv_ixT (st_of yat) (key_th u))) (ev_op (ev_var rfl) ev_c (rv_ixT (st_of zat) (key_th v))) (rv_eqS (scal_th u v))))
    · rw [List.getElem?_map] at hx
      obtain ⟨y, hy, rfl⟩ := Option.map_eq_some_iff.mp hx
      have hg : mv.getD i z = y := by rw [List.getD_eq_getElem?_getD, hy]; rfl
      rw [hg]
      exact ev_var rfl
    rw [List.length_map, given_mapG z mv (kinB z) (fun x => V.ref x.1)] at h7
    have kH3 := kH2.trans (Keep.ofEx (p := p) e3')
    have hP3 := hP2.ex e3'
    have h33 := e3' _ _ h3
    have a7p : a7 ≠ p := fun z => by
      obtain ⟨_, _, _, h1, _⟩ := hP2
      rw [z, h1] at n7
      cases n7
    have knz : z ∈ mv.filter (kinB z) := List.mem_filter.mpr ⟨zmv, by unfold kinB; rw [decide_eq_true rfl, decide_eq_true rfl]; rfl⟩
    have kn0 : 0 < (mv.filter (kinB z)).length := List.length_pos_of_mem knz
    have kn6 := List.length_filter_le (kinB z) mv
    have mv0 : 0 < mv.length := List.length_pos_of_mem zmv
    have freshR : ∀ {H4 H5 : Hp} {r : Addr}, Keep p H H4 → Pot p c ns H4 → Ex H4 H5 → H5 r = none → H r = none := fun {H4 H5 r} k4 hp4 e5 nr => by
      refine (k4.trans (Keep.ofEx (p := p) e5)).fresh (fun z => ?_) nr
      obtain ⟨_, _, _, h1, _⟩ := hp4.ex e5
      rw [z, h1] at nr
      cases nr
    have fin : ∀ (r : Addr) (ks' : List (Addr × List Key)) (H4 : Hp), H4 r = some (.lst (refs ks')) → H r = none → (∀ x ∈ ks', x ∈ ks) → ks'.length ≤ 400 → Keep p H H4 → Pot p c ns H4 → tRet (tVar 3) { nx := fun _ H' => Q .non H', rt := Q } [some (.ref p), some (.ref t), some (.ref l), some (.ref r)] H4 := fun r ks' H4 hr4 nr hin hlen k4 hp4 => ⟨_, rfl, q r ks' H4 hr4 nr (fun x hx => hatm (hks x (hin x hx)) k4) (fun x hx => okMvK hS (hO.mvk x (hks x (hin x hx)))) hlen k4 hp4⟩
    have put : ∀ (x : Addr × List Key) (H4 : Hp), Keep p H H4 → Pot p c ns H4 → H4 x.1 = some (.tup (x.2.map kV)) → okK x.2 → H4 a3 = some (.lst (refs ks)) → tRet (tVar 3) { nx := fun _ H' => Q .non H', rt := Q } [some (.ref p), some (.ref t), some (.ref l), some (.ref a3)] (upd H4 a3 (.lst ((refs ks).set at_ (.ref x.1)))) := fun x H4 k4 hp4 hx ox h34 => by
      refine ⟨_, rfl, q a3 (ks.set at_ x) _ (by rw [upd_same, refs_set]) n3 (fun y hy => ?_) (fun y hy => ?_) (by rw [List.length_set]; omega) (k4.new n3) (hp4.new a3p.symm a3c.symm)⟩
      · rcases List.mem_or_eq_of_mem_set hy with hy | rfl
        · exact hatm (hks y hy) (k4.new n3)
        · rw [upd_ne (fun z => by rw [z, h34] at hx; cases hx)]
          exact hx
      · rcases List.mem_or_eq_of_mem_set hy with hy | rfl
        · exact okMvK hS (hO.mvk y (hks y hy))
        · exact ox
    rcases (show way < 3 ∨ way = 3 ∨ way = 4 ∨ way = 5 ∨ way = 6 ∨ way = 7 by omega) with hw | rfl | rfl | rfl | rfl | rfl
    · rcases (show way = 0 ∨ way = 1 ∨ way = 2 by omega) with rfl | rfl | rfl
      · refine ⟨_, rfl, _, _, rfl, rfl, _, rfl, iteT ?_⟩
        refine ⟨_, rfl, _, rfl, _, rfl, _, _, rfl, .inl (sq_of h7), p, c, ns, _, rfl, by rw [List.length_map]; omega, by rw [List.length_map]; omega, hP3, fun u H4 hu k4 hP4 => ?_⟩
        rw [List.length_map] at hu
        have hux : (mv.filter (kinB z))[u]? = some (mv.filter (kinB z))[u] := List.getElem?_eq_getElem (by omega)
        generalize (mv.filter (kinB z))[u] = x at hux
        have xm : x ∈ mv := (List.mem_filter.mp (List.mem_of_getElem? hux)).1
        refine ⟨a7, _, _, _, rfl, rfl, sq_of (k4 _ _ a7p h7), atI_nat (by rw [List.getElem?_map, hux]; rfl), _, rfl, _, rfl, a3, _, _, at_, rfl, rfl, k4 _ _ a3p h33, ixN_nat (by rw [rl]; exact hat), ?_⟩
        refine ⟨_, rfl, rfl, _, rfl, iteF ?_⟩
        refine ⟨_, rfl, rfl, _, rfl, iteF ?_⟩
        refine ⟨_, rfl, rfl, _, rfl, iteF ?_⟩
        refine ⟨_, rfl, rfl, _, rfl, iteF ?_⟩
        refine ⟨_, rfl, rfl, _, rfl, iteF ?_⟩
        exact put x H4 (kH3.trans k4) hP4 (hatm xm (kH3.trans k4)) (okMvK hS (hO.mvk x xm)) (k4 _ _ a3p h33)
      · refine ⟨_, rfl, _, _, rfl, rfl, _, rfl, iteT ?_⟩
        refine ⟨_, rfl, _, rfl, _, rfl, _, _, rfl, .inl (sq_of h7), p, c, ns, _, rfl, by rw [List.length_map]; omega, by rw [List.length_map]; omega, hP3, fun u H4 hu k4 hP4 => ?_⟩
        rw [List.length_map] at hu
        have hux : (mv.filter (kinB z))[u]? = some (mv.filter (kinB z))[u] := List.getElem?_eq_getElem (by omega)
        generalize (mv.filter (kinB z))[u] = x at hux
        have xm : x ∈ mv := (List.mem_filter.mp (List.mem_of_getElem? hux)).1
        refine ⟨a7, _, _, _, rfl, rfl, sq_of (k4 _ _ a7p h7), atI_nat (by rw [List.getElem?_map, hux]; rfl), _, rfl, _, rfl, a3, _, _, at_, rfl, rfl, k4 _ _ a3p h33, ixN_nat (by rw [rl]; exact hat), ?_⟩
        refine ⟨_, rfl, rfl, _, rfl, iteF ?_⟩
        refine ⟨_, rfl, rfl, _, rfl, iteF ?_⟩
        refine ⟨_, rfl, rfl, _, rfl, iteF ?_⟩
        refine ⟨_, rfl, rfl, _, rfl, iteF ?_⟩
        refine ⟨_, rfl, rfl, _, rfl, iteF ?_⟩
        exact put x H4 (kH3.trans k4) hP4 (hatm xm (kH3.trans k4)) (okMvK hS (hO.mvk x xm)) (k4 _ _ a3p h33)
      · refine ⟨_, rfl, _, _, rfl, rfl, _, rfl, iteT ?_⟩
        refine ⟨_, rfl, _, rfl, _, rfl, _, _, rfl, .inl (sq_of h7), p, c, ns, _, rfl, by rw [List.length_map]; omega, by rw [List.length_map]; omega, hP3, fun u H4 hu k4 hP4 => ?_⟩
        rw [List.length_map] at hu
        have hux : (mv.filter (kinB z))[u]? = some (mv.filter (kinB z))[u] := List.getElem?_eq_getElem (by omega)
        generalize (mv.filter (kinB z))[u] = x at hux
        have xm : x ∈ mv := (List.mem_filter.mp (List.mem_of_getElem? hux)).1
        refine ⟨a7, _, _, _, rfl, rfl, sq_of (k4 _ _ a7p h7), atI_nat (by rw [List.getElem?_map, hux]; rfl), _, rfl, _, rfl, a3, _, _, at_, rfl, rfl, k4 _ _ a3p h33, ixN_nat (by rw [rl]; exact hat), ?_⟩
        refine ⟨_, rfl, rfl, _, rfl, iteF ?_⟩
        refine ⟨_, rfl, rfl, _, rfl, iteF ?_⟩
        refine ⟨_, rfl, rfl, _, rfl, iteF ?_⟩
        refine ⟨_, rfl, rfl, _, rfl, iteF ?_⟩
        refine ⟨_, rfl, rfl, _, rfl, iteF ?_⟩
        exact put x H4 (kH3.trans k4) hP4 (hatm xm (kH3.trans k4)) (okMvK hS (hO.mvk x xm)) (k4 _ _ a3p h33)
    · refine ⟨_, rfl, _, _, rfl, rfl, _, rfl, iteF ?_⟩
      refine ⟨_, rfl, rfl, _, rfl, iteT ?_⟩
      refine ⟨_, rfl, t, _, _, _, rfl, rfl, st_of (kH3 _ _ (kk e0) e0), rfl, _, rfl, _, rfl, t, _, _, _, rfl, rfl, st_of (kH3 _ _ (kk e0) e0), rfl, _, _, rfl, .inr (st_of (kH3 _ _ (kk e3) e3)), p, c, ns, _, rfl, by rw [List.length_map]; omega, by rw [List.length_map]; omega, hP3, fun u H4 hu k4 hP4 => ?_⟩
      rw [List.length_map] at hu
      have hux : mv[u]? = some mv[u] := List.getElem?_eq_getElem (by omega)
      generalize mv[u] = x at hux
      have xm : x ∈ mv := List.mem_of_getElem? hux
      refine ⟨g0, _, _, _, rfl, rfl, st_of ((kH3.trans k4) _ _ (kk e3) e3), atI_nat (by rw [List.getElem?_map, hux]; rfl), _, rfl, _, rfl, a3, _, _, at_, rfl, rfl, k4 _ _ a3p h33, ixN_nat (by rw [rl]; exact hat), ?_⟩
      refine ⟨_, rfl, rfl, _, rfl, iteF ?_⟩
      refine ⟨_, rfl, rfl, _, rfl, iteF ?_⟩
      refine ⟨_, rfl, rfl, _, rfl, iteF ?_⟩
      refine ⟨_, rfl, rfl, _, rfl, iteF ?_⟩
      exact put x H4 (kH3.trans k4) hP4 (hatm xm (kH3.trans k4)) (okMvK hS (hO.mvk x xm)) (k4 _ _ a3p h33)
    · refine ⟨_, rfl, _, _, rfl, rfl, _, rfl, iteF ?_⟩
      refine ⟨_, rfl, rfl, _, rfl, iteF ?_⟩
      refine ⟨_, rfl, rfl, _, rfl, iteT ?_⟩
      refine ⟨_, rfl, _, rfl, _, rfl, a3, _, rfl, sq_of h33, fun s1 ns1 => ?_⟩
      rw [cutV_refs]
      have y1 := Ex.new (o := .lst (refs (cutR ks none (some (at_ : Int))))) ns1
      refine ⟨_, rfl, _, rfl, _, _, rfl, rfl, _, rfl, a3, _, rfl, sq_of (y1 _ _ h33), fun s2 ns2 => ?_⟩
      rw [cutV_refs]
      have y2 := Ex.new (o := .lst (refs (cutR ks (some ((at_ : Int) + 1)) none))) ns2
      have c1 := cutR_len ks none (some (at_ : Int))
      have c2 := cutR_len ks (some ((at_ : Int) + 1)) none
      refine ⟨s1, s2, _, _, rfl, rfl, y2 _ _ upd_same, upd_same, by rw [List.length_map, List.length_map]; exact sz_of (by omega), fun r nr => ?_⟩
      have y3 := (y1.trans y2).trans (Ex.new (o := .lst (refs (cutR ks none (some (at_ : Int))) ++ refs (cutR ks (some ((at_ : Int) + 1)) none))) nr)
      refine ⟨_, rfl, rfl, _, rfl, iteF ?_⟩
      refine ⟨_, rfl, rfl, _, rfl, iteF ?_⟩
      refine ⟨_, rfl, rfl, _, rfl, iteF ?_⟩
      have kk4 := kH3.trans (Keep.ofEx (p := p) y3)
      refine fin r (cutR ks none (some (at_ : Int)) ++ cutR ks (some ((at_ : Int) + 1)) none) _ (by rw [upd_same]; unfold refs; rw [List.map_append]) (freshR kH3 hP3 (y1.trans y2) nr) (fun x hx => ?_) (by rw [List.length_append]; omega) kk4 (hP3.ex y3)
      rcases List.mem_append.mp hx with hx | hx
      · exact cutR_mem hx
      · exact cutR_mem hx
    · refine ⟨_, rfl, _, _, rfl, rfl, _, rfl, iteF ?_⟩
      refine ⟨_, rfl, rfl, _, rfl, iteF ?_⟩
      refine ⟨_, rfl, rfl, _, rfl, iteF ?_⟩
      refine ⟨_, rfl, rfl, _, rfl, iteT ?_⟩
      refine ⟨_, rfl, _, rfl, _, rfl, a3, _, rfl, sq_of h33, fun s1 ns1 => ?_⟩
      rw [cutV_refs]
      have y1 := Ex.new (o := .lst (refs (cutR ks none (some (at_ : Int))))) ns1
      refine ⟨_, rfl, _, rfl, _, rfl, _, rfl, _, _, rfl, rfl, _, rfl, a3, _, rfl, sq_of (y1 _ _ h33), fun s2 ns2 => ?_⟩
      rw [cutV_refs]
      have y2 := Ex.new (o := .lst (refs (cutR ks (some (at_ : Int)) (some ((at_ : Int) + 1))))) ns2
      have c1 := cutR_len ks none (some (at_ : Int))
      have c2 := cutR_len ks (some (at_ : Int)) (some ((at_ : Int) + 1))
      have c3 := cutR_len ks (some (at_ : Int)) none
      refine ⟨s1, s2, _, _, rfl, rfl, y2 _ _ upd_same, upd_same, by rw [List.length_map, List.length_map]; exact sz_of (by omega), fun s4 ns4 => ?_⟩
      have y4 := (y1.trans y2).trans (Ex.new (o := .lst (refs (cutR ks none (some (at_ : Int))) ++ refs (cutR ks (some (at_ : Int)) (some ((at_ : Int) + 1))))) ns4)
      refine ⟨_, rfl, _, rfl, _, rfl, a3, _, rfl, sq_of (y4 _ _ h33), fun s5 ns5 => ?_⟩
      rw [cutV_refs]
      have y5 := Ex.new (o := .lst (refs (cutR ks (some (at_ : Int)) none))) ns5
      refine ⟨s4, s5, _, _, rfl, rfl, y5 _ _ upd_same, upd_same, by rw [List.length_append, List.length_map, List.length_map, List.length_map]; exact sz_of (by omega), fun r nr => ?_⟩
      have y6 := (y4.trans y5).trans (Ex.new (o := .lst (refs (cutR ks none (some (at_ : Int))) ++ refs (cutR ks (some (at_ : Int)) (some ((at_ : Int) + 1))) ++ refs (cutR ks (some (at_ : Int)) none))) nr)
      refine ⟨_, rfl, rfl, _, rfl, iteF ?_⟩
      refine ⟨_, rfl, rfl, _, rfl, iteF ?_⟩
      have kk4 := kH3.trans (Keep.ofEx (p := p) y6)
      refine fin r (cutR ks none (some (at_ : Int)) ++ cutR ks (some (at_ : Int)) (some ((at_ : Int) + 1)) ++ cutR ks (some (at_ : Int)) none) _ (by rw [upd_same]; unfold refs; rw [List.map_append, List.map_append]) (freshR kH3 hP3 (y4.trans y5) nr) (fun x hx => ?_) (by rw [List.length_append, List.length_append]; omega) kk4 (hP3.ex y6)
      rcases List.mem_append.mp hx with hx | hx
      · rcases List.mem_append.mp hx with hx | hx
        · exact cutR_mem hx
        · exact cutR_mem hx
      · exact cutR_mem hx
    · refine ⟨_, rfl, _, _, rfl, rfl, _, rfl, iteF ?_⟩
      refine ⟨_, rfl, rfl, _, rfl, iteF ?_⟩
      refine ⟨_, rfl, rfl, _, rfl, iteF ?_⟩
      refine ⟨_, rfl, rfl, _, rfl, iteF ?_⟩
      refine ⟨_, rfl, rfl, _, rfl, iteT ?_⟩
      refine ⟨_, rfl, _, rfl, _, _, rfl, .inl (sq_of h33), p, c, ns, _, rfl, by rw [rl]; omega, by rw [rl]; omega, hP3, fun u H4 hu k4 hP4 => ?_⟩
      rw [rl] at hu
      have hux : ks[u]? = some ks[u] := List.getElem?_eq_getElem (by omega)
      generalize ks[u] = x at hux
      have xm : x ∈ ks := List.mem_of_getElem? hux
      have h34 := k4 _ _ a3p h33
      refine ⟨_, rfl, _, rfl, a3, _, _, _, rfl, rfl, sq_of h34, atI_nat (by rw [List.getElem?_map, hux]; rfl), _, rfl, (by show 2 ≤ sizeLine; decide), fun T nT => ?_⟩
      have yT := Ex.new (o := .tup [V.ref x.1, V.ref z.1]) nT
      have h35 := yT _ _ h34
      have hT5 : upd H4 T (.tup [V.ref x.1, V.ref z.1]) T = some (.tup [V.ref x.1, V.ref z.1]) := upd_same
      refine ⟨T, _, rfl, st_of hT5, rfl, _, _, rfl, ?_⟩
      refine ⟨_, rfl, _, rfl, a3, _, _, at_, rfl, rfl, h35, ixN_nat (by rw [rl]; exact hat), ?_⟩
      refine ⟨_, _, rfl, _, rfl, _, rfl, a3, _, _, u, rfl, rfl, upd_same, ixN_nat (by rw [List.length_set, rl]; omega), rfl, ?_⟩
      refine ⟨_, rfl, rfl, _, rfl, iteF ?_⟩
      have k5 := (kH3.trans k4).trans (Keep.ofEx (p := p) yT)
      rw [refs_set, refs_set]
      refine fin a3 ((ks.set at_ x).set u z) _ upd_same n3 (fun y hy => ?_) (by rw [List.length_set, List.length_set]; omega) ((k5.new n3).new n3) (((hP4.ex yT).new a3p.symm a3c.symm).new a3p.symm a3c.symm)
      rcases List.mem_or_eq_of_mem_set hy with hy | rfl
      · rcases List.mem_or_eq_of_mem_set hy with hy | rfl
        · exact hy
        · exact xm
      · exact hzm
    · refine ⟨_, rfl, _, _, rfl, rfl, _, rfl, iteF ?_⟩
      refine ⟨_, rfl, rfl, _, rfl, iteF ?_⟩
      refine ⟨_, rfl, rfl, _, rfl, iteF ?_⟩
      refine ⟨_, rfl, rfl, _, rfl, iteF ?_⟩
      refine ⟨_, rfl, rfl, _, rfl, iteF ?_⟩
      refine ⟨_, rfl, rfl, _, rfl, iteT ?_⟩
      have zat := hatm zmv kH3
      rw [hv] at zat
      refine q_asgLK (ks := odd1 v) (ev_odd1 (K := K) rfl zat) fun o1 O1 H4 n1 y1 ho1 hO1 hk1 => ?_
      have l1 : O1.length = 3 := by
        have := congrArg List.length hk1
        rw [List.length_map] at this
        exact this
      refine q_asgLK (ks := keys O1 ++ odd2 v) (elk_cat rfl ho1 hO1 (ev_odd2 (K := K) rfl (y1 _ _ zat)) (by rw [l1]; exact Nat.le_of_ble_eq_true rfl)) fun o2 O2 H5 n2 y2 ho2 hO2 hk2 => ?_
      have l2 : O2.length = 6 := by
        have := congrArg List.length hk2
        rw [List.length_map, List.length_append, List.length_map, l1] at this
        exact this
      refine q_asgLK (ks := keys O2 ++ odd3) (elk_cat rfl ho2 hO2 ev_odd3 (by rw [l2]; exact Nat.le_of_ble_eq_true rfl)) fun o3 O3 H6 n6 y3 ho3 hO3 hk3 => ?_
      have l3 : O3.length = 11 := by
        have := congrArg List.length hk3
        rw [List.length_map, List.length_append, List.length_map, l2] at this
        exact this
      have y13 := (y1.trans y2).trans y3
      have hP6 := hP3.ex y13
      have kH6 := kH3.trans (Keep.ofEx (p := p) y13)
      have o3p : o3 ≠ p := fun z => by
        obtain ⟨_, _, _, h1, _⟩ := hP3.ex (y1.trans y2)
        rw [z, h1] at n6
        cases n6
      refine ⟨_, rfl, _, rfl, p, c, ns, 11, rfl, by decide, by decide, hP6, fun u H7 hu k7 hP7 => ?_⟩
      have hux : O3[u]? = some O3[u] := List.getElem?_eq_getElem (by omega)
      generalize O3[u] = x at hux
      have xm : x ∈ O3 := List.mem_of_getElem? hux
      have h36 := y13 _ _ h33
      refine ⟨o3, _, _, _, rfl, rfl, sq_of (k7 _ _ o3p ho3), atI_nat (by rw [List.getElem?_map, hux]; rfl), _, rfl, _, rfl, a3, _, _, at_, rfl, rfl, k7 _ _ a3p h36, ixN_nat (by rw [rl]; exact hat), ?_⟩
      refine put x H7 (kH6.trans k7) hP7 (k7 _ _ (hP6.ne_tup (hO3 x xm)) (hO3 x xm)) (ok_odd (v := v) (hv ▸ okMvK hS (hO.mvk z zmv)) x.2 ?_) (k7 _ _ a3p h36)
      have hx2 : x.2 ∈ keys O3 := List.mem_map.mpr ⟨x, xm, rfl⟩
      rw [hk3, hk2, hk1] at hx2
      exact hx2
end
end Eh
set_option Elab.async false
set_option linter.all false
set_option maxRecDepth 100000
set_option maxHeartbeats 4000000
/-! the end of a law whose defs have tables of code objects; no guard stands around the law's own body -/
namespace EndG
open PySem PySem.Spec PyProof.Rows L2 GxR
abbrev tabO : Obj := { cls := .none, data := .fields #[] }
abbrev lstO (vs : List Value) : Obj := { cls := .type "list", data := .seq vs.toArray }
/-- what the law may track at first: the tables, and the script if it isn't K's -/
def h0 (ts : List Addr) (a : Addr) (fz : Bool) (vs : List Value) (ns : List Int) : Hp := fun b => if b ∈ ts then some (.tbl #[]) else if b = a ∧ fz = true then some (.frz (lstO vs) (.lst (ns.map V.int))) else none
section
variable {ts : List Addr} {a b : Addr} {fz : Bool} {vs : List Value} {ns : List Int}
theorem h0_t (h : b ∈ ts) : h0 ts a fz vs ns b = some (.tbl #[]) := if_pos h
theorem h0_a (h : a ∉ ts) (z : fz = true) : h0 ts a fz vs ns a = some (.frz (lstO vs) (.lst (ns.map V.int))) := (if_neg h).trans (if_pos ⟨rfl, z⟩)
theorem h0_n (h : b ∉ ts) (z : ¬ (b = a ∧ fz = true)) : h0 ts a fz vs ns b = none := (if_neg h).trans (if_neg z)
theorem h0_or : b ∈ ts ∨ (b ∉ ts ∧ b = a ∧ fz = true) ∨ h0 ts a fz vs ns b = none := by
  by_cases h : b ∈ ts
  · exact .inl h
  · by_cases z : b = a ∧ fz = true
    · exact .inr (.inl ⟨h, z⟩)
    · exact .inr (.inr (h0_n h z))
end
/-- a body runs: one context -/
theorem enter {CX : CXT} {P : Program} {w : World} {K : PySem.W.Frag} {mg : Str → Option Value} {base : Heap} {k : Nat} {f : Addr} {name qual : Str} {params : Arguments} {body : List Stmt} {scope : Scope} {dV kV doc pm cdv ct oc : Value} {an od : Option Addr} {osl : Array (Option Value)} {N ps : List Str}
    {A : Around} {outer : List Env} {z : Shared} {H : Hp} {args : Args} {us : List Value} {vs : List V} {Q : VK} {E : XK} {t : TS}
    (lk : K.lookup f = some ⟨oc, od, .func (PySem.W.fnOf name qual params body scope dV kV doc pm an cdv ct), osl⟩) (cd : PySem.W.codeIn K cdv qual = true) (S : FnScope N ps scope) (hr : Room (k + 1) A) (e0 : Env0 P w K mg base A outer z H)
    (bi : BindsTo z (PySem.W.fnOf name qual params body scope dV kV doc pm an cdv ct) args (ps.zip us)) (rv : Vals vs us) (hl : vs.length = ps.length)
    (ht : PSs (cxOf CX P w K mg base N qual scope f cdv A outer z H E) body t) (hq : t { nx := fun _ H' => Q .non H', rt := Q } (start N vs) H) :
    codeAny (model P w) A (.call (.ref f) args) (CR CX outer P w H z Q E) z := by
  have kb : ∀ b o, base.get? b = some o → z.heap.get? b = some o := fun b o e => (e0.bs b o e).1
  have kz : K.In z.heap := e0.mod.kin.keeps kb
  refine codeAny_call_function hr.depth (kz _ _ lk) rfl S.co S.gen rfl (PySem.W.codeRec_of kz cd) (bi _ _ _ _ ?_)
  refine wpAny_newFunctionEnv_cells S.kind (fun y hy => ?_) fun env he z1 x => ?_
  · rcases S.par y.1 (List.of_mem_zip hy).1 with q | q
    · exact .inl q
    · exact .inr ⟨q, PySem.W.cellsFrom_some _ _ _ (.inl q)⟩
  subst he
  refine ⟨(e0.mod.nolimit.keeps kb).keeps x.toInCall.keep, codeAny_func (wpAny_mono (ht.run [] z1 (start N vs) H _ (inv_start S hr.hd e0 hl rv x) hq) (fun fl z' hs => ?_) fun e z' hs => hs)⟩
  cases fl with
  | ret u =>
    obtain ⟨v, _, H', J, r, q⟩ := hs
    exact ⟨v, H', J.os, J.bare, J.base, J.hok, r, q⟩
  | next =>
    obtain ⟨_, H', J, q⟩ := hs
    exact ⟨.non, H', J.os, J.bare, J.base, J.hok, rfl, q⟩
  | brk =>
    obtain ⟨_, _, _, q⟩ := hs
    exact q.elim
  | cont =>
    obtain ⟨_, _, _, q⟩ := hs
    exact q.elim
/-- the law is called -/
theorem law_callG {P : Program} {w : World} {K : PySem.W.Frag} {mg mb : Str → Option Value} {CX : CXT} {fa a : Addr} {cs : List (Addr × Addr)} {z : Shared} {vs : List Value} {ns : List Int}
    (kx : K.In z.heap) (gn : z.heap.Ns mainGlobals mg) (bn : z.heap.Ns builtinsNs mb) (bb : ∀ x : Str, x ≠ "__name__" → mb x = bootBuiltins x) (nl : z.heap.NoLimit) (g0 : z.gens = #[])
    (tb : ∀ p ∈ cs, z.heap.get? p.2 = some tabO) (tn : ∀ p ∈ cs, K.lookup p.2 = none) (ch : ∀ p ∈ cs, PySem.W.CodeHd z.heap p.1 p.2)
    (bm : ∃ (bm : Addr) (ob : Obj), mg "__builtins__" = some (.ref bm) ∧ bm ≠ builtinsNs ∧ z.heap.get? bm = some ob ∧ ob.cls = .type "module" ∧ ob.dict = some builtinsNs ∧ ob.data = .plain)
    (sc : z.heap.get? a = some (lstO vs)) (si : IntsAre vs ns) (sl : ns.length ≤ sizeLine)
    (run : ∀ (base : Heap) (H : Hp), K.In base → base.Ns mainGlobals mg → (∀ p ∈ cs, TabB base mg p.1 p.2) → (∀ p ∈ cs, H p.2 = some (.tbl #[])) → SqL K H a (ns.map V.int) → Env0 P w K mg base callerA [] z H →
      codeAny (model P w) callerA (.call (.ref fa) ⟨[.ref a], []⟩) (CR CX [] P w H z (fun v _ => v = .bl true) fun _ _ _ => False) z)
    (hCX : ∀ H e z', CX [] H z (fun _ _ _ => False) e z' → False) :
    codeAny (model P w) callerA (.call (.ref fa) ⟨[.ref a], []⟩) (fun r z' => r = .ok (.ret (.bool true)) ∧ OldK z.heap z'.heap ∧ z'.os = z.os ∧ AllBare z'.gens) z := by
  generalize hts : cs.map (·.2) = ts
  have inT : ∀ p ∈ cs, p.2 ∈ ts := fun p hp => hts ▸ List.mem_map.mpr ⟨p, hp, rfl⟩
  have ofT : ∀ b ∈ ts, ∃ p ∈ cs, p.2 = b := fun b hb => by
    rw [← hts] at hb
    exact List.mem_map.mp hb
  have tO : ∀ b ∈ ts, z.heap.get? b = some tabO := fun b hb => by
    obtain ⟨p, hp, rfl⟩ := ofT b hb
    exact tb p hp
  have aT : a ∉ ts := fun c => by
    have q := (tO a c).symm.trans sc
    have q2 : Data.fields #[] = Data.seq vs.toArray _ := congrArg Obj.data (Option.some.inj q)
    cases q2
  generalize hf : (K.lookup a).isNone = fz
  have rv := vals_ints si
  generalize eH : h0 ts a fz vs ns = H
  have Ht : ∀ b ∈ ts, H b = some (.tbl #[]) := fun b hb => eH ▸ h0_t hb
  have Ha : fz = true → H a = some (.frz (lstO vs) (.lst (ns.map V.int))) := fun c => eH ▸ h0_a aT c
  have Ho : ∀ b, b ∈ ts ∨ (b ∉ ts ∧ b = a ∧ fz = true) ∨ H b = none := fun b => eH ▸ h0_or
  have hS : SqL K H a (ns.map V.int) := by
    cases e : K.lookup a with
    | none => exact .inl (.inr ⟨_, Ha (by rw [← hf, e]; rfl)⟩)
    | some o =>
      have q := (kx a o e).symm.trans sc
      cases q
      exact .inr ⟨_, vs.toArray, _, e, rfl, rfl, rfl, by rw [List.size_toArray, si.length]; exact sl, by simpa using rv⟩
  have hok : HOk P w H z.heap := fun b o e => by
    rcases Ho b with c | ⟨_, rfl, c⟩ | c
    · rw [Ht b c] at e
      cases e
      exact tO b c
    · rw [Ha c] at e
      cases e
      exact ⟨sc, by rw [List.length_map]; exact sl, vs, _, rv, sc⟩
    · rw [c] at e
      cases e
  -- what isn't a table nor the script is in the ground
  have low : ∀ {b : Addr} {o : Obj}, z.heap.get? b = some o → (∀ x n, o.data ≠ .seq x n) → o.data ≠ .fields #[] → H b = none := fun {b o} e n1 n2 => by
    rcases Ho b with c | ⟨_, rfl, _⟩ | c
    · cases (tO b c).symm.trans e
      exact (n2 rfl).elim
    · cases sc.symm.trans e
      exact (n1 _ _ rfl).elim
    · exact c
  have nsG : ∀ {b : Addr} {m : Str → Option Value}, z.heap.Ns b m → (hidT z.heap H).Ns b m := fun {b m} ⟨o, es, ep, e, d, r⟩ =>
    ⟨o, es, ep, hidT_get e (low e (fun x n c => by rw [d] at c; cases c) fun c => by rw [d] at c; cases c), d, r⟩
  have kG : K.In (hidT z.heap H) := fun b o e => by
    refine hidT_get (kx b o e) ?_
    rcases Ho b with c | ⟨_, rfl, c⟩ | c
    · obtain ⟨p, hp, rfl⟩ := ofT b c
      rw [tn p hp] at e
      cases e
    · rw [← hf, e] at c
      cases c
    · exact c
  have TB : ∀ p ∈ cs, TabB (hidT z.heap H) mg p.1 p.2 := fun p hp => by
    refine ⟨?_, ?_, fun c => ?_⟩
    · obtain ⟨o, us, x1, x2, x3, x4, x5, x6, x7, e, r1, r2, r3, r⟩ := ch p hp
      refine ⟨o, us, x1, x2, x3, x4, x5, x6, x7, hidT_get e (low e (fun x n c => by rw [r2] at c; cases c) fun c => ?_), r1, r2, r3, r⟩
      rw [r2] at c
      cases c
      simp at r3
    · obtain ⟨m, ob, b1, b2, b3, b4, b5, b6⟩ := bm
      refine ⟨m, ob, b1, b2, fun c => ?_, fun c => ?_, hidT_get b3 (low b3 (fun x n c => by rw [b6] at c; cases c) fun c => by rw [b6] at c; cases c), b4, b5, b6⟩
      · obtain ⟨o, es, ep, e, d, _⟩ := gn
        rw [c] at b3
        cases b3.symm.trans e
        rw [b6] at d
        cases d
      · rw [c] at b3
        cases b3.symm.trans (tb p hp)
        cases b6
    · obtain ⟨o, es, ep, e, d, _⟩ := gn
      rw [c] at e
      cases e.symm.trans (tb p hp)
      cases d
  have e0 : Env0 P w K mg (hidT z.heap H) callerA [] z H :=
    { frames := rfl, mod := ⟨kG, nsG gn, ⟨mb, nsG bn, bb⟩, nl.elim fun mc q => ⟨mc, nsG q.1, q.2⟩⟩, bs := fun b o e => of_hidT e, bsz := Nat.le_of_eq (hidT_size _ _), funs := trivial, frf := (fun b (c : b ∈ ([] : List Addr)) => (List.not_mem_nil c).elim), hok := hok, bare := .of_eq g0 }
  refine codeAny_mono (run _ H kG (nsG gn) TB (fun p hp => Ht _ (inT p hp)) hS e0) fun r z' q => ?_
  cases r with
  | error e => exact (hCX H e z' q).elim
  | ok fl =>
    cases fl with
    | next => exact q.elim
    | brk => exact q.elim
    | cont => exact q.elim
    | ret u =>
      obtain ⟨v, H', os, ba, un, ok', r, e⟩ := q
      have e : v = .bl true := e
      subst e
      obtain rfl : u = Value.bool true := r
      have same : ∀ b o, b ∉ ts → z.heap.get? b = some o → z'.heap.get? b = some o := fun b o nb e => by
        rcases Ho b with c | ⟨_, rfl, c⟩ | c
        · exact (nb c).elim
        · have q1 := (ok' b _ (un.frzs b _ _ (Ha c))).1
          cases sc.symm.trans e
          exact q1
        · exact un.keep b o e c (fun d => by cases d) fun d => by cases d
      have more : ∀ b ∈ ts, ∃ xs : Array Value, z'.heap.get? b = some { cls := .none, data := .fields xs } := fun b hb => by
        obtain ⟨m, q⟩ := un.tbls b #[] (Ht b hb)
        exact ⟨_, ok' b _ q⟩
      refine ⟨rfl, ⟨fun b o e => ?_, fun b o e => ?_⟩, os, ba⟩
      · by_cases c : b ∈ ts
        · obtain ⟨xs, q⟩ := more b c
          cases (tO b c).symm.trans e
          obtain ⟨p, hp, rfl⟩ := ofT b c
          exact .inr (.inl ⟨((ch p hp).tab (tb p hp)).isCodeTable, rfl, #[], xs, rfl, by rw [Array.empty_append]; exact q⟩)
        · exact .inl (same b o c e)
      · by_cases c : b ∈ ts
        · obtain ⟨xs, q⟩ := more b c
          exact ⟨_, q⟩
        · exact ⟨o, same b o c e⟩
/-- each of these defs has an empty table -/
def Tabs (nms : List Str) (K : PySem.W.Frag) (mg : Str → Option Value) (h : Heap) : Prop := ∀ nm ∈ nms, ∀ f, mg nm = some (.ref f) → LamX.OwnTab K f h
/-- the law, at the head's heap h -/
def LawAtG (l : PySem.W.OpenLaw) (w : World) (K : PySem.W.Frag) (CX : CXT) (n : Nat) (mg : Str → Option Value) (fa : Addr) (h : Heap) : Prop :=
  ∃ cs : List (Addr × Addr), (∀ p ∈ cs, h.get? p.2 = some tabO) ∧ (∀ p ∈ cs, K.lookup p.2 = none) ∧ (∀ p ∈ cs, PySem.W.CodeHd h p.1 p.2) ∧
    ∀ (base : Heap) (H : Hp) (z : Shared) (a : Addr) (ns : List Int), K.In base → base.Ns mainGlobals mg → (∀ p ∈ cs, TabB base mg p.1 p.2) → (∀ p ∈ cs, H p.2 = some (.tbl #[])) → SqL K H a (ns.map V.int) → ns.length ≤ n → (∀ i ∈ ns, Builtin.Int.intBits i ≤ 1048576) → Env0 l.prog w K mg base callerA [] z H →
      codeAny (model l.prog w) callerA (.call (.ref fa) ⟨[.ref a], []⟩) (CR CX [] l.prog w H z (fun v _ => v = .bl true) fun _ _ _ => False) z
theorem walkG {l : PySem.W.OpenLaw} {n : Nat} {q : Program} {loose : List Str} {XP : (Str → Option Value) → Heap → Prop} {YP : World → Heap → Prop} {d : DefRec} {K : Params → PySem.W.Frag} {CX : World → CXT} (nms : List Str)
    (hn : l.most = some n) (hn2 : n ≤ sizeLine) (hdf : d.params.defaults = []) (hrec : (nms.all fun nm => (recsOf q).any fun e => e.name == nm) = true) (hY : ∀ (w : World) (h : Heap), YP w h → (K w.params).In h)
    (F : ∀ (w : World) (mg : Str → Option Value) (fa : Addr) (h : Heap), YP w h → (K w.params).In h → h.Ns mainGlobals mg → mg d.name = some (.ref fa) → Tabs nms (K w.params) mg h → LawAtG l w (K w.params) (CX w) n mg fa h)
    (hCX : ∀ (w : World) (H : Hp) (s : Shared) (e : Value) (s' : Shared), CX w [] H s (fun _ _ _ => False) e s' → False) :
    PySem.W.WalkO q loose XP YP l.row.toRowW d [] (fun f vs => PySem.call f vs) := by
  refine Att.attach_callB hn hdf fun w _ z mg mb fa _ _ _ _ a vs ns G Y _ _ _ hmg hobj hints hlen hbits hg => ?_
  have kx := hY w _ Y
  have own : Tabs nms (K w.params) mg z.heap := fun nm hm f hf c P o fd e dd us sl k1 k2 k3 k4 k5 => by
    obtain ⟨r, hr, he⟩ := List.any_eq_true.mp (List.all_eq_true.mp hrec nm hm)
    obtain ⟨_, _, _, _, _, h1, h2, h3, h4, _, ⟨_, _, e1, _, e3, e4⟩, hP⟩ := G.T.tab r hr
    rw [beq_iff_eq.mp he, hf] at h1
    cases h1
    cases (kx _ _ k1).symm.trans h2
    cases k2.symm.trans h3
    cases k3.symm.trans h4
    cases (kx _ _ k4).symm.trans e1
    cases e3
    cases k5.symm.trans e4
    exact hP
  obtain ⟨cs, t1, t2, t3, run⟩ := F w mg fa _ Y kx G.T.g hmg own
  exact law_callG kx G.T.g G.T.b G.T.builtins G.T.nolimit hg t1 t2 t3 G.T.bmain hobj hints (Nat.le_trans hlen hn2) (fun base H x1 x2 x3 x4 x5 x6 => run base H z a ns x1 x2 x3 x4 x5 hlen hbits x6) fun H e z' => hCX w H z e z'
end EndG
set_option Elab.async false
set_option linter.all false
set_option maxRecDepth 100000
set_option maxHeartbeats 4000000
namespace Eh
open PySem PySem.Spec PyProof.Rows L2 Evl Ms GxR Gx
theorem Pot.et {p c : Addr} {ns : List Int} {H H' : Hp} (h : Pot p c ns H) (e : ET H H') : Pot p c ns H' := by
  obtain ⟨a, r, h0, h1, h2⟩ := h
  exact ⟨a, r, h0, e.lst h1, e.lst h2⟩
theorem tab_keep {p c P : Addr} {ns : List Int} {H H' : Hp} (h : Pot p c ns H) (k : Keep p H H') (t : TabG H P) : TabG H' P := by
  obtain ⟨ps, t1, t2⟩ := t
  refine ⟨ps, k _ _ (fun e => ?_) t1, t2⟩
  obtain ⟨_, _, _, h1, _⟩ := h
  rw [e, h1] at t1
  cases t1
theorem MachAt.kp {p c : Addr} {ns : List Int} {H H' : Hp} {t s : Addr} {os ls qs : List Str} {n m : Nat} {F L : List Nat} {mv : List (Addr × List Key)} (h : MachAt os ls qs H t s n m F L mv) (hP : Pot p c ns H) (k : Keep p H H') : MachAt os ls qs H' t s n m F L mv := by
  obtain ⟨f, l, g, h0, h1, h2, h3⟩ := h.ex
  have kk := fun {a : Addr} {xs : List V} (h : H a = some (.tup xs)) => k _ _ (hP.ne_tup h) h
  refine ⟨⟨f, l, g, kk h0, kk h1, kk h2, kk h3⟩, ?_, fun x hx => kk (h.at_ x hx)⟩
  obtain ⟨a, b, c, s0, s1, s2, s3⟩ := h.sh
  exact ⟨a, b, c, kk s0, kk s1, kk s2, kk s3⟩
/-- a row of moves that may be odd -/
def RowsAt (H : Hp) (a : Addr) : Prop := ∃ ks : List (Addr × List Key), H a = some (.lst (refs ks)) ∧ MsAt H ks ∧ (∀ x ∈ ks, okK x.2) ∧ ks.length ≤ 600
theorem RowsAt.et {H H' : Hp} {a : Addr} (h : RowsAt H a) (e : ET H H') : RowsAt H' a := by
  obtain ⟨ks, h1, h2, h3, h4⟩ := h
  exact ⟨ks, e.lst h1, h2.et e, h3, h4⟩
theorem RowsAt.kp {p c : Addr} {ns : List Int} {H H' : Hp} {a : Addr} (h : RowsAt H a) (hP : Pot p c ns H) (k : Keep p H H') (ha : a ≠ p) : RowsAt H' a := by
  obtain ⟨ks, h1, h2, h3, h4⟩ := h
  exact ⟨ks, k _ _ ha h1, fun x hx => k _ _ (hP.ne_tup (h2 x hx)) (h2 x hx), h3, h4⟩
theorem RowsAt.put {H : Hp} {a S : Addr} {xs : List V} {o : HO} (h : RowsAt H a) (ne : a ≠ S) (hS : H S = some (.lst xs)) : RowsAt (upd H S o) a := by
  obtain ⟨ks, h1, h2, h3, h4⟩ := h
  refine ⟨ks, by rw [upd_ne ne]; exact h1, fun x hx => ?_, h3, h4⟩
  rw [upd_ne (fun z => by have := h2 x hx; rw [z, hS] at this; cases this)]
  exact h2 x hx
abbrev rListOf (K : PySem.W.Frag) : List V → Hp → VK → Prop := fun xs H Q => ∃ p ys, xs = [.ref p] ∧ (SqL K H p ys ∨ SqT K H p ys) ∧ ∀ l, H l = none → Q (.ref l) (upd H l (.lst ys))
theorem head_rd {K : PySem.W.Frag} {σ : L2.St} {H : Hp} {t s : Addr} {os ls qs : List Str} {n m : Nat} {F L : List Nat} {mv : List (Addr × List Key)} {Q : VK} (h : MachAt os ls qs H t s n m F L mv) (ht : σ[3]? = some (some (.ref t)))
    (q : ∀ l R H', Ex H H' → H l = none → H' l = some (.lst (refs R)) → (∀ x ∈ R, x ∈ mv) → R.length ≤ mv.length → Q (.ref l) H') : tCB (rListOf K) (tCons (tSl (rSlA K) (tOp (rIxT K) (tVar 3) (tC (.int 5))) tNoPart (tPart (tC (.int 1)))) tNil) σ H Q := by
  obtain ⟨f, l, g, h0, h1, h2, h3⟩ := h.ex
  refine ⟨_, ht, t, _, _, _, rfl, rfl, st_of h0, rfl, _, rfl, g, _, rfl, st_of h3, fun _ => ?_, fun _ p np => ?_⟩
  · exact ⟨g, _, rfl, .inr (st_of h3), fun l2 nl => q l2 mv _ (Ex.new nl) nl upd_same (fun x hx => hx) (Nat.le_refl _)⟩
  · have e1 := Ex.new (o := .tup (cutV (refs mv) none (some 1))) np
    exact ⟨p, _, rfl, .inr (st_of upd_same), fun l2 nl => q l2 (cutR mv none (some 1)) _ (e1.trans (Ex.new nl)) (fresh_back e1 nl) (by rw [upd_same, cutV_refs]) (fun x hx => cutR_mem hx) (cutR_len _ _ _)⟩
abbrev nLaw : List Str := ["script", "pot", "turn", "machine", "word", "moves", "other_word", "other", "some", "k", "one"]
theorem scLaw : FnScope nLaw ["script"] (defScope sLaw) := ⟨rfl, rfl, rfl, by decide +kernel, rfl, by decide +kernel, by decide +kernel⟩
section
variable {P : Program} {w : World} {K : PySem.W.Frag} {mg : Str → Option Value} {base : Heap}
theorem law_run {PM PQ f fpot fpick fsheet fmachine fown_walk fother fjudged : Addr} {fd dpot dpick dsheet dmachine down_walk dother djudged : FuncData} {k : Nat} (F : Fun K "law" "law" sLaw f fd)
    (Fpot : Fun K "_law_pot" "_law_pot" sPot fpot dpot) (Gpot : FnOk P w K mg base CX0 k fpot dpot ["script"] (spPot K)) (bpot : Binds K dpot ["script"] []) (gpot : mg "_law_pot" = some (.ref fpot))
    (Fpick : Fun K "_law_pick" "_law_pick" sPick fpick dpick) (Gpick : FnOk P w K mg base CX0 k fpick dpick ["pot", "many"] spPick) (bpick : Binds K dpick ["pot", "many"] []) (gpick : mg "_law_pick" = some (.ref fpick))
    (Fsheet : Fun K "_law_sheet" "_law_sheet" sSheet fsheet dsheet) (Gsheet : FnOk P w K mg base CX0 k fsheet dsheet ["pot", "most"] spSheet) (bsheet : Binds K dsheet ["pot", "most"] []) (gsheet : mg "_law_sheet" = some (.ref fsheet))
    (Fmachine : Fun K "_law_machine" "_law_machine" sLawMachine fmachine dmachine) (Gmachine : FnOk P w K mg base CX0 k fmachine dmachine ["pot", "sheet", "rooms", "full"] spMachine) (bmachine : Binds K dmachine ["pot", "sheet", "rooms", "full"] []) (gmachine : mg "_law_machine" = some (.ref fmachine))
    (Fown_walk : Fun K "_law_own_walk" "_law_own_walk" sLawOwnWalk fown_walk down_walk) (Gown_walk : FnOk P w K mg base CX0 k fown_walk down_walk ["pot", "machine", "most"] spOwn) (bown_walk : Binds K down_walk ["pot", "machine", "most"] []) (gown_walk : mg "_law_own_walk" = some (.ref fown_walk))
    (Fother : Fun K "_law_other" "_law_other" sLawOther fother dother) (Gother : FnOk P w K mg base CX0 k fother dother ["pot", "machine", "moves"] spOther) (bother : Binds K dother ["pot", "machine", "moves"] []) (gother : mg "_law_other" = some (.ref fother))
    (Fjudged : Fun K "_law_judged" "_law_judged" sLawJudged fjudged djudged) (Gjudged : FnOk P w K mg base CX0 k fjudged djudged ["machine", "word", "moves"] (spJudged PM PQ)) (bjudged : Binds K djudged ["machine", "word", "moves"] []) (gjudged : mg "_law_judged" = some (.ref fjudged))
    (mint : mg "int" = none) (mrange : mg "range" = none) (mlist : mg "list" = none) (hk : Room (k + 1) callerA)
    {z : Shared} {H : Hp} {a : Addr} {ns : List Int} (bi : ∀ (s : Shared) (u : Value), BindsTo s fd ⟨[u], []⟩ [("script", u)]) (e0 : Env0 P w K mg base callerA [] z H) (hA : SqL K H a (ns.map V.int)) (hns : ns.length ≤ 63) (tM : TabG H PM) (tQ : TabG H PQ) :
    codeAny (model P w) callerA (.call (.ref f) ⟨[.ref a], []⟩) (CR CX0 [] P w H z (fun v _ => v = .bl true) fun _ _ _ => False) z := by
  obtain ⟨oc, od, kV, doc, pm, an, cdv, ct, osl, rfl, h1, h2⟩ := F.ex
  have hr := hk.deeper (envOfC "law" (defScope sLaw) z.heap.objs.size f cdv)
  have nd := scLaw.nd
  have body : ∃ t, PSs (cxOf CX0 P w K mg base nLaw "law" (defScope sLaw) f cdv callerA [] z H fun _ _ _ => False).nox (defBody sLaw) t ∧ t { nx := fun _ H' => (fun (v : V) (_ : Hp) => v = .bl true) .non H', rt := fun v _ => v = .bl true } (start nLaw [.ref a]) H := by
    refine ⟨_, (pss_cons (ps_set (i := 1) nd rfl (.inl rfl) (pe_call Gpot hr (by rfl) gpot Fpot.kp bpot .nil pass0 (pa_cons (pv 0) pa_nil)))
      (pss_cons (ps_for PassesOwn.never rfl (pi_range1 (by rfl) mrange (pa_cons pe_int pa_nil)) (pg_name (i := 2) nd rfl (.inl rfl)) (pss_cons (ps_set (i := 3) nd rfl (.inl rfl) (pe_call Gmachine hr (by rfl) gmachine Fmachine.kp bmachine .nil pass0 (pa_cons (pv 1) (pa_cons (pe_call Gsheet hr (by rfl) gsheet Fsheet.kp bsheet .nil pass0 (pa_cons (pv 1) (pa_cons (pe_ix ix_list (pe_lst (pa_cons pe_int (pa_cons pe_int pa_nil))) (pe_callTy call_int1 (by rfl) mint (by decide +kernel) (pa_cons (pe_cmpR op_eq (pv 2) pe_int (nomark _)) pa_nil)) (fun _ _ => rfl)) pa_nil))) (pa_cons (pe_ix ix_list (pe_lst (pa_cons pe_int (pa_cons pe_int (pa_cons pe_int (pa_cons pe_int (pa_cons pe_int pa_nil)))))) (pv 2) (fun _ _ => rfl)) (pa_cons pe_int pa_nil))))))
      (pss_cons (ps_asg (pe_call Gown_walk hr (by rfl) gown_walk Fown_walk.kp bown_walk .nil pass0 (pa_cons (pv 1) (pa_cons (pv 3) (pa_cons (pe_ix ix_list (pe_lst (pa_cons (pe_op op_add pe_int (pe_call Gpick hr (by rfl) gpick Fpick.kp bpick .nil pass0 (pa_cons (pv 1) (pa_cons pe_int pa_nil)))) (pa_cons pe_int pa_nil))) (pe_callTy call_int1 (by rfl) mint (by decide +kernel) (pa_cons (pe_cmpR op_eq (pv 2) pe_int (nomark _)) pa_nil)) (fun _ _ => rfl)) pa_nil)))) (pg_tup rfl (pgs_cons (pg_name (i := 4) nd rfl (.inl rfl)) (pgs_cons (pg_name (i := 5) nd rfl (.inl rfl)) pgs_nil))))
      (pss_cons (ps_asg (pe_call Gown_walk hr (by rfl) gown_walk Fown_walk.kp bown_walk .nil pass0 (pa_cons (pv 1) (pa_cons (pv 3) (pa_cons pe_int pa_nil)))) (pg_tup rfl (pgs_cons (pg_name (i := 6) nd rfl (.inl rfl)) (pgs_cons (pg_name (i := 7) nd rfl (.inl rfl)) pgs_nil))))
      (pss_cons (ps_set (i := 8) nd rfl (.inl rfl) (pe_lst (pa_cons (pv 5) (pa_cons (pv 7) (pa_cons (pe_lst pa_nil) (pa_cons (pe_callTy call_list_of (by rfl) mlist (by decide +kernel) (pa_cons (pe_slice sl_tupA (pe_ix ix_tup (pv 3) pe_int (fun _ _ => rfl)) po_none (po_some pe_int)) pa_nil)) pa_nil))))))
      (pss_cons (ps_for PassesOwn.never rfl (pi_range1 (by rfl) mrange (pa_cons (pe_op op_mul pe_int (pe_callTy call_int1 (by rfl) mint (by decide +kernel) (pa_cons (pe_cmpR (op_neD hr.units) (pv 5) (pe_lst pa_nil) (nomark _)) pa_nil))) pa_nil)) (pg_name (i := 9) nd rfl (.inl rfl)) (pss_one (ps_expr (pe_bm PySem.F.plainAttrs_list PySem.F.slot_list_append PySem.F.type_list_append mt_append (pv 8) (pa_cons (pe_call Gother hr (by rfl) gother Fother.kp bother .nil pass0 (pa_cons (pv 1) (pa_cons (pv 3) (pa_cons (pv 5) pa_nil)))) pa_nil)))))
      (pss_cons (ps_for PassesOwn.never rfl (pi_list (pv 8)) (pg_name (i := 10) nd rfl (.inl rfl)) (pss_one (ps_if (PW.pt (pw_or (pt_not (pt_val (pe_call Gjudged hr (by rfl) gjudged Fjudged.kp bjudged .nil pass0 (pa_cons (pv 3) (pa_cons (pv 4) (pa_cons (pv 10) pa_nil)))))) (pw_or1 (pt_not (pt_val (pe_call Gjudged hr (by rfl) gjudged Fjudged.kp bjudged .nil pass0 (pa_cons (pv 3) (pa_cons (pe_lst pa_nil) (pa_cons (pv 10) pa_nil))))))))) (pss_one (ps_ret pe_bl)) pss_nil)))
      (pss_one (ps_if (pt_not (pt_val (pe_call Gjudged hr (by rfl) gjudged Fjudged.kp bjudged .nil pass0 (pa_cons (pv 3) (pa_cons (pv 6) (pa_cons (pv 5) pa_nil)))))) (pss_one (ps_ret pe_bl)) pss_nil)))))))))
      (pss_one (ps_ret pe_bl)))), ?_⟩
    refine ⟨_, rfl, a, ns, rfl, hA, hns, fun p c ms H1 e1 hP1 np nc => ?_⟩
    refine ⟨5, rfl, by decide, by decide, for_range (lo := 0) (n := 5) (fun i σ H' => (∃ y2 y3 y4 y5 y6 y7 y8 y9 y10, σ = [some (.ref a), some (.ref p), y2, y3, y4, y5, y6, y7, y8, y9, y10]) ∧ Pot p c ms H' ∧ TabG H' PM ∧ TabG H' PQ) ⟨⟨_, _, _, _, _, _, _, _, _, rfl⟩, hP1, (ET.of e1).tab _ tM, (ET.of e1).tab _ tQ⟩ ?_ ?_⟩
    · rintro i σ H2 hi ⟨⟨y2, y3, y4, y5, y6, y7, y8, y9, y10, rfl⟩, hP2, tM2, tQ2⟩
      have potn : ∀ {H6 : Hp} {b : Addr}, Pot p c ms H6 → H6 b = none → b ≠ p := fun {H6 b} hp hb => (hp.ne_new hb).1.symm
      have m1 : ∀ k : Bool, ∃ m : Nat, 1 ≤ m ∧ m ≤ 4 ∧ atI [V.int 2, .int 4] (if k then 1 else 0) = some (.int (m : Int)) := fun k => by
        cases k
        · exact ⟨2, by decide, by decide, rfl⟩
        · exact ⟨4, by decide, by decide, rfl⟩
      have m2 : ∃ m : Nat, 1 ≤ m ∧ m ≤ 6 ∧ atI [V.int 3, .int 6, .int 4, .int 4, .int 4] (0 + (i : Int)) = some (.int (m : Int)) := by
        rcases (show i = 0 ∨ i = 1 ∨ i = 2 ∨ i = 3 ∨ i = 4 by omega) with rfl | rfl | rfl | rfl | rfl
        · exact ⟨3, by decide, by decide, rfl⟩
        · exact ⟨6, by decide, by decide, rfl⟩
        · exact ⟨4, by decide, by decide, rfl⟩
        · exact ⟨4, by decide, by decide, rfl⟩
        · exact ⟨4, by decide, by decide, rfl⟩
      obtain ⟨r2, r21, r22, hr2⟩ := m2
      refine ⟨_, rfl, _, rfl, (by show 2 ≤ sizeLine; decide), fun b1 nb1 => ⟨_, rfl, rfl, .inr ⟨_, rfl, ?_⟩⟩⟩
      obtain ⟨r1, r11, r12, hr1⟩ := m1 (decide (V.int (0 + (i : Int)) = V.int 0))
      have x1 := Ex.new (o := .lst [.int 2, .int 4]) nb1
      refine ⟨b1, _, _, _, rfl, rfl, sq_of upd_same, hr1, p, c, ms, r1, rfl, r11, r12, hP2.ex x1, fun os ls qs sh H3 hS hs3 kp3 hP3 => ?_⟩
      refine ⟨(by show 5 ≤ sizeLine; decide), fun b2 nb2 => ⟨_, rfl, b2, _, _, _, rfl, rfl, sq_of upd_same, hr2, ?_⟩⟩
      have x2 := Ex.new (o := .lst [.int 3, .int 6, .int 4, .int 4, .int 4]) nb2
      refine ⟨p, c, sh, ms, os, ls, qs, r2, 1, rfl, r21, r22, by decide, hP3.ex x2, hS, hs3.ex x2, fun t n m F L mv H4 hM hO kp4 hP4 => ?_⟩
      have k24 : Keep p H2 H4 := (((Keep.ofEx x1).trans kp3).trans (Keep.ofEx x2)).trans kp4
      refine ⟨_, rfl, _, rfl, _, rfl, p, c, ms, 10, rfl, by decide, by decide, hP4, fun v5 H5 hv5 k5 hP5 => ?_⟩
      refine ⟨_, _, rfl, rfl, (by show 2 ≤ sizeLine; decide), fun b3 nb3 => ⟨_, rfl, rfl, .inr ⟨_, rfl, ?_⟩⟩⟩
      have m3 : ∀ k : Bool, ∃ m : Nat, m ≤ 60 ∧ atI [V.int (1 + (v5 : Int)), .int 60] (if k then 1 else 0) = some (.int (m : Int)) := fun k => by
        cases k
        · exact ⟨1 + v5, by omega, by rw [show ((1 + v5 : Nat) : Int) = 1 + (v5 : Int) by omega]; rfl⟩
        · exact ⟨60, by decide, rfl⟩
      obtain ⟨r3, r31, hr3⟩ := m3 (decide (V.int (0 + (i : Int)) = V.int 4))
      have x3 := Ex.new (o := .lst [V.int (1 + (v5 : Int)), .int 60]) nb3
      have hM5 := (hM.kp hP4 k5).et (ET.of x3)
      refine ⟨b3, _, _, _, rfl, rfl, sq_of upd_same, hr3, p, c, t, sh, ms, os, ls, qs, n, m, F, L, mv, r3, rfl, r31, hP5.ex x3, hS, hM5, hO, fun rr wd mo W ks H6 hrr hwd hmo nwd nmo hin hwl hW1 hk1 hbal k6 hP6 => ?_⟩
      have k26 : Keep p H2 H6 := ((k24.trans k5).trans (Keep.ofEx x3)).trans k6
      have hM6 := hM5.kp (hP5.ex x3) k6
      have wdp := potn (hP5.ex x3) nwd
      have mop := potn (hP5.ex x3) nmo
      refine ⟨rr, _, rfl, st_of hrr, rfl, _, _, rfl, _, _, rfl, rfl, ?_⟩
      refine ⟨_, rfl, _, rfl, p, c, t, sh, ms, os, ls, qs, n, m, F, L, mv, 6, rfl, by decide, hP6, hS, hM6, hO, fun rr2 wd2 ot W2 ks2 H7 hrr2 hwd2 hot nwd2 not2 hin2 hwl2 hW2 hk2 hbal2 k7 hP7 => ?_⟩
      have k27 : Keep p H2 H7 := k26.trans k7
      have hM7 := hM6.kp hP6 k7
      have wd2p := potn hP6 nwd2
      have otp := potn hP6 not2
      replace hwd := k7 _ _ wdp hwd
      replace hmo := k7 _ _ mop hmo
      refine ⟨rr2, _, rfl, st_of hrr2, rfl, _, _, rfl, _, _, rfl, rfl, ?_⟩
      have m6 := hO.ml
      have okm : ∀ {ks : List (Addr × List Key)}, (∀ x ∈ ks, x ∈ mv) → ∀ x ∈ ks, okK x.2 := fun h x hx => okMvK hS (hO.mvk x (h x hx))
      -- some
      refine ⟨_, rfl, _, rfl, Nat.zero_le _, fun em nem => ?_⟩
      have x4 := Ex.new (o := .lst []) nem
      have hM8 := hM7.et (ET.of x4)
      refine head_rd (K := K) hM8 rfl fun hd R H8 e8 nhd hhd hR hRl => ⟨(by show 4 ≤ sizeLine; decide), fun S nS => ?_⟩
      have x5 := Ex.new (o := .lst [.ref mo, .ref ot, .ref em, .ref hd]) nS
      have e79 := (x4.trans e8).trans x5
      have hP9 := hP7.ex e79
      have hM9 := hM7.et (ET.of e79)
      have Sp := potn (hP7.ex (x4.trans e8)) nS
      have nS7 : H7 S = none := fresh_back (x4.trans e8) nS
      have Sc : S ≠ c := ((hP7.ex (x4.trans e8)).ne_new nS).2.symm
      have rowM : ∀ {H9 : Hp} {b : Addr} {ks : List (Addr × List Key)}, MachAt os ls qs H9 t sh n m F L mv → H9 b = some (.lst (refs ks)) → (∀ x ∈ ks, x ∈ mv) → ks.length ≤ 600 → RowsAt H9 b := fun hM' hb hin' hl' => ⟨_, hb, fun x hx => hM'.at_ x (hin' x hx), okm hin', hl'⟩
      refine ⟨_, rfl, Nat.zero_le _, fun z0 nz0 => ?_⟩
      have x6 := Ex.new (o := .lst []) nz0
      have e7a := e79.trans x6
      have e8a := x5.trans x6
      refine ⟨.list ((keys ks).map kD), .list [], .lst (sq_of (e7a _ _ hmo)) (dpRows ks fun x hx => (hM7.et (ET.of e7a)).at_ x (hin x hx)), .lst (sq_of upd_same) .nil, shapedK (fun kx hkx => ?_), shaped0, .inr ⟨_, rfl, _, _, rfl, rfl, .inl ⟨by decide, by decide⟩, ?_⟩⟩
      · obtain ⟨x, hx, rfl⟩ := List.mem_map.mp hkx
        exact okm hin x hx
      rw [eqv_nilL]
      have hcnt : ∃ cn : Nat, cn ≤ 4 ∧ (4 * (if (!((keys ks).map kD).isEmpty) = true then 1 else 0) : Int) = (cn : Int) ∧ (0 < cn → ks ≠ []) := by
        cases ks with
        | nil => exact ⟨0, by decide, rfl, fun z => absurd z (Nat.lt_irrefl _)⟩
        | cons _ _ => exact ⟨4, by decide, rfl, fun _ z => nomatch z⟩
      obtain ⟨cn, cn4, hcn, hcn0⟩ := hcnt
      refine ⟨_, rfl, ?_⟩
      rw [hcn]
      refine ⟨by omega, by omega, ?_⟩
      rw [Int.toNat_natCast]
      have hSa : upd (upd H8 S (.lst [.ref mo, .ref ot, .ref em, .ref hd])) z0 (.lst []) S = some (.lst [.ref mo, .ref ot, .ref em, .ref hd]) := x6 _ _ upd_same
      have hemH : upd H7 em (.lst []) em = some (.lst []) := upd_same
      generalize hHa : upd (upd H8 S (.lst [.ref mo, .ref ot, .ref em, .ref hd])) z0 (.lst []) = Ha at e7a hSa e8a
      have hMa := hM7.et (ET.of e7a)
      have hPa := hP7.ex e7a
      refine for_range (fun j σ H' => (∃ y9 y10, σ = [some (.ref a), some (.ref p), some (.int (0 + (i : Int))), some (.ref t), some (.ref wd), some (.ref mo), some (.ref wd2), some (.ref ot), some (.ref S), y9, y10]) ∧ Keep p H7 H' ∧ Pot p c ms H' ∧ ∃ xs : List V, H' S = some (.lst xs) ∧ xs.length ≤ 4 + j ∧ ∀ v ∈ xs, ∃ b, v = .ref b ∧ b ≠ p ∧ b ≠ S ∧ RowsAt H' b) ⟨⟨_, _, rfl⟩, Keep.ofEx e7a, hPa, _, hSa, by show 4 ≤ 4 + 0; decide, fun v hv => ?_⟩ ?_ ?_
      · simp only [List.mem_cons, List.not_mem_nil, or_false] at hv
        rcases hv with rfl | rfl | rfl | rfl
        · exact ⟨mo, rfl, mop, ne_of_none hmo nS7, rowM hMa (e7a _ _ hmo) hin (by omega)⟩
        · exact ⟨ot, rfl, otp, ne_of_none hot nS7, rowM hMa (e7a _ _ hot) hin2 (by omega)⟩
        · exact ⟨em, rfl, potn hP7 nem, ne_of_none (e8 _ _ hemH) nS, [], e8a _ _ (e8 _ _ hemH), fun x hx => (List.not_mem_nil hx).elim, fun x hx => (List.not_mem_nil hx).elim, Nat.zero_le _⟩
        · exact ⟨hd, rfl, potn (hP7.ex x4) nhd, ne_of_none hhd nS, rowM hMa (e8a _ _ hhd) hR (by omega)⟩
      · rintro j σ H' hj ⟨⟨y9, y10, rfl⟩, kH, hP', xs, hxs, hxl, hall⟩
        have hM' := hM7.kp hP7 kH
        refine ⟨_, rfl, .inl ⟨rfl, _, sq_of hxs⟩, _, rfl, _, rfl, _, rfl, p, c, t, sh, mo, ms, os, ls, qs, n, m, F, L, mv, ks, rfl, hP', hS, hM', hO, kH _ _ mop hmo, hin, hcn0 (by omega), hk1, fun r ks' H'' hr nr hms hok hlen k2 hP2' => ?_⟩
        refine ⟨S, _, _, rfl, rfl, k2 _ _ Sp hxs, sz_lt (by omega), ⟨_, _, rfl⟩, (kH.trans k2).new nS7, hP2'.new Sp.symm Sc.symm, xs ++ [.ref r], upd_same, by rw [List.length_append]; show xs.length + 1 ≤ _; omega, fun v hv => ?_⟩
        rcases List.mem_append.mp hv with hv | hv
        · obtain ⟨b, rfl, bp, bS, hb⟩ := hall v hv
          exact ⟨b, rfl, bp, bS, (hb.kp hP' k2 bp).put bS (k2 _ _ Sp hxs)⟩
        · rw [List.mem_singleton.mp hv]
          have rS : r ≠ S := (ne_of_none hxs nr).symm
          exact ⟨r, rfl, potn hP' nr, rS, RowsAt.put ⟨ks', hr, hms, hok, by omega⟩ rS (k2 _ _ Sp hxs)⟩
      · rintro σ H' ⟨⟨y9, y10, rfl⟩, kH, hP', xs, hxs, hxl, hall⟩
        have hM' := hM7.kp hP7 kH
        have tM' := tab_keep hP2 (k27.trans kH) tM2
        have tQ' := tab_keep hP2 (k27.trans kH) tQ2
        have hwd' := kH _ _ wdp hwd
        have hmo' := kH _ _ mop hmo
        have hwd2' := kH _ _ wd2p hwd2
        refine ⟨_, rfl, S, rfl, ⟨_, sq_of hxs⟩, for_list (K := K) (xs := xs) (fun j σ H3 => (∃ y10, σ = [some (.ref a), some (.ref p), some (.int (0 + (i : Int))), some (.ref t), some (.ref wd), some (.ref mo), some (.ref wd2), some (.ref ot), some (.ref S), y9, y10]) ∧ ET H' H3) ⟨⟨_, rfl⟩, ET.refl _⟩ (fun j σ H3 _ h => sq_of (h.2.lst hxs)) ?_ ?_⟩
        · rintro j v σ H3 hv ⟨⟨y10, rfl⟩, t3⟩
          obtain ⟨b, rfl, bp, bS, hb⟩ := hall v (List.mem_of_getElem? hv)
          obtain ⟨kb, c1, c2, c3, c4⟩ := hb.et t3
          refine ⟨_, rfl, _, rfl, _, rfl, t, sh, wd, b, os, ls, qs, n, m, F, L, mv, kb, W, rfl, hM'.et t3, hO, hS, t3.lst hwd', hwl, by omega, hbal, c1, c2, c3, by omega, t3.tab _ tM', t3.tab _ tQ', fun H4 t4 => ⟨_, rfl, iteF ?_⟩⟩
          refine ⟨_, rfl, Nat.zero_le _, fun z1 nz1 => ⟨_, rfl, ?_⟩⟩
          have t5 := (t3.trans t4).trans (ET.of (Ex.new (o := .lst []) nz1))
          obtain ⟨kb2, d1, d2, d3, d4⟩ := hb.et t5
          exact ⟨t, sh, z1, b, os, ls, qs, n, m, F, L, mv, kb2, [], rfl, hM'.et t5, hO, hS, upd_same, fun x hx => (List.not_mem_nil hx).elim, Nat.zero_le _, rfl, d1, d2, d3, by omega, t5.tab _ tM', t5.tab _ tQ', fun H6 t6 => ⟨_, rfl, iteF ⟨⟨_, rfl⟩, t5.trans t6⟩⟩⟩
        · rintro σ H3 ⟨⟨y10, rfl⟩, t3⟩
          refine ⟨_, rfl, _, rfl, _, rfl, t, sh, wd2, mo, os, ls, qs, n, m, F, L, mv, ks, W2, rfl, hM'.et t3, hO, hS, t3.lst hwd2', hwl2, by omega, hbal2, t3.lst hmo', (fun x hx => (hM'.et t3).at_ x (hin x hx)), okm hin, by omega, t3.tab _ tM', t3.tab _ tQ', fun H4 t4 => ⟨_, rfl, iteF ?_⟩⟩
          exact ⟨⟨_, _, _, _, _, _, _, _, _, rfl⟩, hP'.et (t3.trans t4), (t3.trans t4).tab _ tM', (t3.trans t4).tab _ tQ'⟩
    · rintro σ H' ⟨⟨y2, y3, y4, y5, y6, y7, y8, y9, y10, rfl⟩, _⟩
      exact rfl
  obtain ⟨t, ht, hq⟩ := body
  exact EndG.enter (us := [.ref a]) (vs := [.ref a]) h1 h2 scLaw hk e0 (bi z (.ref a)) (.cons rfl .nil) rfl ht.nox hq
end
end Eh
set_option Elab.async false
set_option linter.all false
set_option maxRecDepth 100000
set_option maxHeartbeats 4000000
namespace Eh
open PySem PySem.Spec PyProof.Rows L2 Evl Ms GxR Gx
theorem all_mk {l : PySem.W.OpenLaw} {w : World} {K : PySem.W.Frag} {h : Heap} {mg : Str → Option Value} {fa f0 f1 f2 f3 f4 f5 f6 f7 f8 f9 f10 f11 f12 f13 f14 f15 f16 f17 f18 f19 f20 : Addr} (X : K.In h) (G : h.Ns mainGlobals mg) (hfa : mg "law" = some (.ref fa)) (own : EndG.Tabs ["are_moves_by", "is_walk"] K mg h)
    {od0 an0 : Option Addr} {sl0 : Array (Option Value)} {oc0 kV0 dc0 pm0 ct0 : Value} {cd0 : Value}
    {od1 an1 : Option Addr} {sl1 : Array (Option Value)} {oc1 kV1 dc1 pm1 ct1 : Value} {cd1 : Value}
    {od2 an2 : Option Addr} {sl2 : Array (Option Value)} {oc2 kV2 dc2 pm2 ct2 : Value} {cd2 : Value}
    {od3 an3 : Option Addr} {sl3 : Array (Option Value)} {oc3 kV3 dc3 pm3 ct3 : Value} {cd3 : Value}
    {od4 an4 : Option Addr} {sl4 : Array (Option Value)} {oc4 kV4 dc4 pm4 ct4 : Value} {cd4 : Value}
    {od5 an5 : Option Addr} {sl5 : Array (Option Value)} {oc5 kV5 dc5 pm5 ct5 : Value} {cd5 : Value}
    {od6 an6 : Option Addr} {sl6 : Array (Option Value)} {oc6 kV6 dc6 pm6 ct6 : Value} {cd6 : Value}
    {od7 an7 : Option Addr} {sl7 : Array (Option Value)} {oc7 kV7 dc7 pm7 ct7 : Value} {cc7 PT7 : Addr} {ce7 : Value} {cdd7 : Option Addr} {vsC7 : Array Value} {ccs7 : Array (Option Value)}
    {od8 an8 : Option Addr} {sl8 : Array (Option Value)} {oc8 kV8 dc8 pm8 ct8 : Value} {cd8 : Value}
    {od9 an9 : Option Addr} {sl9 : Array (Option Value)} {oc9 kV9 dc9 pm9 ct9 : Value} {cc9 PT9 : Addr} {ce9 : Value} {cdd9 : Option Addr} {vsC9 : Array Value} {ccs9 : Array (Option Value)}
    {od10 an10 : Option Addr} {sl10 : Array (Option Value)} {oc10 kV10 dc10 pm10 ct10 : Value} {cd10 : Value}
    {od11 an11 : Option Addr} {sl11 : Array (Option Value)} {oc11 kV11 dc11 pm11 ct11 : Value} {cd11 : Value}
    {od12 an12 : Option Addr} {sl12 : Array (Option Value)} {oc12 kV12 dc12 pm12 ct12 : Value} {cd12 : Value}
    {od13 an13 : Option Addr} {sl13 : Array (Option Value)} {oc13 kV13 dc13 pm13 ct13 : Value} {cd13 : Value}
    {od14 an14 : Option Addr} {sl14 : Array (Option Value)} {oc14 kV14 dc14 pm14 ct14 : Value} {cd14 : Value}
    {od15 an15 : Option Addr} {sl15 : Array (Option Value)} {oc15 kV15 dc15 pm15 ct15 : Value} {cd15 : Value}
    {od16 an16 : Option Addr} {sl16 : Array (Option Value)} {oc16 kV16 dc16 pm16 ct16 : Value} {cd16 : Value}
    {od17 an17 : Option Addr} {sl17 : Array (Option Value)} {oc17 kV17 dc17 pm17 ct17 : Value} {cd17 : Value}
    {od18 an18 : Option Addr} {sl18 : Array (Option Value)} {oc18 kV18 dc18 pm18 ct18 : Value} {cd18 : Value}
    {od19 an19 : Option Addr} {sl19 : Array (Option Value)} {oc19 kV19 dc19 pm19 ct19 : Value} {cd19 : Value}
    {od20 an20 : Option Addr} {sl20 : Array (Option Value)} {oc20 kV20 dc20 pm20 ct20 : Value} {cd20 : Value}
    (a0 : PySem.W.nsIn K mainGlobals "order_of" = some (some (.ref f0)))
    (l0 : K.lookup f0 = some ⟨oc0, od0, .func (PySem.W.fnOf "order_of" "order_of" (defArgs sOrderOf) (defBody sOrderOf) (defScope sOrderOf) .none kV0 dc0 pm0 an0 cd0 ct0), sl0⟩)
    (c0 : PySem.W.codeIn K cd0 "order_of" = true)
    (k0 : PySem.W.keepIn K (.ref f0) = true)
    (a1 : PySem.W.nsIn K mainGlobals "need_word" = some (some (.ref f1)))
    (l1 : K.lookup f1 = some ⟨oc1, od1, .func (PySem.W.fnOf "need_word" "need_word" (defArgs sNeedWord) (defBody sNeedWord) (defScope sNeedWord) .none kV1 dc1 pm1 an1 cd1 ct1), sl1⟩)
    (c1 : PySem.W.codeIn K cd1 "need_word" = true)
    (k1 : PySem.W.keepIn K (.ref f1) = true)
    (a2 : PySem.W.nsIn K mainGlobals "answers" = some (some (.ref f2)))
    (l2 : K.lookup f2 = some ⟨oc2, od2, .func (PySem.W.fnOf "answers" "answers" (defArgs sAnswers) (defBody sAnswers) (defScope sAnswers) .none kV2 dc2 pm2 an2 cd2 ct2), sl2⟩)
    (c2 : PySem.W.codeIn K cd2 "answers" = true)
    (k2 : PySem.W.keepIn K (.ref f2) = true)
    (a3 : PySem.W.nsIn K mainGlobals "alone" = some (some (.ref f3)))
    (l3 : K.lookup f3 = some ⟨oc3, od3, .func (PySem.W.fnOf "alone" "alone" (defArgs sAlone) (defBody sAlone) (defScope sAlone) .none kV3 dc3 pm3 an3 cd3 ct3), sl3⟩)
    (c3 : PySem.W.codeIn K cd3 "alone" = true)
    (k3 : PySem.W.keepIn K (.ref f3) = true)
    (a4 : PySem.W.nsIn K mainGlobals "need_shut" = some (some (.ref f4)))
    (l4 : K.lookup f4 = some ⟨oc4, od4, .func (PySem.W.fnOf "need_shut" "need_shut" (defArgs sNeedShut) (defBody sNeedShut) (defScope sNeedShut) .none kV4 dc4 pm4 an4 cd4 ct4), sl4⟩)
    (c4 : PySem.W.codeIn K cd4 "need_shut" = true)
    (k4 : PySem.W.keepIn K (.ref f4) = true)
    (a5 : PySem.W.nsIn K mainGlobals "is_begin" = some (some (.ref f5)))
    (l5 : K.lookup f5 = some ⟨oc5, od5, .func (PySem.W.fnOf "is_begin" "is_begin" (defArgs sIsBegin) (defBody sIsBegin) (defScope sIsBegin) .none kV5 dc5 pm5 an5 cd5 ct5), sl5⟩)
    (c5 : PySem.W.codeIn K cd5 "is_begin" = true)
    (k5 : PySem.W.keepIn K (.ref f5) = true)
    (a6 : PySem.W.nsIn K mainGlobals "letter_of" = some (some (.ref f6)))
    (l6 : K.lookup f6 = some ⟨oc6, od6, .func (PySem.W.fnOf "letter_of" "letter_of" (defArgs sLetterOf) (defBody sLetterOf) (defScope sLetterOf) .none kV6 dc6 pm6 an6 cd6 ct6), sl6⟩)
    (c6 : PySem.W.codeIn K cd6 "letter_of" = true)
    (k6 : PySem.W.keepIn K (.ref f6) = true)
    (a7 : PySem.W.nsIn K mainGlobals "are_moves_by" = some (some (.ref f7)))
    (l7 : K.lookup f7 = some ⟨oc7, od7, .func (PySem.W.fnOf "are_moves_by" "are_moves_by" (defArgs sAreMovesBy) (defBody sAreMovesBy) (defScope sAreMovesBy) .none kV7 dc7 pm7 an7 (.ref cc7) ct7), sl7⟩)
    (c7 : PySem.W.codeIn K (.ref cc7) "are_moves_by" = true)
    (k7 : PySem.W.keepIn K (.ref f7) = true)
    (co7 : K.lookup cc7 = some ⟨ce7, cdd7, .fields vsC7, ccs7⟩)
    (pt7 : vsC7[11]? = some (.ref PT7))
    (pn7 : K.lookup PT7 = none)
    (hd7 : PySem.W.codeHdIn K cc7 PT7 = true)
    (a8 : PySem.W.nsIn K mainGlobals "are_marks_kept" = some (some (.ref f8)))
    (l8 : K.lookup f8 = some ⟨oc8, od8, .func (PySem.W.fnOf "are_marks_kept" "are_marks_kept" (defArgs sAreMarksKept) (defBody sAreMarksKept) (defScope sAreMarksKept) .none kV8 dc8 pm8 an8 cd8 ct8), sl8⟩)
    (c8 : PySem.W.codeIn K cd8 "are_marks_kept" = true)
    (k8 : PySem.W.keepIn K (.ref f8) = true)
    (a9 : PySem.W.nsIn K mainGlobals "is_walk" = some (some (.ref f9)))
    (l9 : K.lookup f9 = some ⟨oc9, od9, .func (PySem.W.fnOf "is_walk" "is_walk" (defArgs sIsWalk) (defBody sIsWalk) (defScope sIsWalk) .none kV9 dc9 pm9 an9 (.ref cc9) ct9), sl9⟩)
    (c9 : PySem.W.codeIn K (.ref cc9) "is_walk" = true)
    (k9 : PySem.W.keepIn K (.ref f9) = true)
    (co9 : K.lookup cc9 = some ⟨ce9, cdd9, .fields vsC9, ccs9⟩)
    (pt9 : vsC9[11]? = some (.ref PT9))
    (pn9 : K.lookup PT9 = none)
    (hd9 : PySem.W.codeHdIn K cc9 PT9 = true)
    (a10 : PySem.W.nsIn K mainGlobals "_law_blend" = some (some (.ref f10)))
    (l10 : K.lookup f10 = some ⟨oc10, od10, .func (PySem.W.fnOf "_law_blend" "_law_blend" (defArgs sBlend) (defBody sBlend) (defScope sBlend) .none kV10 dc10 pm10 an10 cd10 ct10), sl10⟩)
    (c10 : PySem.W.codeIn K cd10 "_law_blend" = true)
    (k10 : PySem.W.keepIn K (.ref f10) = true)
    (a11 : PySem.W.nsIn K mainGlobals "_law_pot" = some (some (.ref f11)))
    (l11 : K.lookup f11 = some ⟨oc11, od11, .func (PySem.W.fnOf "_law_pot" "_law_pot" (defArgs sPot) (defBody sPot) (defScope sPot) .none kV11 dc11 pm11 an11 cd11 ct11), sl11⟩)
    (c11 : PySem.W.codeIn K cd11 "_law_pot" = true)
    (k11 : PySem.W.keepIn K (.ref f11) = true)
    (a12 : PySem.W.nsIn K mainGlobals "_law_pick" = some (some (.ref f12)))
    (l12 : K.lookup f12 = some ⟨oc12, od12, .func (PySem.W.fnOf "_law_pick" "_law_pick" (defArgs sPick) (defBody sPick) (defScope sPick) .none kV12 dc12 pm12 an12 cd12 ct12), sl12⟩)
    (c12 : PySem.W.codeIn K cd12 "_law_pick" = true)
    (k12 : PySem.W.keepIn K (.ref f12) = true)
    (a13 : PySem.W.nsIn K mainGlobals "_law_letters" = some (some (.ref f13)))
    (l13 : K.lookup f13 = some ⟨oc13, od13, .func (PySem.W.fnOf "_law_letters" "_law_letters" (defArgs sLetters) (defBody sLetters) (defScope sLetters) .none kV13 dc13 pm13 an13 cd13 ct13), sl13⟩)
    (c13 : PySem.W.codeIn K cd13 "_law_letters" = true)
    (k13 : PySem.W.keepIn K (.ref f13) = true)
    (a14 : PySem.W.nsIn K mainGlobals "_law_sheet" = some (some (.ref f14)))
    (l14 : K.lookup f14 = some ⟨oc14, od14, .func (PySem.W.fnOf "_law_sheet" "_law_sheet" (defArgs sSheet) (defBody sSheet) (defScope sSheet) .none kV14 dc14 pm14 an14 cd14 ct14), sl14⟩)
    (c14 : PySem.W.codeIn K cd14 "_law_sheet" = true)
    (k14 : PySem.W.keepIn K (.ref f14) = true)
    (a15 : PySem.W.nsIn K mainGlobals "_law_machine" = some (some (.ref f15)))
    (l15 : K.lookup f15 = some ⟨oc15, od15, .func (PySem.W.fnOf "_law_machine" "_law_machine" (defArgs sLawMachine) (defBody sLawMachine) (defScope sLawMachine) .none kV15 dc15 pm15 an15 cd15 ct15), sl15⟩)
    (c15 : PySem.W.codeIn K cd15 "_law_machine" = true)
    (k15 : PySem.W.keepIn K (.ref f15) = true)
    (a16 : PySem.W.nsIn K mainGlobals "_law_own_walk" = some (some (.ref f16)))
    (l16 : K.lookup f16 = some ⟨oc16, od16, .func (PySem.W.fnOf "_law_own_walk" "_law_own_walk" (defArgs sLawOwnWalk) (defBody sLawOwnWalk) (defScope sLawOwnWalk) .none kV16 dc16 pm16 an16 cd16 ct16), sl16⟩)
    (c16 : PySem.W.codeIn K cd16 "_law_own_walk" = true)
    (k16 : PySem.W.keepIn K (.ref f16) = true)
    (a17 : PySem.W.nsIn K mainGlobals "_law_is_walk" = some (some (.ref f17)))
    (l17 : K.lookup f17 = some ⟨oc17, od17, .func (PySem.W.fnOf "_law_is_walk" "_law_is_walk" (defArgs sLawIsWalk) (defBody sLawIsWalk) (defScope sLawIsWalk) .none kV17 dc17 pm17 an17 cd17 ct17), sl17⟩)
    (c17 : PySem.W.codeIn K cd17 "_law_is_walk" = true)
    (k17 : PySem.W.keepIn K (.ref f17) = true)
    (a18 : PySem.W.nsIn K mainGlobals "_law_other" = some (some (.ref f18)))
    (l18 : K.lookup f18 = some ⟨oc18, od18, .func (PySem.W.fnOf "_law_other" "_law_other" (defArgs sLawOther) (defBody sLawOther) (defScope sLawOther) .none kV18 dc18 pm18 an18 cd18 ct18), sl18⟩)
    (c18 : PySem.W.codeIn K cd18 "_law_other" = true)
    (k18 : PySem.W.keepIn K (.ref f18) = true)
    (a19 : PySem.W.nsIn K mainGlobals "_law_judged" = some (some (.ref f19)))
    (l19 : K.lookup f19 = some ⟨oc19, od19, .func (PySem.W.fnOf "_law_judged" "_law_judged" (defArgs sLawJudged) (defBody sLawJudged) (defScope sLawJudged) .none kV19 dc19 pm19 an19 cd19 ct19), sl19⟩)
    (c19 : PySem.W.codeIn K cd19 "_law_judged" = true)
    (k19 : PySem.W.keepIn K (.ref f19) = true)
    (a20 : PySem.W.nsIn K mainGlobals "law" = some (some (.ref f20)))
    (l20 : K.lookup f20 = some ⟨oc20, od20, .func (PySem.W.fnOf "law" "law" (defArgs sLaw) (defBody sLaw) (defScope sLaw) .none kV20 dc20 pm20 an20 cd20 ct20), sl20⟩)
    (c20 : PySem.W.codeIn K cd20 "law" = true)
    (k20 : PySem.W.keepIn K (.ref f20) = true)
    (z0 : PySem.W.nsIn K mainGlobals "len" = some none)
    (z1 : PySem.W.nsIn K mainGlobals "all" = some none)
    (z2 : PySem.W.nsIn K mainGlobals "any" = some none)
    (z3 : PySem.W.nsIn K mainGlobals "zip" = some none)
    (z4 : PySem.W.nsIn K mainGlobals "enumerate" = some none)
    (z5 : PySem.W.nsIn K mainGlobals "range" = some none)
    (z6 : PySem.W.nsIn K mainGlobals "int" = some none)
    (z7 : PySem.W.nsIn K mainGlobals "isinstance" = some none)
    (z8 : PySem.W.nsIn K mainGlobals "list" = some none)
    (z9 : PySem.W.nsIn K mainGlobals "tuple" = some none)
    (z10 : PySem.W.nsIn K mainGlobals "bool" = some none)
    (z11 : PySem.W.nsIn K mainGlobals "sorted" = some none)
    (z12 : PySem.W.nsIn K mainGlobals "min" = some none)
    : EndG.LawAtG l w K CX0 63 mg fa h := by
  have e := hfa.symm.trans (PySem.W.mg_of X G a20)
  cases e
  have F0 := fun_mk (st := sOrderOf) l0 c0 k0
  have g0 := PySem.W.mg_of X G a0
  have b0 := F0.binds (ps := ["sheet"]) fun _ _ _ _ _ _ us hl => match us, hl with | [_], _ => rfl
  have F1 := fun_mk (st := sNeedWord) l1 c1 k1
  have g1 := PySem.W.mg_of X G a1
  have b1 := F1.binds (ps := ["sheet", "word"]) fun _ _ _ _ _ _ us hl => match us, hl with | [_, _], _ => rfl
  have F2 := fun_mk (st := sAnswers) l2 c2 k2
  have g2 := PySem.W.mg_of X G a2
  have b2 := F2.binds (ps := ["sheet", "word"]) fun _ _ _ _ _ _ us hl => match us, hl with | [_, _], _ => rfl
  have F3 := fun_mk (st := sAlone) l3 c3 k3
  have g3 := PySem.W.mg_of X G a3
  have b3 := F3.binds (ps := ["sheet", "word", "told"]) fun _ _ _ _ _ _ us hl => match us, hl with | [_, _, _], _ => rfl
  have F4 := fun_mk (st := sNeedShut) l4 c4 k4
  have g4 := PySem.W.mg_of X G a4
  have b4 := F4.binds (ps := ["sheet", "word"]) fun _ _ _ _ _ _ us hl => match us, hl with | [_, _], _ => rfl
  have F5 := fun_mk (st := sIsBegin) l5 c5 k5
  have g5 := PySem.W.mg_of X G a5
  have b5 := F5.binds (ps := ["told", "place"]) fun _ _ _ _ _ _ us hl => match us, hl with | [_, _], _ => rfl
  have F6 := fun_mk (st := sLetterOf) l6 c6 k6
  have g6 := PySem.W.mg_of X G a6
  have b6 := F6.binds (ps := ["move"]) fun _ _ _ _ _ _ us hl => match us, hl with | [_], _ => rfl
  have C7 : FunC K "are_moves_by" "are_moves_by" sAreMovesBy f7 _ cc7 := ⟨⟨_, _, _, _, _, _, _, _, rfl, l7, c7⟩, k7⟩
  have F7 := C7.toFun
  have g7 := PySem.W.mg_of X G a7
  have b7 := F7.binds (ps := ["machine", "word", "moves"]) fun _ _ _ _ _ _ us hl => match us, hl with | [_, _, _], _ => rfl
  have F8 := fun_mk (st := sAreMarksKept) l8 c8 k8
  have g8 := PySem.W.mg_of X G a8
  have b8 := F8.binds (ps := ["moves", "told"]) fun _ _ _ _ _ _ us hl => match us, hl with | [_, _], _ => rfl
  have C9 : FunC K "is_walk" "is_walk" sIsWalk f9 _ cc9 := ⟨⟨_, _, _, _, _, _, _, _, rfl, l9, c9⟩, k9⟩
  have F9 := C9.toFun
  have g9 := PySem.W.mg_of X G a9
  have b9 := F9.binds (ps := ["machine", "word", "moves"]) fun _ _ _ _ _ _ us hl => match us, hl with | [_, _, _], _ => rfl
  have F10 := fun_mk (st := sBlend) l10 c10 k10
  have g10 := PySem.W.mg_of X G a10
  have b10 := F10.binds (ps := ["cell", "at"]) fun _ _ _ _ _ _ us hl => match us, hl with | [_, _], _ => rfl
  have F11 := fun_mk (st := sPot) l11 c11 k11
  have g11 := PySem.W.mg_of X G a11
  have b11 := F11.binds (ps := ["script"]) fun _ _ _ _ _ _ us hl => match us, hl with | [_], _ => rfl
  have F12 := fun_mk (st := sPick) l12 c12 k12
  have g12 := PySem.W.mg_of X G a12
  have b12 := F12.binds (ps := ["pot", "many"]) fun _ _ _ _ _ _ us hl => match us, hl with | [_, _], _ => rfl
  have F13 := fun_mk (st := sLetters) l13 c13 k13
  have g13 := PySem.W.mg_of X G a13
  have b13 := F13.binds (ps := ["pot", "many"]) fun _ _ _ _ _ _ us hl => match us, hl with | [_, _], _ => rfl
  have F14 := fun_mk (st := sSheet) l14 c14 k14
  have g14 := PySem.W.mg_of X G a14
  have b14 := F14.binds (ps := ["pot", "most"]) fun _ _ _ _ _ _ us hl => match us, hl with | [_, _], _ => rfl
  have F15 := fun_mk (st := sLawMachine) l15 c15 k15
  have g15 := PySem.W.mg_of X G a15
  have b15 := F15.binds (ps := ["pot", "sheet", "rooms", "full"]) fun _ _ _ _ _ _ us hl => match us, hl with | [_, _, _, _], _ => rfl
  have F16 := fun_mk (st := sLawOwnWalk) l16 c16 k16
  have g16 := PySem.W.mg_of X G a16
  have b16 := F16.binds (ps := ["pot", "machine", "most"]) fun _ _ _ _ _ _ us hl => match us, hl with | [_, _, _], _ => rfl
  have F17 := fun_mk (st := sLawIsWalk) l17 c17 k17
  have g17 := PySem.W.mg_of X G a17
  have b17 := F17.binds (ps := ["machine", "word", "moves"]) fun _ _ _ _ _ _ us hl => match us, hl with | [_, _, _], _ => rfl
  have F18 := fun_mk (st := sLawOther) l18 c18 k18
  have g18 := PySem.W.mg_of X G a18
  have b18 := F18.binds (ps := ["pot", "machine", "moves"]) fun _ _ _ _ _ _ us hl => match us, hl with | [_, _, _], _ => rfl
  have F19 := fun_mk (st := sLawJudged) l19 c19 k19
  have g19 := PySem.W.mg_of X G a19
  have b19 := F19.binds (ps := ["machine", "word", "moves"]) fun _ _ _ _ _ _ us hl => match us, hl with | [_, _, _], _ => rfl
  have F20 := fun_mk (st := sLaw) l20 c20 k20
  have g20 := PySem.W.mg_of X G a20
  have b20 := F20.binds (ps := ["script"]) fun _ _ _ _ _ _ us hl => match us, hl with | [_], _ => rfl
  have mlen := PySem.W.mg_none_of X G z0
  have mall := PySem.W.mg_none_of X G z1
  have many := PySem.W.mg_none_of X G z2
  have mzip := PySem.W.mg_none_of X G z3
  have menumerate := PySem.W.mg_none_of X G z4
  have mrange := PySem.W.mg_none_of X G z5
  have mint := PySem.W.mg_none_of X G z6
  have misinstance := PySem.W.mg_none_of X G z7
  have mlist := PySem.W.mg_none_of X G z8
  have mtuple := PySem.W.mg_none_of X G z9
  have mbool := PySem.W.mg_none_of X G z10
  have msorted := PySem.W.mg_none_of X G z11
  have mmin := PySem.W.mg_none_of X G z12
  have tb7 := own "are_moves_by" (by decide) f7 g7 cc7 PT7 _ _ _ _ _ _ l7 rfl rfl co7 pt7
  have tb9 := own "is_walk" (by decide) f9 g9 cc9 PT9 _ _ _ _ _ _ l9 rfl rfl co9 pt9
  have two : ∀ {φ : Addr × Addr → Prop}, φ (cc7, PT7) → φ (cc9, PT9) → ∀ p ∈ [(cc7, PT7), (cc9, PT9)], φ p := fun h1 h2 p hp => by
    simp only [List.mem_cons, List.not_mem_nil, or_false] at hp
    rcases hp with rfl | rfl
    · exact h1
    · exact h2
  refine ⟨[(cc7, PT7), (cc9, PT9)], two tb7 tb9, two pn7 pn9, two (PySem.W.codeHd_of_K X hd7) (PySem.W.codeHd_of_K X hd9), ?_⟩
  intro base H z a ns kb nb TB hH hS hlen hbits e0
  have TB7 := TB (cc7, PT7) (by simp)
  have TB9 := TB (cc9, PT9) (by simp)
  have tG : ∀ {Q : Addr}, H Q = some (.tbl #[]) → TabG H Q := fun h => ⟨#[], h, by exact trivial⟩
  have tM := tG (hH (cc7, PT7) (by simp))
  have tQ := tG (hH (cc9, PT9) (by simp))
  have PK : ∀ k, FnOk l.prog w K mg base CX0 (k + 2) _ _ _ spPick := fun k => ok_pick (k := k) F12 F10 b10 g10 mlen
  have NW : FnOk l.prog w K mg base CX0 3 _ _ _ (spNeedWord K) := ok_needWord (k := 1) F1 F0 b0 g0 menumerate
  have AS : FnOk l.prog w K mg base CX0 4 _ _ _ (spAnswers K) := ok_answers (k := 2) F2 F1 NW b1 g1 mlen menumerate
  have AL : FnOk l.prog w K mg base CX0 4 _ _ _ (spAlone K) := ok_alone (k := 3) F3 mlen mrange
  have NS : FnOk l.prog w K mg base CX0 5 _ _ _ (spNeedShut0 K) := ok_needShut0 (k := 3) F4 F2 AS b2 g2 F3 AL b3 g3
  have LO : FnOk l.prog w K mg base CX0 3 _ _ _ spLetterOf := ok_letterOf (k := 2) F6
  have MB : FnOk l.prog w K mg base CX0 5 _ _ _ (spMovesBy PT7) := ok_movesBy (k := 3) C7 TB7 F6 LO b6 g6 mlen mall mzip
  have IB : FnOk l.prog w K mg base CX0 4 _ _ _ (spBegin K) := ok_begin (k := 3) F5
  have KP : FnOk l.prog w K mg base CX0 5 _ _ _ spKept := ok_kept (k := 3) F8 F5 IB b5 g5 menumerate
  have IW : FnOk l.prog w K mg base CX0 6 _ _ _ (spIsWalk PT7 PT9) := ok_isWalk (k := 4) C9 TB9 F4 NS b4 g4 F7 MB b7 g7 F8 KP b8 g8 mlen many mrange
  have LI : FnOk l.prog w K mg base CX0 6 _ _ _ spLIsWalk := ok_lIsWalk (k := 5) F17 mlen mzip mint misinstance mlist mtuple
  have JU : FnOk l.prog w K mg base CX0 7 _ _ _ (spJudged PT7 PT9) := ok_judged (k := 6) F19 F9 IW b9 g9 F17 LI b17 g17 misinstance mlist mbool
  have OW : FnOk l.prog w K mg base CX0 7 _ _ _ spOwn := ok_own (k := 6) F16 F12 (PK 4) b12 g12 mlen mrange mint
  have OT : FnOk l.prog w K mg base CX0 7 _ _ _ spOther := ok_other (k := 6) F18 F12 (PK 4) b12 g12 mlen mlist
  have LE : FnOk l.prog w K mg base CX0 6 _ _ _ spLetters := ok_letters (k := 4) F13 F12 (PK 3) b12 g12 mlen mrange
  have ST : FnOk l.prog w K mg base CX0 7 _ _ _ spSheet := ok_sheet (k := 4) F14 F12 (PK 3) b12 g12 F13 LE b13 g13 mmin mtuple
  have MA : FnOk l.prog w K mg base CX0 7 _ _ _ spMachine := ok_machine (k := 5) F15 F12 (PK 4) b12 g12 mrange mint mtuple msorted
  have PO : FnOk l.prog w K mg base CX0 7 _ _ _ (spPot K) := ok_pot (k := 6) F11 mlist menumerate
  exact law_run (k := 7) F20 F11 PO b11 g11 F12 (PK 5) b12 g12 F14 ST b14 g14 F15 MA b15 g15 F16 OW b16 g16 F18 OT b18 g18 F19 JU b19 g19 mint mrange mlist ⟨rfl, by decide, by decide⟩ (fun s v => .of_eq rfl) e0 hS hlen tM tQ
end Eh
open PySem PySem.W PyProof.Rows
set_option maxHeartbeats 0 in
theorem PySem.Challenge.cw_echohall_k10_walks_looked_at_holds : PySem.Challenge.rw_echohall_k10_walks_looked_at.Holds := by
  w_on; o_law; k_head; (case hw => w_witness2)
  k_fill
  refine EndG.walkG (l := PySem.Challenge.rw_echohall_k10_walks_looked_at) (n := 63) (CX := fun _ => L2.CX0) ["are_moves_by", "is_walk"] rfl (by decide) rfl (by decide +kernel) (fun w h Y => PySem.W.kIn_of Y) ?F (fun _ _ _ _ _ h => h)
  case F =>
    intro w mg fa h _ KX G hmg own
    refine' Eh.all_mk KX G hmg own ?a0 ?l0 ?c0 ?k0 ?a1 ?l1 ?c1 ?k1 ?a2 ?l2 ?c2 ?k2 ?a3 ?l3 ?c3 ?k3 ?a4 ?l4 ?c4 ?k4 ?a5 ?l5 ?c5 ?k5 ?a6 ?l6 ?c6 ?k6 ?a7 ?l7 ?c7 ?k7 ?co7 ?pt7 ?pn7 ?hd7 ?a8 ?l8 ?c8 ?k8 ?a9 ?l9 ?c9 ?k9 ?co9 ?pt9 ?pn9 ?hd9 ?a10 ?l10 ?c10 ?k10 ?a11 ?l11 ?c11 ?k11 ?a12 ?l12 ?c12 ?k12 ?a13 ?l13 ?c13 ?k13 ?a14 ?l14 ?c14 ?k14 ?a15 ?l15 ?c15 ?k15 ?a16 ?l16 ?c16 ?k16 ?a17 ?l17 ?c17 ?k17 ?a18 ?l18 ?c18 ?k18 ?a19 ?l19 ?c19 ?k19 ?a20 ?l20 ?c20 ?k20 ?z0 ?z1 ?z2 ?z3 ?z4 ?z5 ?z6 ?z7 ?z8 ?z9 ?z10 ?z11 ?z12
    (case a0 => k_is)
    (case l0 => k_is)
    (case c0 => k_is)
    (case k0 => k_is)
    (case a1 => k_is)
    (case l1 => k_is)
    (case c1 => k_is)
    (case k1 => k_is)
    (case a2 => k_is)
    (case l2 => k_is)
    (case c2 => k_is)
    (case k2 => k_is)
    (case a3 => k_is)
    (case l3 => k_is)
    (case c3 => k_is)
    (case k3 => k_is)
    (case a4 => k_is)
    (case l4 => k_is)
    (case c4 => k_is)
    (case k4 => k_is)
    (case a5 => k_is)
    (case l5 => k_is)
    (case c5 => k_is)
    (case k5 => k_is)
    (case a6 => k_is)
    (case l6 => k_is)
    (case c6 => k_is)
    (case k6 => k_is)
    (case a7 => k_is)
    (case l7 => k_is)
    (case c7 => k_is)
    (case k7 => k_is)
    (case co7 => k_is)
    (case pt7 => rfl)
    (case pn7 => first | k_is | rfl | decide +kernel)
    (case hd7 => first | k_is | rfl | decide +kernel)
    (case a8 => k_is)
    (case l8 => k_is)
    (case c8 => k_is)
    (case k8 => k_is)
    (case a9 => k_is)
    (case l9 => k_is)
    (case c9 => k_is)
    (case k9 => k_is)
    (case co9 => k_is)
    (case pt9 => rfl)
    (case pn9 => first | k_is | rfl | decide +kernel)
    (case hd9 => first | k_is | rfl | decide +kernel)
    (case a10 => k_is)
    (case l10 => k_is)
    (case c10 => k_is)
    (case k10 => k_is)
    (case a11 => k_is)
    (case l11 => k_is)
    (case c11 => k_is)
    (case k11 => k_is)
    (case a12 => k_is)
    (case l12 => k_is)
    (case c12 => k_is)
    (case k12 => k_is)
    (case a13 => k_is)
    (case l13 => k_is)
    (case c13 => k_is)
    (case k13 => k_is)
    (case a14 => k_is)
    (case l14 => k_is)
    (case c14 => k_is)
    (case k14 => k_is)
    (case a15 => k_is)
    (case l15 => k_is)
    (case c15 => k_is)
    (case k15 => k_is)
    (case a16 => k_is)
    (case l16 => k_is)
    (case c16 => k_is)
    (case k16 => k_is)
    (case a17 => k_is)
    (case l17 => k_is)
    (case c17 => k_is)
    (case k17 => k_is)
    (case a18 => k_is)
    (case l18 => k_is)
    (case c18 => k_is)
    (case k18 => k_is)
    (case a19 => k_is)
    (case l19 => k_is)
    (case c19 => k_is)
    (case k19 => k_is)
    (case a20 => k_is)
    (case l20 => k_is)
    (case c20 => k_is)
    (case k20 => k_is)
    (case z0 => k_is)
    (case z1 => k_is)
    (case z2 => k_is)
    (case z3 => k_is)
    (case z4 => k_is)
    (case z5 => k_is)
    (case z6 => k_is)
    (case z7 => k_is)
    (case z8 => k_is)
    (case z9 => k_is)
    (case z10 => k_is)
    (case z11 => k_is)
    (case z12 => k_is)
