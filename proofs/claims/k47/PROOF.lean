import PyProof.Rows.All
import Wide.All
import OpenK.AllK
import Wide.FinOn
import HandS.ForMost
import HandS.Evl
import KE.LtSeq
import HandS.RaiseMore
import KE.GoesEnum
import HandS.DictComp
import HandS.Flow
import HandS.Wide
import KE.DatumOrd
import KE.Datum
import HandS.SortKw
import HandS.TupMul
import HandS.IsInst
import HandS.GenList
import HandS.AnyAll
import HandS.Strs
import HandS.FStrTup
import HandS.EndBits
import HandS.EndTab
import HandS.EndOwn
import PySem.Challenge.RW_echohall_k47_great_sizes
set_option Elab.async false
set_option linter.all false
set_option maxRecDepth 100000
set_option maxHeartbeats 4000000
namespace Eh
open PySem PySem.Spec PyProof.Rows L2 Evl
def topS (i : Nat) : Stmt := PySem.Challenge.pw_echohall_k47_great_sizes.main.body.getD i (.Pass ⟨0, 0, 0, 0⟩)
abbrev sOrderOf : Stmt := topS 4
abbrev sNeedWord : Stmt := topS 5
abbrev sDepthOf : Stmt := topS 7
abbrev sPartsIn : Stmt := topS 9
abbrev sLengthOf : Stmt := topS 10
abbrev sDeepestOf : Stmt := topS 11
abbrev sManyOf : Stmt := topS 12
abbrev sBlend : Stmt := topS 14
abbrev sPot : Stmt := topS 15
abbrev sPick : Stmt := topS 16
abbrev sLetters : Stmt := topS 17
abbrev sSheet : Stmt := topS 18
abbrev sOrder : Stmt := topS 19
abbrev sShut : Stmt := topS 20
abbrev sSame : Stmt := topS 21
abbrev sLawCount : Stmt := topS 22
abbrev sLawGreat : Stmt := topS 23
abbrev sSize : Stmt := topS 24
abbrev sLawWrite : Stmt := topS 25
abbrev sLawDepth : Stmt := topS 26
abbrev sLawSizes : Stmt := topS 27
abbrev sLawWideGreat : Stmt := topS 28
abbrev sTold : Stmt := topS 29
abbrev sLawTenDeep : Stmt := topS 30
abbrev sLaw : Stmt := topS 31
theorem scBlend : FnScope ["cell", "at", "one", "two", "three"] ["cell", "at"] (defScope sBlend) := ⟨rfl, rfl, rfl, by decide +kernel, rfl, by decide +kernel, by decide +kernel⟩
theorem scPot : FnScope ["script", "cells", "k", "cell"] ["script"] (defScope sPot) := ⟨rfl, rfl, rfl, by decide +kernel, rfl, by decide +kernel, by decide +kernel⟩
theorem scPick : FnScope ["pot", "many", "at", "cell", "found"] ["pot", "many"] (defScope sPick) := ⟨rfl, rfl, rfl, by decide +kernel, rfl, by decide +kernel, by decide +kernel⟩
theorem scLetters : FnScope ["pot", "many", "small", "k", "rest", "spot", "turn", "size", "found", "part", "at"] ["pot", "many"] (defScope sLetters) := ⟨rfl, rfl, rfl, by decide +kernel, rfl, by decide +kernel, by decide +kernel⟩
theorem scSheet : FnScope ["pot", "most", "letters", "turn", "opens", "plains", "closes"] ["pot", "most"] (defScope sSheet) := ⟨rfl, rfl, rfl, by decide +kernel, rfl, by decide +kernel, by decide +kernel⟩
theorem scOrder : FnScope ["sheet"] ["sheet"] (defScope sOrder) := ⟨rfl, rfl, rfl, by decide +kernel, rfl, by decide +kernel, by decide +kernel⟩
end Eh
set_option Elab.async false
set_option linter.all false
set_option maxRecDepth 100000
set_option maxHeartbeats 4000000
namespace Eh
open PySem PySem.Spec PyProof.Rows L2 Evl
/-! heaps -/
def Keep (p : Addr) (H H' : Hp) : Prop := ∀ b o, b ≠ p → H b = some o → H' b = some o
theorem Keep.refl (p : Addr) (H : Hp) : Keep p H H := fun _ _ _ h => h
theorem Keep.trans {p : Addr} {H H1 H2 : Hp} (a : Keep p H H1) (b : Keep p H1 H2) : Keep p H H2 := fun x o n h => b x o n (a x o n h)
theorem Keep.ofEx {p : Addr} {H H' : Hp} (e : Ex H H') : Keep p H H' := fun b o _ h => e b o h
theorem Keep.new {p q : Addr} {H H' : Hp} {o : HO} (k : Keep p H H') (h : H q = none) : Keep p H (upd H' q o) := fun b u n e => by
  rw [upd_ne (ne_of_none e h)]
  exact k b u n e
theorem Keep.at {p : Addr} {H H' : Hp} {o : HO} (k : Keep p H H') : Keep p H (upd H' p o) := fun b u n e => by
  rw [upd_ne n]
  exact k b u n e
/-- the drawing pot: its cells stand still, how many were drawn and the rest change -/
def Pot (p c : Addr) (ns : List Int) (H : Hp) : Prop := ∃ a r : Int, 0 ≤ a ∧ H p = some (.lst [.ref c, .int a, .int r]) ∧ H c = some (.lst (ns.map V.int))
theorem Pot.ne {p c : Addr} {ns : List Int} {H : Hp} (h : Pot p c ns H) : c ≠ p := by
  obtain ⟨a, r, _, h1, h2⟩ := h
  intro e
  subst e
  have q : [V.ref c, .int a, .int r] = ns.map V.int := by
    have := h1.symm.trans h2
    injection this with this
    injection this
  cases ns with
  | nil => cases q
  | cons x t => cases q
theorem Pot.ex {p c : Addr} {ns : List Int} {H H' : Hp} (h : Pot p c ns H) (e : Ex H H') : Pot p c ns H' := by
  obtain ⟨a, r, h0, h1, h2⟩ := h
  exact ⟨a, r, h0, e _ _ h1, e _ _ h2⟩
theorem Pot.new {p c q : Addr} {ns : List Int} {H : Hp} {o : HO} (h : Pot p c ns H) (hp : p ≠ q) (hc : c ≠ q) : Pot p c ns (upd H q o) := by
  obtain ⟨a, r, h0, h1, h2⟩ := h
  exact ⟨a, r, h0, by rw [upd_ne hp]; exact h1, by rw [upd_ne hc]; exact h2⟩
section
variable {P : Program} {w : World} {K : PySem.W.Frag} {mg : Str → Option Value} {base : Heap}
def spBlend : Sp := fun vs H Q _ => ∃ x a : Int, vs = [.int x, .int a] ∧ ∀ v : Int, Q (.int v) H
theorem ok_blend {f : Addr} {fd : FuncData} {k : Nat} (F : Fun K "_law_blend" "_law_blend" sBlend f fd) : FnOk P w K mg base CX0 (k + 1) f fd ["cell", "at"] spBlend := by
  refine F.ok scBlend (fun vs H Q E h => ?_) (fun cdv A outer s H vs Q E hr h => ?_)
  · obtain ⟨x, a, rfl, _⟩ := h
    rfl
  · obtain ⟨x, a, rfl, q⟩ := h
    refine ⟨_, pss_cons (ps_if (pt_cmpR op_ge (pv 0) (pe_op op_pow pe_int pe_int) (nomark _)) (pss_one (ps_ret (pv 0))) pss_nil)
      (pss_cons (ps_set (i := 2) scBlend.nd rfl (.inl rfl) (pe_op op_mod (pe_op op_add (pe_op op_add (pe_op op_mul (pe_op op_mod (pv 0) pe_int) pe_int) (pe_op op_mul (pv 1) pe_int)) pe_int) pe_int))
      (pss_cons (ps_set (i := 3) scBlend.nd rfl (.inl rfl) (pe_op op_mod (pe_op op_add (pe_op op_add (pe_op op_mul (pv 2) (pv 2)) (pe_op op_mul (pv 1) pe_int)) (pe_op op_mod (pv 0) pe_int)) pe_int))
      (pss_cons (ps_set (i := 4) scBlend.nd rfl (.inl rfl) (pe_op op_mod (pe_op op_add (pe_op op_add (pe_op op_mul (pv 3) (pv 3)) (pe_op op_mul (pv 2) pe_int)) pe_int) pe_int))
      (pss_one (ps_ret (pe_op op_add (pe_op op_mul (pe_op op_add (pe_op op_mul (pv 2) pe_int) (pv 3)) pe_int) (pv 4))))))), ?_⟩
    refine ⟨_, rfl, 10, 18, rfl, rfl, ⟨by decide, by decide, by decide⟩, _, _, rfl, rfl, _, rfl, ite2 (fun e => ?_) (fun e => ?_)⟩
    · exact ⟨_, rfl, q _⟩
    · have big : ∀ j : Int, 0 < j → j < 4294967296 → ∀ y : Int, CMul (y % j) (y % j) := fun j h0 h1 y => .inl ⟨by have := Int.emod_nonneg y (show j ≠ 0 by omega); omega, by have := Int.emod_lt_of_pos y h0; omega⟩
      refine ⟨_, rfl, _, _, rfl, rfl, (by show (0 : Int) < _; decide), _, _, rfl, rfl, .inr ⟨by decide, by decide⟩, _, rfl, _, _, rfl, rfl, .inr ⟨by decide, by decide⟩, _, _, rfl, rfl, _, _, rfl, rfl, _, _, rfl, rfl, (by show (0 : Int) < _; decide), ?_⟩
      refine ⟨_, rfl, _, rfl, _, _, rfl, rfl, big _ (by decide) (by decide) _, _, rfl, _, _, rfl, rfl, .inr ⟨by decide, by decide⟩, _, _, rfl, rfl, _, rfl, _, _, rfl, rfl, (by show (0 : Int) < _; decide), _, _, rfl, rfl, _, _, rfl, rfl, (by show (0 : Int) < _; decide), ?_⟩
      refine ⟨_, rfl, _, rfl, _, _, rfl, rfl, big _ (by decide) (by decide) _, _, rfl, _, _, rfl, rfl, .inr ⟨by decide, by decide⟩, _, _, rfl, rfl, _, _, rfl, rfl, _, _, rfl, rfl, (by show (0 : Int) < _; decide), ?_⟩
      exact ⟨_, rfl, _, _, rfl, rfl, .inr ⟨by decide, by decide⟩, _, rfl, _, _, rfl, rfl, _, _, rfl, rfl, .inr ⟨by decide, by decide⟩, _, rfl, _, _, rfl, rfl, q _⟩
end
end Eh
set_option Elab.async false
set_option linter.all false
set_option maxRecDepth 100000
set_option maxHeartbeats 4000000
namespace Eh
open PySem PySem.Spec PyProof.Rows L2 Evl
theorem dpInts {K : PySem.W.Frag} {H : Hp} : ∀ ns : List Int, DpAll K H (ns.map V.int) (ns.map PyData.int)
  | [] => .nil
  | n :: r => .cons (.int n) (dpInts r)
theorem layInts : ∀ ns : List Int, PyData.canLayAll0 (ns.map PyData.int) = true
  | [] => rfl
  | n :: r => by
    show (true && PyData.canLayAll0 (r.map PyData.int)) = true
    rw [layInts r]
    rfl
theorem deepInts : ∀ ns : List Int, PyData.depthAll (ns.map PyData.int) = 0
  | [] => rfl
  | n :: r => by
    show max 0 (PyData.depthAll (r.map PyData.int)) = 0
    rw [deepInts r]
    rfl
theorem shapedInts (ns : List Int) : SeqAt.shaped (.list (ns.map PyData.int)) = true := by
  unfold SeqAt.shaped
  have h1 : PyData.canLay0 (.list (ns.map PyData.int)) = true := layInts ns
  have h2 : PyData.depth (.list (ns.map PyData.int)) = 1 := by
    show PyData.depthAll (ns.map PyData.int) + 1 = 1
    rw [deepInts]
  rw [h1, h2]
  rfl
theorem shapedNil : SeqAt.shaped (.list []) = true := by decide +kernel
section
variable {P : Program} {w : World} {K : PySem.W.Frag} {mg : Str → Option Value} {base : Heap}
def spPick : Sp := fun vs H Q _ => ∃ (p c : Addr) (ns : List Int) (m : Int), vs = [.ref p, .int m] ∧ 0 < m ∧ m < 1073741824 ∧ Pot p c ns H ∧ ∀ (v : Nat) H', (v : Int) < m → Keep p H H' → Pot p c ns H' → Q (.int v) H'
theorem ok_pick {f fB : Addr} {fd fdB : FuncData} {k : Nat} (F : Fun K "_law_pick" "_law_pick" sPick f fd) (FB : Fun K "_law_blend" "_law_blend" sBlend fB fdB) (bB : Binds K fdB ["cell", "at"] []) (gB : mg "_law_blend" = some (.ref fB)) (ml : mg "len" = none) :
    FnOk P w K mg base CX0 (k + 2) f fd ["pot", "many"] spPick := by
  have GB : FnOk P w K mg base CX0 (k + 1) fB fdB ["cell", "at"] spBlend := ok_blend FB
  have nd := scPick.nd
  refine F.ok scPick (fun vs H Q E h => ?_) (fun cdv A outer s H vs Q E hr h => ?_)
  · obtain ⟨p, c, ns, m, rfl, _⟩ := h
    rfl
  · obtain ⟨p, c, ns, m, rfl, m0, m1, hP, q⟩ := h
    refine ⟨_, pss_cut (ps_if (pt_cmpR op_lt (pe_ix ix_list (pv 0) pe_int (fun _ _ => rfl)) (pv 1) (nomark _))
       (pss_cons (ps_set (i := 2) nd rfl (.inl rfl) (pe_ix ix_list (pv 0) pe_int (fun _ _ => rfl)))
       (pss_cons (ps_set (i := 3) nd rfl (.inl rfl) (pe_op op_mul pe_int (pv 2)))
       (pss_cut (ps_if (pt_cmpR op_lt (pv 2) (pe_callB call_len_seq (by rfl) ml PySem.boot_len (pa_cons (pe_ix ix_list (pv 0) pe_int (fun _ _ => rfl)) pa_nil)) (nomark _))
            (pss_one (ps_set (i := 3) nd rfl (.inl rfl) (pe_ix ix_list (pe_ix ix_list (pv 0) pe_int (fun _ _ => rfl)) (pv 2) (fun _ _ => rfl))))
            (pss_one (ps_if (pt_cmpR (op_neD hr.units) (pe_ix ix_list (pv 0) pe_int (fun _ _ => rfl)) (pe_lst pa_nil) (nomark _))
              (pss_one (ps_set (i := 3) nd rfl (.inl rfl) (pe_op op_mod (pe_ix ix_list (pe_ix ix_list (pv 0) pe_int (fun _ _ => rfl)) (pe_op op_mod (pe_op op_add (pe_op op_mul (pv 2) pe_int) pe_int) (pe_callB call_len_seq (by rfl) ml PySem.boot_len (pa_cons (pe_ix ix_list (pv 0) pe_int (fun _ _ => rfl)) pa_nil))) (fun _ _ => rfl)) (pe_op op_add (pe_op op_pow pe_int pe_int) (pe_op op_mul pe_int (pv 2)))))) pss_nil)))
       (pss_cons (ps_asg (pe_op op_add (pv 2) pe_int) (pg_sub (pv 0) pe_int set_list))
       (pss_one (ps_asg (pe_call GB hr (by rfl) gB FB.kp bB .nil pass0 (pa_cons (pv 3) (pa_cons (pv 2) pa_nil))) (pg_sub (pv 0) pe_int set_list)))))))
       pss_nil)
      (pss_cons (ps_set (i := 4) nd rfl (.inl rfl) (pe_op op_mod (pe_ix ix_list (pv 0) pe_int (fun _ _ => rfl)) (pv 1)))
      (pss_cons (ps_asg (pe_op op_fdiv (pe_ix ix_list (pv 0) pe_int (fun _ _ => rfl)) (pv 1)) (pg_sub (pv 0) pe_int set_list))
      (pss_one (ps_ret (pv 4))))), ?_⟩
    have hne := hP.ne
    obtain ⟨a, r, a0, hp, hc⟩ := hP
    refine ⟨fun σ' H' => (∃ y2 y3, σ' = [some (.ref p), some (.int m), y2, y3, none]) ∧ Keep p H H' ∧ Pot p c ns H', ?_, ?_⟩
    · refine ⟨_, rfl, p, _, 2, .int r, rfl, rfl, sq_of hp, rfl, _, rfl, _, _, rfl, rfl, _, rfl, ite2 (fun e => ?_) (fun e => ?_)⟩
      · refine ⟨_, rfl, p, _, 1, .int a, rfl, rfl, sq_of hp, rfl, ?_⟩
        refine ⟨_, rfl, _, _, rfl, rfl, .inl ⟨by decide, by decide⟩, ?_⟩
        refine ⟨fun σ' H' => ∃ y3 : Int, σ' = [some (.ref p), some (.int m), some (.int a), some (.int y3), none] ∧ Ex H H', ?_, ?_⟩
        · refine ⟨_, rfl, _, rfl, p, _, 0, .ref c, rfl, rfl, sq_of hp, rfl, c, _, rfl, .inl (sq_of hc), _, _, rfl, rfl, _, rfl, ite2 (fun e => ?_) (fun e => ?_)⟩
          · have ha : a < (ns.map V.int).length := of_decide_eq_true e
            have hb : a.toNat < ns.length := by
              rw [List.length_map] at ha
              omega
            refine ⟨_, rfl, p, _, 0, .ref c, rfl, rfl, sq_of hp, rfl, _, rfl, c, _, a, .int ns[a.toNat], rfl, rfl, sq_of hc, at_of (j := a.toNat) (by omega) ?_, _, rfl, Ex.refl _⟩
            rw [List.getElem?_map, List.getElem?_eq_getElem hb]
            rfl
          · refine ⟨_, rfl, p, _, 0, .ref c, rfl, rfl, sq_of hp, rfl, Nat.zero_le _, fun u hu => ?_⟩
            have e1 : Ex H (upd H u (.lst [])) := Ex.new hu
            refine ⟨.list (ns.map PyData.int), .list [], .lst (sq_of (e1 _ _ hc)) (dpInts ns), .lst (sq_of upd_same) .nil, shapedInts ns, shapedNil, _, rfl, ite2 (fun e => ?_) (fun e => ?_)⟩
            · have h0 : 0 < ns.length := by
                cases ns with
                | nil => exact absurd e (by decide)
                | cons x t => exact Nat.succ_pos _
              have hl : (0 : Int) < ((ns.map V.int).length : Int) := by
                rw [List.length_map]
                omega
              have g0 := Int.emod_nonneg (a * 7 + 1) (show ((ns.map V.int).length : Int) ≠ 0 by omega)
              have g1 := Int.emod_lt_of_pos (a * 7 + 1) hl
              have hb : ((a * 7 + 1) % ((ns.map V.int).length : Int)).toNat < ns.length := by
                rw [List.length_map] at g0 g1 ⊢
                omega
              refine ⟨_, rfl, p, _, 0, .ref c, rfl, rfl, sq_of (e1 _ _ hp), rfl, _, rfl, _, _, rfl, rfl, .inr ⟨by decide, by decide⟩, _, _, rfl, rfl, _, rfl, p, _, 0, .ref c, rfl, rfl, sq_of (e1 _ _ hp), rfl, c, _, rfl, .inl (sq_of (e1 _ _ hc)), _, _, rfl, rfl, hl, c, _, _, .int ns[((a * 7 + 1) % ((ns.map V.int).length : Int)).toNat], rfl, rfl, sq_of (e1 _ _ hc), at_of (j := ((a * 7 + 1) % ((ns.map V.int).length : Int)).toNat) (by omega) ?_, _, _, rfl, rfl, ⟨by decide, by decide, by decide⟩, _, rfl, _, _, rfl, rfl, .inl ⟨by decide, by decide⟩, _, _, rfl, rfl, _, _, rfl, rfl, ?_, _, rfl, e1⟩
              · rw [List.getElem?_map, List.getElem?_eq_getElem hb]
                rfl
              · show (0 : Int) < 10 ^ (17 : Int).toNat + 3 * a
                have : (10 : Int) ^ (17 : Int).toNat = 100000000000000000 := by decide
                omega
            · exact ⟨_, rfl, e1⟩
        · rintro σ' H' ⟨y3, rfl, e1⟩
          refine ⟨_, rfl, _, _, rfl, rfl, _, rfl, p, _, 1, 1, rfl, rfl, e1 _ _ hp, rfl, ?_⟩
          refine ⟨_, rfl, _, rfl, _, _, rfl, fun v => ⟨_, rfl, p, _, 2, 2, rfl, rfl, upd_same, rfl, ⟨_, _, rfl⟩, ?_, a + 1, v, by omega, upd_same, ?_⟩⟩
          · exact ((Keep.ofEx e1).at).at
          · rw [upd_ne hne, upd_ne hne]
            exact e1 _ _ hc
      · exact ⟨⟨_, _, rfl⟩, Keep.refl _ _, a, r, a0, hp, hc⟩
    · rintro σ' H' ⟨⟨y2, y3, rfl⟩, kp, a', r', a0', hp', hc'⟩
      have g0 := Int.emod_nonneg r' (show m ≠ 0 by omega)
      have g1 := Int.emod_lt_of_pos r' m0
      refine ⟨_, rfl, p, _, 2, .int r', rfl, rfl, sq_of hp', rfl, _, rfl, _, _, rfl, rfl, m0, ?_⟩
      refine ⟨_, rfl, p, _, 2, .int r', rfl, rfl, sq_of hp', rfl, _, rfl, _, _, rfl, rfl, ⟨m0, m1⟩, _, rfl, p, _, 2, 2, rfl, rfl, hp', rfl, ?_⟩
      refine ⟨_, rfl, ?_⟩
      have e : r' % m = ((r' % m).toNat : Int) := by omega
      show Q (.int (r' % m)) _
      rw [e]
      refine q _ _ (by omega) kp.at ⟨a', r' / m, a0', upd_same, ?_⟩
      rw [upd_ne hne]
      exact hc'
end
end Eh
set_option Elab.async false
set_option linter.all false
set_option maxRecDepth 100000
set_option maxHeartbeats 4000000
namespace Eh
open PySem PySem.Spec PyProof.Rows L2 Evl
/-- for i, x in enumerate(list) -/
theorem for_enum {K : PySem.W.Frag} {a : Addr} {xs : List V} {tb : TS} {D : Ends} {σ : L2.St} {H : Hp} {i1 i2 : Nat} (Pv : Nat → L2.St → Hp → Prop) (h0 : Pv 0 σ H) (hl : ∀ i σ H, i ≤ xs.length → Pv i σ H → SqL K H a xs)
    (hs : ∀ i x σ H T, xs[i]? = some x → Pv i σ H → H T = none → tb { D with nx := Pv (i + 1), ct := Pv (i + 1), bk := D.nx } ((σ.set i1 (some (.int (i : Nat)))).set i2 (some x)) (upd H T (.tup [.int (i : Nat), x])))
    (hd : ∀ σ H, Pv xs.length σ H → D.nx σ H) :
    ∃ W : Nat → Nat → L2.St → Hp → Prop, (∃ m, W 0 m σ H) ∧ ∀ i m σ H, W i m σ H →
      ((Ite K a).stop i H ∧ D.nx σ H) ∨ ((Ite K a).go i H ∧ ∃ N : L2.St → Hp → Prop, (∀ σ' H', N σ' H' → ∃ m', m' < m ∧ W (i + 1) m' σ' H') ∧ ∀ x H', (Ite K a).yld i H x H' → gTup K 2 (gCons (gName i1) (gCons (gName i2) gNil)) x σ H' fun σ2 H2 => tb { D with nx := N, ct := N, bk := D.nx } σ2 H2) := by
  refine ⟨fun i m σ H => m = xs.length - i ∧ i ≤ xs.length ∧ Pv i σ H, ⟨xs.length, by omega, Nat.zero_le _, h0⟩, ?_⟩
  rintro i m σ H ⟨rfl, hi, p⟩
  have q := hl i σ H hi p
  by_cases hlt : i < xs.length
  · refine .inr ⟨⟨xs, xs[i], q, List.getElem?_eq_getElem hlt⟩, Pv (i + 1), fun σ' H' p' => ⟨xs.length - (i + 1), by omega, rfl, hlt, p'⟩, fun v H' y => ?_⟩
    obtain ⟨T, x, rfl, nT, rfl, f⟩ := y
    exact ⟨T, [.int (i : Nat), x], rfl, st_of upd_same, rfl, _, _, rfl, _, _, rfl, rfl, hs i x σ H T (f xs q) p nT⟩
  · have e : i = xs.length := by omega
    subst e
    exact .inl ⟨⟨xs, q, Nat.le_refl _⟩, hd σ H p⟩
theorem cut0 (xs : List V) (n : Nat) : cutV xs none (some (n : Int)) = xs.take n := by
  unfold cutV
  rw [HT.sIx_none, HT.sIx_nat, List.drop_zero, Nat.sub_zero]
  rw [List.take_eq_take_iff]
  omega
theorem cutF (xs : List V) (n : Nat) : cutV xs (some (n : Int)) none = xs.drop n := by
  unfold cutV
  rw [HT.sIx_none, HT.sIx_nat]
  by_cases h : n ≤ xs.length
  · rw [Nat.min_eq_left h]
    exact List.take_of_length_le (by rw [List.length_drop]; exact Nat.le_refl _)
  · rw [Nat.min_eq_right (by omega), List.drop_of_length_le (Nat.le_refl _), List.drop_of_length_le (by omega)]
    exact List.take_nil
theorem cutLH (xs : List V) (n m : Nat) : cutV xs (some (n : Int)) (some (m : Int)) = (xs.take m).drop n := by
  unfold cutV
  rw [HT.sIx_nat, HT.sIx_nat, List.drop_take]
  by_cases h : n ≤ xs.length
  · rw [Nat.min_eq_left h, List.take_eq_take_iff, List.length_drop]
    omega
  · rw [Nat.min_eq_right (show xs.length ≤ n by omega), List.drop_of_length_le (Nat.le_refl _), List.drop_of_length_le (show xs.length ≤ n by omega), List.take_nil, List.take_nil]
section
variable {P : Program} {w : World} {K : PySem.W.Frag} {mg : Str → Option Value} {base : Heap}
def spPot (K : PySem.W.Frag) : Sp := fun vs H Q _ => ∃ (a : Addr) (ns : List Int), vs = [.ref a] ∧ SqL K H a (ns.map V.int) ∧ ns.length ≤ 63 ∧ ∀ (p c : Addr) (ms : List Int) H', Ex H H' → Pot p c ms H' → H p = none → H c = none → Q (.ref p) H'
theorem ok_pot {f : Addr} {fd : FuncData} {k : Nat} (F : Fun K "_law_pot" "_law_pot" sPot f fd) (ml : mg "list" = none) (me : mg "enumerate" = none) :
    FnOk P w K mg base CX0 (k + 1) f fd ["script"] (spPot K) := by
  have nd := scPot.nd
  refine F.ok scPot (fun vs H Q E h => ?_) (fun cdv A outer s H vs Q E hr h => ?_)
  · obtain ⟨a, ns, rfl, _⟩ := h
    rfl
  · obtain ⟨a, ns, rfl, hS, hl, q⟩ := h
    refine ⟨_, pss_cons (ps_set (i := 1) nd rfl (.inl rfl) (pe_callTy call_list_of (by rfl) ml (by decide +kernel) (pa_cons (pe_slice sl_list (pv 0) po_none (po_some pe_int)) pa_nil)))
      (pss_cons (ps_for PassesOwn.never rfl (pi_enum (by rfl) me (pa_cons (pe_slice sl_list (pv 0) (po_some pe_int) (po_some pe_int)) pa_nil)) (pg_tup rfl (pgs_cons (pg_name (i := 2) nd rfl (.inl rfl)) (pgs_cons (pg_name (i := 3) nd rfl (.inl rfl)) pgs_nil)))
         (pss_one (ps_asg (pe_op op_add (pe_ix ix_list (pv 1) (pe_op op_mod (pv 2) pe_int) (fun _ _ => rfl)) (pv 3)) (pg_sub (pv 1) (pe_op op_mod (pv 2) pe_int) set_list))))
      (pss_one (ps_ret (pe_lst (pa_cons (pv 1) (pa_cons pe_int (pa_cons pe_int pa_nil))))))), ?_⟩
    refine ⟨_, rfl, 12, rfl, a, _, rfl, hS, fun u hu => ⟨u, _, rfl, .inl (sq_of upd_same), fun c hc => ?_⟩⟩
    have hcu : c ≠ u := fun e => by
      rw [e, upd_same] at hc
      cases hc
    have hcH : H c = none := by rw [← hc, upd_ne hcu]
    have e1 : Ex H (upd (upd H u (.lst (cutV (ns.map V.int) none (some 12)))) c (.lst (cutV (ns.map V.int) none (some 12)))) := (Ex.new hu).trans (Ex.new hc)
    have ec : cutV (ns.map V.int) none (some 12) = (ns.take 12).map V.int := by
      rw [show (some 12 : Option Int) = some ((12 : Nat) : Int) from rfl, cut0, List.map_take]
    rw [ec] at e1
    rw [ec]
    generalize hH1 : upd (upd H u (.lst ((ns.take 12).map V.int))) c (.lst ((ns.take 12).map V.int)) = H1 at e1 ⊢
    have hc1 : H1 c = some (.lst ((ns.take 12).map V.int)) := by
      rw [← hH1]
      exact upd_same
    refine ⟨_, rfl, 12, rfl, 63, rfl, a, _, rfl, ex_l e1 hS, fun l nl => ?_⟩
    have es : cutV (ns.map V.int) (some 12) (some 63) = ((ns.take 63).drop 12).map V.int := by
      rw [show (some 12 : Option Int) = some ((12 : Nat) : Int) from rfl, show (some 63 : Option Int) = some ((63 : Nat) : Int) from rfl, cutLH, List.map_drop, List.map_take]
    rw [es]
    have nlc : l ≠ c := fun e => by
      rw [e, hc1] at nl
      cases nl
    refine ⟨l, _, rfl, sq_of upd_same, for_enum (xs := ((ns.take 63).drop 12).map V.int) (fun i σ H' => (∃ y2 y3, σ = [some (.ref a), some (.ref c), y2, y3]) ∧ Ex H H' ∧ H' l = some (.lst (((ns.take 63).drop 12).map V.int)) ∧ ∃ ms : List Int, ms.length = min 12 ns.length ∧ H' c = some (.lst (ms.map V.int))) ?_ ?_ ?_ ?_⟩
    · refine ⟨⟨_, _, rfl⟩, e1.trans (Ex.new nl), upd_same, ns.take 12, ?_, ?_⟩
      · rw [List.length_take]
      · rw [upd_ne nlc.symm]
        exact hc1
    · rintro i σ H' _ ⟨_, _, h, _⟩
      exact sq_of h
    · rintro i x σ H' T hx ⟨⟨y2, y3, rfl⟩, eH, hl', ms, hms, hc'⟩ nT
      have ex : ∃ z : Int, x = .int z := by
        rw [List.getElem?_map] at hx
        obtain ⟨z, _, e⟩ := Option.map_eq_some_iff.mp hx
        exact ⟨z, e.symm⟩
      obtain ⟨z, rfl⟩ := ex
      have hi : 12 < ns.length := by
        have := (List.getElem?_eq_some_iff.mp hx).1
        rw [List.length_map, List.length_drop, List.length_take] at this
        omega
      have g0 : ((i : Int) % 12) = ((i % 12 : Nat) : Int) := by omega
      have hj : i % 12 < ms.length := by
        rw [hms]
        have := Nat.mod_lt i (show 0 < 12 by decide)
        omega
      have eT : Ex H' (upd H' T (.tup [.int (i : Nat), .int z])) := Ex.new nT
      have ix : (ms.map V.int)[i % 12]? = some (.int ms[i % 12]) := by
        rw [List.getElem?_map, List.getElem?_eq_getElem hj]
        rfl
      refine ⟨_, rfl, _, rfl, _, _, rfl, rfl, (by show (0 : Int) < _; decide), c, _, _, _, rfl, rfl, sq_of (eT _ _ hc'), at_of (j := i % 12) g0 ix, _, rfl, _, _, rfl, rfl, _, rfl, _, rfl, _, _, rfl, rfl, (by show (0 : Int) < _; decide), c, _, _, i % 12, rfl, rfl, eT _ _ hc', ?_, ⟨_, _, rfl⟩, ?_, ?_, ms.set (i % 12) (ms[i % 12] + z), ?_, ?_⟩
      · show ixN _ ((i : Int) % 12) = _
        rw [g0]
        exact ixN_nat (by rw [List.length_map]; exact hj)
      · exact Ex.mut (eH.trans eT) hcH
      · rw [upd_ne nlc]
        exact eT _ _ hl'
      · rw [List.length_set]
        exact hms
      · rw [upd_same, List.map_set]
    · rintro σ H' ⟨⟨y2, y3, rfl⟩, eH, hl', ms, hms, hc'⟩
      refine ⟨_, rfl, (by show 3 ≤ sizeLine; decide), fun p np => q p c ms _ (eH.trans (Ex.new np)) ⟨0, 0, by decide, upd_same, ?_⟩ (fresh_back eH np) hcH⟩
      have : c ≠ p := fun e => by
        rw [← e, hc'] at np
        cases np
      rw [upd_ne this]
      exact hc'
end
end Eh
set_option Elab.async false
set_option linter.all false
set_option maxRecDepth 100000
set_option maxHeartbeats 4000000
namespace Eh
open PySem PySem.Spec PyProof.Rows L2 Evl TL
/-! texts as lists of codes -/
abbrev cs (w : Str) : List Nat := w.cps.toList
theorem cs_ext {x y : Str} (h : cs x = cs y) : x = y := by
  cases x with | mk a => cases y with | mk b =>
  have : a = b := by
    apply Array.ext'
    exact h
  rw [this]
def az (c : Nat) : Prop := 97 ≤ c ∧ c < 123
/-- what is drawn as a letter -/
def Ltr (w : Str) : Prop := (∀ c ∈ cs w, az c) ∧ 1 ≤ (cs w).length ∧ (cs w).length ≤ 8
def spotAt (spot n : Nat) : Nat := if spot = 0 then 0 else if spot = 1 then n else n / 2
def mkL (rest : List Nat) (spot turn size k : Nat) : List Nat :=
  (rest.take ((size + k * (spot % 2)) % 8)).take (spotAt spot (rest.take ((size + k * (spot % 2)) % 8)).length) ++ ([97 + (turn + 5 * k) % 26] ++ (rest.take ((size + k * (spot % 2)) % 8)).drop (spotAt spot (rest.take ((size + k * (spot % 2)) % 8)).length))
theorem mkL_inj {rest : List Nat} {spot turn size k1 k2 : Nat} (hs : spot < 3) (h1 : k1 < 26) (h2 : k2 < 26) (h : mkL rest spot turn size k1 = mkL rest spot turn size k2) : k1 = k2 := by
  have key : 97 + (turn + 5 * k1) % 26 = 97 + (turn + 5 * k2) % 26 → k1 = k2 := fun e => by omega
  apply key
  unfold mkL at h
  have cases3 : spot = 0 ∨ spot = 1 ∨ spot = 2 := by omega
  rcases cases3 with rfl | rfl | rfl
  · simp only [spotAt, if_true, List.take_zero, List.nil_append, List.cons_append] at h
    exact (List.cons.inj h).1
  · have n1 : ∀ l : List Nat, spotAt 1 l.length = l.length := fun l => rfl
    rw [n1, n1, List.take_length, List.take_length, List.drop_length, List.drop_length, List.append_nil, List.append_nil] at h
    exact (List.cons.inj (List.append_inj' h rfl).2).1
  · rw [show k1 * (2 % 2) = 0 from Nat.mul_zero _, show k2 * (2 % 2) = 0 from Nat.mul_zero _] at h
    have := List.append_cancel_left h
    exact (List.cons.inj this).1
theorem mkL_len {rest : List Nat} {spot turn size k : Nat} : (mkL rest spot turn size k).length = (rest.take ((size + k * (spot % 2)) % 8)).length + 1 := by
  unfold mkL
  generalize rest.take ((size + k * (spot % 2)) % 8) = l
  rw [List.length_append, List.length_append, List.length_take, List.length_drop, List.length_singleton]
  omega
theorem mkL_az {rest : List Nat} {spot turn size k : Nat} (h : ∀ c ∈ rest, az c) : ∀ c ∈ mkL rest spot turn size k, az c := by
  intro c hc
  unfold mkL at hc
  rcases List.mem_append.mp hc with q | q
  · exact h c (List.mem_of_mem_take (List.mem_of_mem_take q))
  · rcases List.mem_append.mp q with q | q
    · rw [List.mem_singleton.mp q]
      unfold az
      omega
    · exact h c (List.mem_of_mem_take (List.mem_of_mem_drop q))
def mkS (rest : List Nat) (spot turn size k : Nat) : Str := ⟨(mkL rest spot turn size k).toArray⟩
theorem cs_mkS {rest : List Nat} {spot turn size k : Nat} : cs (mkS rest spot turn size k) = mkL rest spot turn size k := rfl
def mkAll (rest : List Nat) (spot turn size n : Nat) : List Str := (List.range n).map (mkS rest spot turn size)
theorem mkAll_nodup {rest : List Nat} {spot turn size n : Nat} (hs : spot < 3) (hn : n ≤ 26) : (mkAll rest spot turn size n).Nodup := by
  unfold mkAll
  rw [List.Nodup, List.pairwise_map]
  refine List.Pairwise.imp_of_mem (fun {a b} ha hb hab e => hab ?_) (List.nodup_range (n := n))
  have ha' := List.mem_range.mp ha
  have hb' := List.mem_range.mp hb
  exact mkL_inj hs (by omega) (by omega) (by
    have := congrArg cs e
    exact this)
theorem mkAll_ltr {rest : List Nat} {spot turn size n : Nat} (h : ∀ c ∈ rest, az c) : ∀ w ∈ mkAll rest spot turn size n, Ltr w := by
  intro w hw
  obtain ⟨k, _, rfl⟩ := List.mem_map.mp hw
  refine ⟨fun c hc => mkL_az h c hc, ?_, ?_⟩
  · rw [cs_mkS, mkL_len]
    omega
  · rw [cs_mkS, mkL_len, List.length_take]
    omega
theorem joinL_nil : ∀ ls : List (List Nat), joinL [] ls = ls.flatten
  | [] => rfl
  | [p] => by simp [joinL]
  | p :: q :: r => by
    show p ++ ([] ++ joinL [] (q :: r)) = (p :: q :: r).flatten
    rw [joinL_nil (q :: r), List.nil_append]
    rfl
theorem flat_one : ∀ ds : List Nat, (ds.map fun c => [c]).flatten = ds
  | [] => rfl
  | d :: r => by
    show [d] ++ (r.map fun c => [c]).flatten = d :: r
    rw [flat_one r]
    rfl
theorem cs_join (ds : List Nat) : cs (Txt.join (Str.ofString "") (ds.map fun c => (⟨#[c]⟩ : Str))) = ds := by
  have h := tl_join (Str.ofString "") (ds.map fun c => (⟨#[c]⟩ : Str))
  rw [← join_eq, show tl (Str.ofString "") = [] from rfl, joinL_nil, List.map_map] at h
  exact h.trans (flat_one ds)
abbrev alpha : Str := Str.ofString "abcdefghijklmnopqrstuvwxyz"
theorem cs_alpha : cs alpha = (List.range 26).map (97 + ·) := by decide +kernel
theorem alpha_at {v : Nat} (h : v < 26) : atI (cs alpha) (v : Int) = some (97 + v) := by
  refine atI_nat ?_
  rw [cs_alpha, List.getElem?_map, List.getElem?_range h]
  rfl
theorem cs_app (x y : Str) : cs (x ++ y) = cs x ++ cs y := tl_append x y
theorem len_cs (x : Str) : x.length = (cs x).length := by simp [Str.length]
theorem cs_cut0 (x : Str) (n : Nat) : cs (cutS x none (some (n : Int))) = (cs x).take n := by
  unfold cutS
  rw [HT.sIx_none, HT.sIx_nat]
  show ((cs x).drop 0).take _ = _
  rw [List.drop_zero, Nat.sub_zero, List.take_eq_take_iff, len_cs]
  omega
theorem cs_cutF (x : Str) (n : Nat) : cs (cutS x (some (n : Int)) none) = (cs x).drop n := by
  unfold cutS
  rw [HT.sIx_none, HT.sIx_nat, len_cs]
  show ((cs x).drop _).take _ = _
  by_cases h : n ≤ (cs x).length
  · rw [Nat.min_eq_left h]
    exact List.take_of_length_le (by rw [List.length_drop]; exact Nat.le_refl _)
  · rw [Nat.min_eq_right (show (cs x).length ≤ n by omega), List.drop_of_length_le (Nat.le_refl _), List.drop_of_length_le (show (cs x).length ≤ n by omega), List.take_nil]
end Eh
set_option Elab.async false
set_option linter.all false
set_option maxRecDepth 100000
set_option maxHeartbeats 4000000
namespace Eh
open PySem PySem.Spec PyProof.Rows L2
section
variable {X : Cx}
theorem call_repr_bl : CallR X (.builtin "repr") (fun xs H Q => ∃ b, xs = [.bl b] ∧ Q (.str (if b then "True" else "False")) H) := by
  intro pins s σ H xs us Q I r h
  obtain ⟨b, rfl, q⟩ := h
  cases r with
  | cons r1 rr =>
    cases rr
    cases r1
    exact PySem.P.repr_of_bool ⟨.str _, H, I.tok _, ⟨_, rfl⟩, q⟩
/-- a text so often -/
def repS (x : Str) (n : Nat) : Str := ⟨(List.replicate n x.cps).foldl (· ++ ·) #[]⟩
theorem foldl_app (l : List (Array Nat)) (a : Array Nat) : (l.foldl (· ++ ·) a).toList = a.toList ++ (l.map (·.toList)).flatten := by
  induction l generalizing a with
  | nil => simp
  | cons x r ih =>
    rw [List.foldl_cons, ih]
    simp
theorem repS_cs (x : Str) (n : Nat) : (repS x n).cps.toList = (List.replicate n x.cps.toList).flatten := by
  unfold repS
  rw [foldl_app, List.map_replicate]
  rfl
theorem op_repS : OpR X (binaryOp .Mult) (fun x y H Q => ∃ (z : Str) (n : Nat), x = .str z ∧ y = .int (n : Int) ∧ z.length ≤ 1000 ∧ n ≤ 1000 ∧ Q (.str (repS z n)) H) := by
  intro pins s σ H x y v u Q I rx ry h
  obtain ⟨z, n, rfl, rfl, hz, hn, q⟩ := h
  obtain ⟨t, rfl⟩ := rx
  obtain ⟨t', rfl⟩ := ry
  have e0 : n < 1 → repS z n = Str.empty := fun h => by
    have : n = 0 := by omega
    subst this
    rfl
  have ext : ∀ a b : Str, a.cps.toList = b.cps.toList → a = b := fun a b h => by
    cases a
    cases b
    congr 1
    exact Array.toList_inj.mp h
  have e1 : (n = 1 ∨ z.length = 0) → ¬ n < 1 → repS z n = z := fun h h1 => by
    apply ext
    rw [repS_cs]
    rcases h with h | h
    · subst h
      simp
    · have hz0 : z.cps.toList = [] := by
        have : z.cps.size = 0 := h
        exact List.eq_nil_of_length_eq_zero (by simpa using this)
      rw [hz0]
      simp
  have hm : z.length * n ≤ 1000000 := Nat.le_trans (Nat.mul_le_mul hz hn) (by decide)
  refine PySem.P.mul_str (by rw [decide_eq_false (by omega), decide_eq_false (by omega)]; rfl) (fun h1 _ => ?_) (fun h1 _ => ?_) ?_
  · have h2 : (1 : Int) ≤ n := by omega
    have h3 : (9223372036854775807 : Int) / (n : Int) ≥ 9223372036854775807 / 1000 := by
      refine Int.le_ediv_of_mul_le (by omega) ?_
      omega
    show ¬ ((z.length : Int) > (2 ^ 63 - 1) / (n : Int))
    have e2 : ((2 : Int) ^ 63 - 1) = 9223372036854775807 := by decide
    rw [e2]
    omega
  · rw [Int.toNat_natCast]
    show decide (z.length * n > sizeLine) = false
    rw [sizeLine_eq]
    exact decide_eq_false (by omega)
  · by_cases h1 : (n : Int) < 1
    · rw [if_pos h1]
      refine ⟨by decide, .str (repS z n), H, I.tok _, ⟨s.toks, ?_⟩, q⟩
      rw [e0 (by omega)]
    · rw [if_neg h1]
      by_cases h2 : ((n : Int) == 1 || z.length == 0) = true
      · rw [if_pos h2]
        have h3 : n = 1 ∨ z.length = 0 := by
          simp at h2
          omega
        have h4 := e1 h3 (by omega)
        rw [h4] at q
        exact ⟨.str z, H, I, ⟨_, rfl⟩, q⟩
      · rw [if_neg h2]
        have hl : (repS z n).length ≤ sizeLine := by
          have : (repS z n).length = n * z.length := by
            show (repS z n).cps.size = n * z.cps.size
            rw [← Array.length_toList, repS_cs]
            simp
          rw [this, sizeLine_eq, Nat.mul_comm]
          omega
        exact ⟨hl, .str (repS z n), H, I.tok _, ⟨_, rfl⟩, q⟩
/-- xs < ys, lists of ints -/
theorem firstLt_lex : ∀ (ns ms : List Int) (k : Nat) (e r : Nat → Bool), (∀ j, j < ns.length → j < ms.length → e (k + j) = decide (ns[j]? = ms[j]?)) → (∀ j, j < ns.length → j < ms.length → r (k + j) = decide (ns.getD j 0 < ms.getD j 0)) → SeqAt.firstLt e r (decide (ns.length < ms.length)) ((List.range (min ns.length ms.length)).map (k + ·)) = HT.lexLt ns ms
  | [], [], k, e, r, _, _ => rfl
  | [], y :: ms, k, e, r, _, _ => by simp [SeqAt.firstLt, HT.lexLt]
  | x :: ns, [], k, e, r, _, _ => by simp [SeqAt.firstLt, HT.lexLt]
  | x :: ns, y :: ms, k, e, r, he, hr => by
    rw [HT.lexLt_cons, List.length_cons, List.length_cons, show min (ns.length + 1) (ms.length + 1) = min ns.length ms.length + 1 by omega, List.range_succ_eq_map, List.map_cons, List.map_map]
    have e0 := he 0 (by simp) (by simp)
    have r0 := hr 0 (by simp) (by simp)
    have ih := firstLt_lex ns ms (k + 1) e r (fun j h1 h2 => by
      have := he (j + 1) (by simpa using h1) (by simpa using h2)
      rw [show k + 1 + j = k + (j + 1) by omega, this]
      simp) (fun j h1 h2 => by
      have := hr (j + 1) (by simpa using h1) (by simpa using h2)
      rw [show k + 1 + j = k + (j + 1) by omega, this]
      simp)
    by_cases h : x = y
    · rw [if_pos h, SeqAt.firstLt_yes (by rw [e0]; simp [h])]
      rw [show (decide (ns.length + 1 < ms.length + 1)) = decide (ns.length < ms.length) by simp, show ((fun x => k + x) ∘ Nat.succ) = (fun x => k + 1 + x) by funext z; show k + (z + 1) = k + 1 + z; omega]
      exact ih
    · rw [if_neg h, SeqAt.firstLt_no (by rw [e0]; simp [h]), r0]
      rfl
def rLtL (K : PySem.W.Frag) : R2 := fun x y H Q => ∃ (a b : Addr) (ns ms : List Int), x = .ref a ∧ y = .ref b ∧ SqL K H a (ns.map V.int) ∧ SqL K H b (ms.map V.int) ∧ Q (.bl (HT.lexLt ns ms)) H
theorem op_ltL (hu : X.A.units < cLine) : OpR X (compareOp .Lt) (rLtL X.K) := by
  intro pins s σ H x y v u Q I rx ry h
  obtain ⟨a, b, ns, ms, rfl, rfl, ha, hb, q⟩ := h
  cases rx
  cases ry
  obtain ⟨its, r1, p1, _⟩ := I.list ha
  obtain ⟨its2, r2, p2, _⟩ := I.list hb
  have l1 : its.length = ns.length := by
    have := r1.length
    rw [List.length_map] at this
    exact this.symm
  have l2 : its2.length = ms.length := by
    have := r2.length
    rw [List.length_map] at this
    exact this.symm
  have g1 : ∀ j (h : j < ns.length), ∃ t, its[j]'(by omega) = .int ns[j] t := fun j h => by
    obtain ⟨u, hu, t, ru⟩ := r1.get (i := j) (show (ns.map V.int)[j]? = some (.int ns[j]) by rw [List.getElem?_map, List.getElem?_eq_getElem h]; rfl)
    obtain ⟨_, e⟩ := List.getElem?_eq_some_iff.mp hu
    exact ⟨t, e.trans ru⟩
  have g2 : ∀ j (h : j < ms.length), ∃ t, its2[j]'(by omega) = .int ms[j] t := fun j h => by
    obtain ⟨u, hu, t, ru⟩ := r2.get (i := j) (show (ms.map V.int)[j]? = some (.int ms[j]) by rw [List.getElem?_map, List.getElem?_eq_getElem h]; rfl)
    obtain ⟨_, e⟩ := List.getElem?_eq_some_iff.mp hu
    exact ⟨t, e.trans ru⟩
  have key := SeqAt.RcLt.lists (A := X.A) (s := s) (e := fun j => decide (ns[j]? = ms[j]?)) (r := fun j => decide (ns.getD j 0 < ms.getD j 0)) p1.isList p2.isList hu (fun j h1 h2 => ?_) (fun j h1 h2 hj => ?_)
  · have e : SeqAt.firstLt (fun j => decide (ns[j]? = ms[j]?)) (fun j => decide (ns.getD j 0 < ms.getD j 0)) (decide (its.toArray.size < its2.toArray.size)) (List.range (min its.toArray.size its2.toArray.size)) = HT.lexLt ns ms := by
      have := firstLt_lex ns ms 0 (fun j => decide (ns[j]? = ms[j]?)) (fun j => decide (ns.getD j 0 < ms.getD j 0)) (fun j _ _ => by rw [Nat.zero_add]) (fun j _ _ => by rw [Nat.zero_add])
      rw [← this]
      simp [l1, l2]
    rw [e] at key
    exact key _ _ _ _ ⟨.bl _, H, I, rfl, q⟩
  · have h1' : j < ns.length := by simpa [l1] using h1
    have h2' : j < ms.length := by simpa [l2] using h2
    obtain ⟨t1, e1⟩ := g1 j h1'
    obtain ⟨t2, e2⟩ := g2 j h2'
    have e3 : its.toArray[j] = .int ns[j] t1 := by simpa using e1
    have e4 : its2.toArray[j] = .int ms[j] t2 := by simpa using e2
    rw [e3, e4]
    have := SeqAt.EqAt.int_int (A := X.A.in1) (s := s) ns[j] t1 ms[j] t2
    have e5 : decide (ns[j]? = ms[j]?) = (ns[j] == ms[j]) := by
      rw [List.getElem?_eq_getElem h1', List.getElem?_eq_getElem h2']
      by_cases z : ns[j] = ms[j] <;> simp [z]
    simp only [e5]
    exact this
  · have h1' : j < ns.length := by simpa [l1] using h1
    have h2' : j < ms.length := by simpa [l2] using h2
    obtain ⟨t1, e1⟩ := g1 j h1'
    obtain ⟨t2, e2⟩ := g2 j h2'
    have e3 : its.toArray[j] = .int ns[j] t1 := by simpa using e1
    have e4 : its2.toArray[j] = .int ms[j] t2 := by simpa using e2
    rw [e3, e4]
    have e5 : decide (ns.getD j 0 < ms.getD j 0) = decide (ns[j] < ms[j]) := by
      rw [List.getD_eq_getElem?_getD, List.getD_eq_getElem?_getD, List.getElem?_eq_getElem h1', List.getElem?_eq_getElem h2']
      rfl
    simp only [e5]
    intro prog w E Q hq
    exact HT.rcLt_int _ _ _ _ _ _ prog w E Q hq
end
end Eh
set_option Elab.async false
set_option linter.all false
set_option maxRecDepth 100000
set_option maxHeartbeats 4000000
namespace Eh
open PySem PySem.Spec PyProof.Rows L2 Evl
abbrev lS (ws : List Str) : HO := .lst (ws.map V.str)
abbrev nLetters : List Str := ["pot", "many", "small", "k", "rest", "spot", "turn", "size", "found", "part", "at"]
theorem yesT {σ : L2.St} {H : Hp} {A B : Hp → Prop} (h : A H) : tYes σ H (fun b H3 => if b = true then A H3 else B H3) := by
  show if true = true then A H else B H
  exact iteT h
theorem Pot.ne_new {p c q : Addr} {ns : List Int} {H : Hp} (h : Pot p c ns H) (hq : H q = none) : p ≠ q ∧ c ≠ q := by
  obtain ⟨a, r, h0, h1, h2⟩ := h
  exact ⟨ne_of_none h1 hq, ne_of_none h2 hq⟩
/-! one sign so often -/
def mk3 (turn k : Nat) : Str := repS ⟨#[97 + (turn + k / 8) % 26]⟩ (1 + k % 8)
theorem cs_mk3 (turn k : Nat) : cs (mk3 turn k) = List.replicate (1 + k % 8) (97 + (turn + k / 8) % 26) := by
  show (mk3 turn k).cps.toList = _
  unfold mk3
  rw [repS_cs]
  show (List.replicate (1 + k % 8) [97 + (turn + k / 8) % 26]).flatten = _
  generalize 1 + k % 8 = n
  induction n with
  | zero => rfl
  | succ n ih =>
    rw [List.replicate_succ, List.replicate_succ, List.flatten_cons, ih]
    rfl
theorem mk3_inj {turn k1 k2 : Nat} (h1 : k1 < 26) (h2 : k2 < 26) (h : mk3 turn k1 = mk3 turn k2) : k1 = k2 := by
  have e := congrArg cs h
  rw [cs_mk3, cs_mk3] at e
  have l := congrArg List.length e
  rw [List.length_replicate, List.length_replicate] at l
  have c : (List.replicate (1 + k1 % 8) (97 + (turn + k1 / 8) % 26))[0]? = (List.replicate (1 + k2 % 8) (97 + (turn + k2 / 8) % 26))[0]? := by rw [e]
  rw [List.getElem?_replicate, List.getElem?_replicate, if_pos (by omega), if_pos (by omega)] at c
  have c' := Option.some.inj c
  omega
theorem mk3_ltr (turn k : Nat) : Ltr (mk3 turn k) := by
  refine ⟨fun c hc => ?_, ?_, ?_⟩
  · rw [cs_mk3] at hc
    rw [List.eq_of_mem_replicate hc]
    unfold az
    omega
  · rw [cs_mk3, List.length_replicate]
    omega
  · rw [cs_mk3, List.length_replicate]
    omega
def all3 (turn n : Nat) : List Str := (List.range n).map (mk3 turn)
theorem all3_nodup {turn n : Nat} (h : n ≤ 26) : (all3 turn n).Nodup := by
  unfold all3
  refine List.pairwise_map.mpr (List.Pairwise.imp_of_mem ?_ List.nodup_range)
  intro a b ha hb hne e
  exact hne (mk3_inj (by have := List.mem_range.mp ha; omega) (by have := List.mem_range.mp hb; omega) e)
theorem Keep.back {p q : Addr} {H H' : Hp} (k : Keep p H H') (hq : q ≠ p) (h : H' q = none) : H q = none := by
  cases e : H q with
  | none => rfl
  | some o =>
    rw [k q o hq e] at h
    cases h
section
variable {P : Program} {w : World} {K : PySem.W.Frag} {mg : Str → Option Value} {base : Heap}
def spLetters : Sp := fun vs H Q _ => ∃ (p c : Addr) (ns : List Int) (m : Nat), vs = [.ref p, .int (m : Int)] ∧ m ≤ 26 ∧ Pot p c ns H ∧
  ∀ (ws : List Str) l H', ws.length = m → ws.Nodup → (∀ x ∈ ws, Ltr x) → Keep p H H' → Pot p c ns H' → H l = none → H' l = some (lS ws) → Q (.ref l) H'
theorem ok_letters {f fP : Addr} {fd fdP : FuncData} {k : Nat} (F : Fun K "_law_letters" "_law_letters" sLetters f fd) (FP : Fun K "_law_pick" "_law_pick" sPick fP fdP) (GP : FnOk P w K mg base CX0 (k + 1) fP fdP ["pot", "many"] spPick) (bP : Binds K fdP ["pot", "many"] []) (gP : mg "_law_pick" = some (.ref fP)) (ml : mg "len" = none) (mr : mg "range" = none) :
    FnOk P w K mg base CX0 (k + 2) f fd ["pot", "many"] spLetters := by
  have nd := scLetters.nd
  refine F.ok scLetters (fun vs H Q E h => ?_) (fun cdv A outer s H vs Q E hr h => ?_)
  · obtain ⟨p, c, ns, m, rfl, _⟩ := h
    rfl
  · obtain ⟨p, c, ns, m, rfl, m1, hP, q⟩ := h
    refine ⟨_, pss_cons (ps_set (i := 2) nd rfl (.inr rfl) pe_str)
      (pss_cons (ps_set (i := 4) nd rfl (.inl rfl) (pe_join pe_str (pe_lc (own := [("k", 3)]) (g := gName 3) (tt := tYes) (by rfl) nd (pi_range1 (by rfl) mr (pa_cons pe_int pa_nil)) (blkOk_by (own := [("k", 3)]) (N := nLetters) (sc := defScope sLetters) (by decide +kernel)) (fun _ _ _ _ _ => pg_name (i := 3) nd rfl (Or.inl rfl)) (fun _ _ _ _ _ => pts_nil)
          (fun _ _ _ _ _ => pe_ix ix_str (pv 2) (pe_call GP hr (by rfl) gP FP.kp bP .nil pass0 (pa_cons (pv 0) (pa_cons pe_int pa_nil))) (fun _ _ => rfl)))))
      (pss_cons (ps_set (i := 5) nd rfl (.inl rfl) (pe_call GP hr (by rfl) gP FP.kp bP .nil pass0 (pa_cons (pv 0) (pa_cons pe_int pa_nil))))
      (pss_cons (ps_set (i := 6) nd rfl (.inr rfl) (pe_call GP hr (by rfl) gP FP.kp bP .nil pass0 (pa_cons (pv 0) (pa_cons pe_int pa_nil))))
      (pss_cons (ps_set (i := 7) nd rfl (.inl rfl) (pe_call GP hr (by rfl) gP FP.kp bP .nil pass0 (pa_cons (pv 0) (pa_cons pe_int pa_nil))))
      (pss_cons (ps_if (pt_cmpR op_eq (pv 5) pe_int (nomark _)) (pss_one (ps_ret (pe_lc (own := [("k", 3)]) (g := gName 3) (tt := tYes) (by rfl) nd (pi_range1 (by rfl) mr (pa_cons (pv 1) pa_nil)) (blkOk_by (own := [("k", 3)]) (N := nLetters) (sc := defScope sLetters) (by decide +kernel)) (fun _ _ _ _ _ => pg_name (i := 3) nd rfl (Or.inl rfl)) (fun _ _ _ _ _ => pts_nil)
          (fun _ _ _ _ _ => pe_op op_repS (pe_ix ix_str (pv 2) (pe_op op_mod (pe_op op_add (pv 6) (pe_op op_fdiv (pv 3) pe_int)) pe_int) (fun _ _ => rfl)) (pe_op op_add pe_int (pe_op op_mod (pv 3) pe_int)))))) pss_nil)
      (pss_cons (ps_set (i := 8) nd rfl (.inl rfl) (pe_lst pa_nil))
      (pss_cons (ps_for PassesOwn.never rfl (pi_range1 (by rfl) mr (pa_cons (pv 1) pa_nil)) (pg_name (i := 3) nd rfl (.inl rfl))
        (pss_cons (ps_set (i := 9) nd rfl (.inl rfl) (pe_slice sl_str (pv 4) po_none (po_some (pe_op op_mod (pe_op op_add (pv 7) (pe_op op_mul (pv 3) (pe_op op_mod (pv 5) pe_int))) pe_int))))
        (pss_cons (ps_set (i := 10) nd rfl (.inl rfl) (pe_ix ix_list (pe_lst (pa_cons pe_int (pa_cons (pe_callB call_len_str (by rfl) ml PySem.boot_len (pa_cons (pv 9) pa_nil)) (pa_cons (pe_op op_fdiv (pe_callB call_len_str (by rfl) ml PySem.boot_len (pa_cons (pv 9) pa_nil)) pe_int) pa_nil)))) (pv 5) (fun _ _ => rfl)))
        (pss_one (ps_expr (pe_bm PySem.F.plainAttrs_list PySem.F.slot_list_append PySem.F.type_list_append mt_append (pv 8) (pa_cons (pe_op op_add_str (pe_op op_add_str (pe_slice sl_str (pv 9) po_none (po_some (pv 10))) (pe_ix ix_str (pv 2) (pe_op op_mod (pe_op op_add (pv 6) (pe_op op_mul pe_int (pv 3))) pe_int) (fun _ _ => rfl))) (pe_slice sl_str (pv 9) (po_some (pv 10)) po_none)) pa_nil)))))))
      (pss_one (ps_ret (pv 8)))))))))), ?_⟩
    -- rest
    refine ⟨⟨_, rfl⟩, 7, rfl, by decide, by decide, fun D nD => ?_⟩
    refine lc_range (lo := 0) (n := 7) (fun i H' => ∃ ds : List Nat, ds.length = i ∧ (∀ d ∈ ds, az d) ∧ H' D = some (.lst (ds.map fun d => .str ⟨#[d]⟩)) ∧ Keep p H H' ∧ Pot p c ns H') ?_ ?_ ?_
    · exact ⟨[], rfl, fun d hd => (List.not_mem_nil hd).elim, upd_same, (Keep.refl p H).new nD, hP.new (hP.ne_new nD).1 (hP.ne_new nD).2⟩
    · rintro i H' hi ⟨ds, hds, haz, hD, kp, hP'⟩
      refine ⟨rfl, ?_⟩
      refine yesT ?_
      refine ⟨_, rfl, _, rfl, p, c, ns, 26, rfl, by decide, by decide, hP', fun v H2 hv kp2 hP2 => ?_⟩
      have hv' : v < 26 := by omega
      have hpD := (hP.ne_new nD).1
      have hD2 : H2 D = some (.lst (ds.map fun d => .str ⟨#[d]⟩)) := kp2 _ _ hpD.symm hD
      refine ⟨_, _, 97 + v, rfl, rfl, by decide, alpha_at hv', _, hD2, ?_, ds ++ [97 + v], ?_, ?_, ?_, ?_, ?_⟩
      · rw [List.length_map]
        exact sz_lt (by omega)
      · rw [List.length_append, hds]
        rfl
      · intro d hd
        rcases List.mem_append.mp hd with z | z
        · exact haz d z
        · rw [List.mem_singleton.mp z]
          unfold az
          omega
      · rw [upd_same, List.map_append]
        rfl
      · exact (kp.trans kp2).new nD
      · exact hP2.new hpD (hP.ne_new nD).2
    · rintro H1 ⟨ds, hds, haz, hD, kp, hP1⟩
      have hlen : ((ds.map fun d => (⟨#[d]⟩ : Str)).map (·.length)).sum ≤ 100 := by
        have : ∀ l : List Nat, ((l.map fun d => (⟨#[d]⟩ : Str)).map (·.length)).sum = l.length := fun l => by
          induction l with
          | nil => rfl
          | cons x r ih =>
            rw [List.map_cons, List.map_cons, List.sum_cons, ih, List.length_cons, show (⟨#[x]⟩ : Str).length = 1 from rfl]
            omega
        rw [this]
        omega
      refine ⟨_, D, ds.map fun d => (⟨#[d]⟩ : Str), rfl, rfl, .inl (sq_of (by rw [List.map_map]; exact hD)), ?_, ?_⟩
      · rw [List.length_map, show (Str.ofString "").length = 0 from rfl]
        omega
      · generalize hR : Txt.join (Str.ofString "") (ds.map fun d => (⟨#[d]⟩ : Str)) = rest
        have cR : cs rest = ds := by
          rw [← hR]
          exact cs_join ds
        -- spot, turn, size
        refine ⟨_, rfl, p, c, ns, 4, rfl, by decide, by decide, hP1, fun spot H2 hspot4 kp2 hP2 => ?_⟩
        refine ⟨_, rfl, p, c, ns, 26, rfl, by decide, by decide, hP2, fun turn H3 hturn kp3 hP3 => ?_⟩
        refine ⟨_, rfl, p, c, ns, 8, rfl, by decide, by decide, hP3, fun size H4 hsize kp4 hP4 => ?_⟩
        have kp04 : Keep p H H4 := ((kp.trans kp2).trans kp3).trans kp4
        refine ⟨_, rfl, rfl, _, rfl, ite2 (fun h3 => ?_) (fun h3 => ?_)⟩
        · refine ⟨_, rfl, m, rfl, by omega, by omega, fun l nl => ?_⟩
          have hpl := hP4.ne_new nl
          have nlH : H l = none := Keep.back kp04 hpl.1.symm nl
          refine lc_range (lo := 0) (n := ((m : Int)).toNat) (fun i H' => H' = upd H4 l (lS (all3 turn i))) rfl ?_ ?_
          · rintro i H' hi rfl
            have hlt : (turn + i / 8) % 26 < 26 := Nat.mod_lt _ (by decide)
            have e0 : (0 : Int) + (i : Int) = (i : Int) := Int.zero_add _
            rw [e0]
            have e2 : ((turn : Int) + (i : Int) / 8) % 26 = (((turn + i / 8) % 26 : Nat) : Int) := by omega
            have hat : atI (cs alpha) (((turn : Int) + (i : Int) / 8) % 26) = some (97 + (turn + i / 8) % 26) := by
              rw [e2]
              exact alpha_at hlt
            refine ⟨rfl, yesT ⟨_, rfl, _, rfl, _, rfl, _, _, rfl, rfl, ⟨by decide, by decide⟩, _, _, rfl, rfl, _, _, rfl, rfl, (by show (0 : Int) < _; decide), _, _, _, rfl, rfl, by decide, hat, _, rfl, _, _, rfl, rfl, (by show (0 : Int) < _; decide), _, _, rfl, rfl, _, 1 + i % 8, rfl, ?_, (by show 1 ≤ 1000; decide), by omega, _, upd_same, ?_, ?_⟩⟩
            · show V.int (1 + (i : Int) % 8) = V.int ((1 + i % 8 : Nat) : Int)
              congr 1
            · rw [List.length_map]
              unfold all3
              rw [List.length_map, List.length_range]
              exact sz_lt (by omega)
            · funext b
              by_cases hb : b = l
              · rw [hb, upd_same, upd_same]
                unfold lS all3
                rw [List.range_succ, List.map_append, List.map_append]
                rfl
              · rw [upd_ne hb, upd_ne hb, upd_ne hb]
          · rintro H' rfl
            rw [Int.toNat_natCast]
            refine q (all3 turn m) l _ ?_ (all3_nodup m1) (fun x hx => ?_) (kp04.new nlH) (hP4.new hpl.1 hpl.2) nlH upd_same
            · unfold all3
              rw [List.length_map, List.length_range]
            · unfold all3 at hx
              obtain ⟨k, _, rfl⟩ := List.mem_map.mp hx
              exact mk3_ltr turn k
        have hspot : (spot : Int) < 3 := by
          have : spot ≠ 3 := fun z => h3 (by rw [z]; rfl)
          omega
        refine ⟨Nat.zero_le _, fun l nl => ?_⟩
        have hpl := hP4.ne_new nl
        have nlH : H l = none := by
          cases e : H l with
          | none => rfl
          | some o =>
            by_cases z : l = p
            · exact absurd z.symm hpl.1
            · rw [kp04 l o z e] at nl
              cases nl
        refine ⟨_, rfl, m, rfl, by omega, by omega, for_range (lo := 0) (n := ((m : Int)).toNat) (fun i σ H' => (∃ y3 y9 y10, σ = [some (.ref p), some (.int (m : Int)), some (.str alpha), y3, some (.str rest), some (.int (spot : Int)), some (.int (turn : Int)), some (.int (size : Int)), some (.ref l), y9, y10]) ∧ Keep p H H' ∧ Pot p c ns H' ∧ H' l = some (lS (mkAll (cs rest) spot turn size i))) ?_ ?_ ?_⟩
        · exact ⟨⟨_, _, _, rfl⟩, kp04.new nlH, hP4.new hpl.1 hpl.2, upd_same⟩
        · rintro i σ H' hi ⟨⟨y3, y9, y10, rfl⟩, kp', hP', hl'⟩
          have hi' : i < m := by omega
          have e0 : (0 : Int) + (i : Int) = (i : Int) := Int.zero_add _
          rw [e0]
          have e1 : ((size : Int) + (i : Int) * ((spot : Int) % 2)) % 8 = (((size + i * (spot % 2)) % 8 : Nat) : Int) := by
            rw [show ((spot : Int) % 2) = ((spot % 2 : Nat) : Int) by omega, ← Int.natCast_mul]
            generalize i * (spot % 2) = z
            omega
          have lenR : rest.length ≤ sizeLine := sz_of (by rw [len_cs, cR]; omega)
          refine ⟨_, rfl, _, rfl, _, rfl, _, rfl, _, _, rfl, rfl, (by show (0 : Int) < _; decide), _, _, rfl, rfl, .inr (by rcases (show spot % 2 = 0 ∨ spot % 2 = 1 by omega) with z | z <;> exact ⟨by show -(2 ^ 64) < (spot : Int) % 2; omega, by show (spot : Int) % 2 < 2 ^ 64; omega⟩), _, _, rfl, rfl, _, _, rfl, rfl, (by show (0 : Int) < _; decide), _, rfl, rest, rfl, lenR, ?_⟩
          show tSeq _ _ _ [some (.ref p), some (.int (m : Int)), some (.str alpha), some (.int (i : Int)), some (.str rest), some (.int (spot : Int)), some (.int (turn : Int)), some (.int (size : Int)), some (.ref l), some (.str (cutS rest none (some (((size : Int) + (i : Int) * ((spot : Int) % 2)) % 8)))), y10] H'
          rw [e1]
          have cP := cs_cut0 rest ((size + i * (spot % 2)) % 8)
          generalize cutS rest none (some (((size + i * (spot % 2)) % 8 : Nat) : Int)) = part at cP
          have lp : part.length ≤ 8 := by
            rw [len_cs, cP, List.length_take, cR]
            omega
          have lpS : part.length ≤ sizeLine := sz_of (by omega)
          -- at
          refine ⟨_, rfl, part, rfl, lpS, _, rfl, part, rfl, lpS, _, _, rfl, rfl, ⟨by decide, by decide⟩, (by show 3 ≤ sizeLine; decide), fun t nt => ?_⟩
          have eT : Ex H' (upd H' t (.lst [.int 0, .int (part.length : Int), .int ((part.length : Int) / 2)])) := Ex.new nt
          refine ⟨_, rfl, t, _, _, .int (spotAt spot part.length : Nat), rfl, rfl, sq_of upd_same, at_of (j := spot) rfl ?_, ?_⟩
          · rcases (show spot = 0 ∨ spot = 1 ∨ spot = 2 by omega) with rfl | rfl | rfl
            · rfl
            · rfl
            · show some (V.int ((part.length : Int) / 2)) = some (V.int ((part.length / 2 : Nat) : Int))
              rw [show ((part.length / 2 : Nat) : Int) = (part.length : Int) / 2 by omega]
          -- append
          · have e2 : ((turn : Int) + 5 * (i : Int)) % 26 = (((turn + 5 * i) % 26 : Nat) : Int) := by omega
            have hlt : (turn + 5 * i) % 26 < 26 := Nat.mod_lt _ (by decide)
            have hat : atI (cs alpha) (((turn : Int) + 5 * (i : Int)) % 26) = some (97 + (turn + 5 * i) % 26) := by
              rw [e2]
              exact alpha_at hlt
            have hl2 := eT _ _ hl'
            have c1 := cs_cut0 part (spotAt spot part.length)
            have c2 := cs_cutF part (spotAt spot part.length)
            have k1 : (cutS part none (some ((spotAt spot part.length : Nat) : Int))).length ≤ 8 := by
              rw [len_cs, c1, List.length_take, ← len_cs]
              omega
            have k2 : (cutS part (some ((spotAt spot part.length : Nat) : Int)) none).length ≤ 8 := by
              rw [len_cs, c2, List.length_drop, ← len_cs]
              omega
            refine ⟨_, rfl, .inl ⟨rfl, _, sq_of hl2⟩, _, rfl, _, rfl, _, rfl, part, rfl, lpS, _, rfl, _, rfl, _, rfl, _, _, rfl, rfl, .inl ⟨by decide, by decide⟩, _, _, rfl, rfl, _, _, rfl, rfl, (by show (0 : Int) < _; decide), _, _, _, rfl, rfl, by decide, hat, _, _, rfl, rfl, ?_, _, rfl, _, rfl, _, rfl, part, rfl, lpS, _, _, rfl, rfl, ?_, l, _, _, rfl, rfl, hl2, ?_, ⟨_, _, _, rfl⟩, ?_, ?_, ?_⟩
            · exact sz_of (by
                have : (⟨#[97 + (turn + 5 * i) % 26]⟩ : Str).length = 1 := rfl
                omega)
            · exact sz_of (by
                rw [len_cs, cs_app, List.length_append, ← len_cs, ← len_cs]
                have : (⟨#[97 + (turn + 5 * i) % 26]⟩ : Str).length = 1 := rfl
                omega)
            · rw [List.length_map]
              exact sz_lt (by unfold mkAll; rw [List.length_map, List.length_range]; omega)
            · exact (kp'.trans (Keep.ofEx eT)).new nlH
            · exact (hP'.ex eT).new hpl.1 hpl.2
            · rw [upd_same]
              have e3 : cutS part none (some ((spotAt spot part.length : Nat) : Int)) ++ (⟨#[97 + (turn + 5 * i) % 26]⟩ : Str) ++ cutS part (some ((spotAt spot part.length : Nat) : Int)) none = mkS (cs rest) spot turn size i := by
                apply cs_ext
                rw [cs_app, cs_app, c1, c2, cs_mkS, len_cs, cP, List.append_assoc]
                rfl
              rw [e3]
              unfold lS mkAll
              rw [List.range_succ, List.map_append, List.map_append]
              rfl
        · rintro σ H' ⟨⟨y3, y9, y10, rfl⟩, kp', hP', hl'⟩
          refine ⟨_, rfl, q (mkAll (cs rest) spot turn size m) l H' ?_ (mkAll_nodup (by omega) m1) (mkAll_ltr (by rw [cR]; exact haz)) kp' hP' nlH ?_⟩
          · unfold mkAll
            rw [List.length_map, List.length_range]
          · rw [Int.toNat_natCast] at hl'
            exact hl'
end
end Eh
set_option Elab.async false
set_option linter.all false
set_option maxRecDepth 100000
set_option maxHeartbeats 4000000
namespace Eh
open PySem PySem.Spec PyProof.Rows L2 Evl
/-- a sheet: its opens, plains, closes -/
structure Sht (os ps qs : List Str) : Prop where
  nd : (os ++ ps ++ qs).Nodup
  lt : ∀ x ∈ os ++ ps ++ qs, Ltr x
  o1 : 1 ≤ os.length
  o4 : os.length ≤ 4
  p4 : ps.length ≤ 4
  c1 : 1 ≤ qs.length
  c4 : qs.length ≤ 4
def SheetAt (H : Hp) (s : Addr) (os ps qs : List Str) : Prop := ∃ ao ap ac, H s = some (.tup [.ref ao, .ref ap, .ref ac]) ∧ H ao = some (.tup (os.map V.str)) ∧ H ap = some (.tup (ps.map V.str)) ∧ H ac = some (.tup (qs.map V.str))
theorem Pot.ne_tup {p c a : Addr} {ns : List Int} {H : Hp} {xs : List V} (h : Pot p c ns H) (ha : H a = some (.tup xs)) : a ≠ p := fun e => by
  obtain ⟨_, _, _, h1, _⟩ := h
  rw [e, h1] at ha
  cases ha
theorem SheetAt.ex {H H' : Hp} {s : Addr} {os ps qs : List Str} (h : SheetAt H s os ps qs) (e : Ex H H') : SheetAt H' s os ps qs := by
  obtain ⟨ao, ap, ac, h0, h1, h2, h3⟩ := h
  exact ⟨ao, ap, ac, e _ _ h0, e _ _ h1, e _ _ h2, e _ _ h3⟩
theorem SheetAt.keep {H H' : Hp} {s p c : Addr} {ns : List Int} {os ps qs : List Str} (h : SheetAt H s os ps qs) (hP : Pot p c ns H) (k : Keep p H H') : SheetAt H' s os ps qs := by
  obtain ⟨ao, ap, ac, h0, h1, h2, h3⟩ := h
  exact ⟨ao, ap, ac, k _ _ (hP.ne_tup h0) h0, k _ _ (hP.ne_tup h1) h1, k _ _ (hP.ne_tup h2) h2, k _ _ (hP.ne_tup h3) h3⟩
theorem rot_nodup {L : List Str} (t : Nat) (h : L.Nodup) : (L.drop t ++ L.take t).Nodup := by
  refine (List.perm_append_comm.nodup_iff).mp ?_
  rw [List.take_append_drop]
  exact h
theorem rot_mem {L : List Str} {t : Nat} {x : Str} (h : x ∈ L.drop t ++ L.take t) : x ∈ L := by
  rcases List.mem_append.mp h with q | q
  · exact List.mem_of_mem_drop q
  · exact List.mem_of_mem_take q
theorem sub12 {L : List Str} {a b d : Nat} (ha : a ≤ 4) (hb : b ≤ 4) : ((L.take a) ++ (L.take (4 + b)).drop 4 ++ (L.take (8 + d)).drop 8).Sublist L := by
  have e : L = L.take 4 ++ (L.take 8).drop 4 ++ L.drop 8 := by
    have e1 : L.take 4 ++ (L.take 8).drop 4 = L.take 8 := by
      have := List.take_append_drop 4 (L.take 8)
      rw [List.take_take] at this
      exact this
    rw [e1, List.take_append_drop]
  have s1 : (L.take a).Sublist (L.take 4) := by
    have : L.take a = (L.take 4).take a := by rw [List.take_take, Nat.min_eq_left ha]
    rw [this]
    exact List.take_sublist _ _
  have s2 : ((L.take (4 + b)).drop 4).Sublist ((L.take 8).drop 4) := by
    refine List.Sublist.drop ?_ 4
    have : L.take (4 + b) = (L.take 8).take (4 + b) := by rw [List.take_take, Nat.min_eq_left (by omega)]
    rw [this]
    exact List.take_sublist _ _
  have s3 : ((L.take (8 + d)).drop 8).Sublist (L.drop 8) := List.Sublist.drop (List.take_sublist _ _) 8
  have := (s1.append s2).append s3
  rw [← e] at this
  exact this
theorem sht_of {L : List Str} (hn : L.Nodup) (hl : ∀ x ∈ L, Ltr x) (h12 : L.length = 12) {a b d : Nat} (a1 : 1 ≤ a) (a4 : a ≤ 4) (b4 : b ≤ 4) (d1 : 1 ≤ d) (d4 : d ≤ 4) : Sht (L.take a) ((L.take (4 + b)).drop 4) ((L.take (8 + d)).drop 8) := by
  refine ⟨(sub12 a4 b4).nodup hn, fun x hx => hl x ((sub12 a4 b4).subset hx), ?_, ?_, ?_, ?_, ?_⟩ <;> simp only [List.length_take, List.length_drop, h12] <;> omega
theorem menu1 {v : Nat} (h : v < 5) : ∃ x : Nat, ([.int 1, .int 1, .int 2, .int 2, .int 4] : List V)[v]? = some (.int (x : Int)) ∧ 1 ≤ x ∧ x ≤ 4 := by
  rcases (show v = 0 ∨ v = 1 ∨ v = 2 ∨ v = 3 ∨ v = 4 by omega) with rfl | rfl | rfl | rfl | rfl
  · exact ⟨1, rfl, by omega⟩
  · exact ⟨1, rfl, by omega⟩
  · exact ⟨2, rfl, by omega⟩
  · exact ⟨2, rfl, by omega⟩
  · exact ⟨4, rfl, by omega⟩
theorem menu0 {v : Nat} (h : v < 5) : ∃ x : Nat, ([.int 0, .int 1, .int 1, .int 2, .int 4] : List V)[v]? = some (.int (x : Int)) ∧ x ≤ 4 := by
  rcases (show v = 0 ∨ v = 1 ∨ v = 2 ∨ v = 3 ∨ v = 4 by omega) with rfl | rfl | rfl | rfl | rfl
  · exact ⟨0, rfl, by omega⟩
  · exact ⟨1, rfl, by omega⟩
  · exact ⟨1, rfl, by omega⟩
  · exact ⟨2, rfl, by omega⟩
  · exact ⟨4, rfl, by omega⟩
theorem minI (m x : Nat) : (if (x : Int) < (m : Int) then (x : Int) else (m : Int)) = ((min m x : Nat) : Int) := by
  split <;> omega
theorem map_cut0 (L : List Str) (n : Nat) : cutV (L.map V.str) none (some (n : Int)) = (L.take n).map V.str := by rw [cut0, List.map_take]
theorem map_cutF (L : List Str) (n : Nat) : cutV (L.map V.str) (some (n : Int)) none = (L.drop n).map V.str := by rw [cutF, List.map_drop]
theorem map_cutLH (L : List Str) (n m : Nat) : cutV (L.map V.str) (some (n : Int)) (some (m : Int)) = ((L.take m).drop n).map V.str := by rw [cutLH, List.map_drop, List.map_take]
theorem lS_ne {p c l : Addr} {ns : List Int} {H : Hp} {ws : List Str} (h : Pot p c ns H) (hl : H l = some (lS ws)) : l ≠ p := fun e => by
  obtain ⟨_, _, _, h1, _⟩ := h
  rw [e, h1] at hl
  injection hl with hl
  injection hl with hl
  cases ws <;> cases hl
theorem menu_rd {K : PySem.W.Frag} {p c : Addr} {ns : List Int} {H : Hp} {σ : L2.St} {xs : List V} {Q : VK} {ta : TA} {n : Int} (hP : Pot p c ns H) (hσ : σ[0]? = some (some (.ref p))) (n0 : 0 < n) (n1 : n < 1073741824) (hta : ∀ Q : List V → Hp → Prop, Q xs H → ta σ H Q) (hxs : xs.length ≤ 1000)
    (k : ∀ (v : Nat) H', (v : Int) < n → Keep p H H' → Pot p c ns H' → ∃ z, xs[v]? = some z ∧ Q z H') : tOp (rIxL K) (tLst ta) (tCall spPick [] E0 (tCons (tVar 0) (tCons (tC (.int n)) tNil))) σ H Q := by
  refine hta _ ⟨sz_of (by omega), fun t nt => ⟨_, hσ, p, c, ns, n, rfl, n0, n1, hP.ex (Ex.new nt), fun v H5 hv kp5 hP5 => ?_⟩⟩
  obtain ⟨z, hz, q⟩ := k v H5 hv ((Keep.ofEx (Ex.new nt)).trans kp5) hP5
  exact ⟨t, xs, (v : Int), z, rfl, rfl, sq_of (kp5 _ _ (hP.ne_new nt).1.symm upd_same), atI_nat hz, q⟩
section
variable {P : Program} {w : World} {K : PySem.W.Frag} {mg : Str → Option Value} {base : Heap}
def spSheet : Sp := fun vs H Q _ => ∃ (p c : Addr) (ns : List Int) (m : Nat), vs = [.ref p, .int (m : Int)] ∧ 1 ≤ m ∧ m ≤ 4 ∧ Pot p c ns H ∧
  ∀ (os ps qs : List Str) s H', Sht os ps qs → SheetAt H' s os ps qs → Keep p H H' → Pot p c ns H' → Q (.ref s) H'
theorem ok_sheet {f fP fL : Addr} {fd fdP fdL : FuncData} {k : Nat} (F : Fun K "_law_sheet" "_law_sheet" sSheet f fd) (FP : Fun K "_law_pick" "_law_pick" sPick fP fdP) (GP : FnOk P w K mg base CX0 (k + 1) fP fdP ["pot", "many"] spPick) (bP : Binds K fdP ["pot", "many"] []) (gP : mg "_law_pick" = some (.ref fP))
    (FL : Fun K "_law_letters" "_law_letters" sLetters fL fdL) (GL : FnOk P w K mg base CX0 (k + 2) fL fdL ["pot", "many"] spLetters) (bL : Binds K fdL ["pot", "many"] []) (gL : mg "_law_letters" = some (.ref fL)) (mm : mg "min" = none) (mt : mg "tuple" = none) :
    FnOk P w K mg base CX0 (k + 3) f fd ["pot", "most"] spSheet := by
  have nd := scSheet.nd
  refine F.ok scSheet (fun vs H Q E h => ?_) (fun cdv A outer s H vs Q E hr h => ?_)
  · obtain ⟨p, c, ns, m, rfl, _⟩ := h
    rfl
  · obtain ⟨p, c, ns, m, rfl, m1, m4, hP, q⟩ := h
    have hr1 : Room (k + 1) _ := hr.mono (Nat.le_succ _)
    refine ⟨_, pss_cons (ps_set (i := 2) nd rfl (.inl rfl) (pe_call GL hr (by rfl) gL FL.kp bL .nil pass0 (pa_cons (pv 0) (pa_cons pe_int pa_nil))))
      (pss_cons (ps_set (i := 3) nd rfl (.inl rfl) (pe_call GP hr1 (by rfl) gP FP.kp bP .nil pass0 (pa_cons (pv 0) (pa_cons pe_int pa_nil))))
      (pss_cons (ps_set (i := 2) nd rfl (.inl rfl) (pe_op op_cat (pe_slice sl_list (pv 2) (po_some (pv 3)) po_none) (pe_slice sl_list (pv 2) po_none (po_some (pv 3)))))
      (pss_cons (ps_set (i := 4) nd rfl (.inl rfl) (pe_slice sl_list (pv 2) po_none (po_some (pe_callB (call_min2 rfl) (by rfl) mm (by decide +kernel) (pa_cons (pv 1) (pa_cons (pe_ix ix_list (pe_lst (pa_cons pe_int (pa_cons pe_int (pa_cons pe_int (pa_cons pe_int (pa_cons pe_int pa_nil)))))) (pe_call GP hr1 (by rfl) gP FP.kp bP .nil pass0 (pa_cons (pv 0) (pa_cons pe_int pa_nil))) (fun _ _ => rfl)) pa_nil))))))
      (pss_cons (ps_set (i := 5) nd rfl (.inl rfl) (pe_slice sl_list (pv 2) (po_some pe_int) (po_some (pe_op op_add pe_int (pe_callB (call_min2 rfl) (by rfl) mm (by decide +kernel) (pa_cons (pv 1) (pa_cons (pe_ix ix_list (pe_lst (pa_cons pe_int (pa_cons pe_int (pa_cons pe_int (pa_cons pe_int (pa_cons pe_int pa_nil)))))) (pe_call GP hr1 (by rfl) gP FP.kp bP .nil pass0 (pa_cons (pv 0) (pa_cons pe_int pa_nil))) (fun _ _ => rfl)) pa_nil)))))))
      (pss_cons (ps_set (i := 6) nd rfl (.inl rfl) (pe_slice sl_list (pv 2) (po_some pe_int) (po_some (pe_op op_add pe_int (pe_callB (call_min2 rfl) (by rfl) mm (by decide +kernel) (pa_cons (pv 1) (pa_cons (pe_ix ix_list (pe_lst (pa_cons pe_int (pa_cons pe_int (pa_cons pe_int (pa_cons pe_int (pa_cons pe_int pa_nil)))))) (pe_call GP hr1 (by rfl) gP FP.kp bP .nil pass0 (pa_cons (pv 0) (pa_cons pe_int pa_nil))) (fun _ _ => rfl)) pa_nil)))))))
      (pss_one (ps_ret (pe_tup (pa_cons (pe_callTy call_tuple_of (by rfl) mt (by decide +kernel) (pa_cons (pv 4) pa_nil)) (pa_cons (pe_callTy call_tuple_of (by rfl) mt (by decide +kernel) (pa_cons (pv 5) pa_nil)) (pa_cons (pe_callTy call_tuple_of (by rfl) mt (by decide +kernel) (pa_cons (pv 6) pa_nil)) pa_nil)))))))))))  , ?_⟩
    refine ⟨_, rfl, p, c, ns, 12, rfl, by decide, hP, fun ws l H1 hlen hnd hlt kp1 hP1 nl hl => ?_⟩
    refine ⟨_, rfl, p, c, ns, 12, rfl, by decide, by decide, hP1, fun turn H2 hturn kp2 hP2 => ?_⟩
    have hl2 : H2 l = some (lS ws) := kp2 _ _ (lS_ne hP1 hl) hl
    refine ⟨_, rfl, _, rfl, _, rfl, l, _, rfl, sq_of hl2, fun u nu => ?_⟩
    have e2 : Ex H2 (upd H2 u (.lst (cutV (ws.map V.str) (some (turn : Int)) none))) := Ex.new nu
    refine ⟨_, rfl, _, rfl, _, rfl, l, _, rfl, sq_of (e2 _ _ hl2), fun u' nu' => ?_⟩
    have e3 : Ex H2 (upd (upd H2 u (.lst (cutV (ws.map V.str) (some (turn : Int)) none))) u' (.lst (cutV (ws.map V.str) none (some (turn : Int))))) := e2.trans (Ex.new nu')
    have nuu : u ≠ u' := ne_of_none upd_same nu'
    have hu3 : (upd (upd H2 u (.lst (cutV (ws.map V.str) (some (turn : Int)) none))) u' (.lst (cutV (ws.map V.str) none (some (turn : Int))))) u = some (.lst ((ws.drop turn).map V.str)) := by
      rw [upd_ne nuu, upd_same, map_cutF]
    have hu3' : (upd (upd H2 u (.lst (cutV (ws.map V.str) (some (turn : Int)) none))) u' (.lst (cutV (ws.map V.str) none (some (turn : Int))))) u' = some (.lst ((ws.take turn).map V.str)) := by
      rw [upd_same, map_cut0]
    generalize (upd (upd H2 u (.lst (cutV (ws.map V.str) (some (turn : Int)) none))) u' (.lst (cutV (ws.map V.str) none (some (turn : Int))))) = H3 at e3 hu3 hu3' ⊢
    have hLn : (ws.drop turn ++ ws.take turn).length = 12 := by
      rw [List.length_append, List.length_drop, List.length_take]
      omega
    refine ⟨u, u', _, _, rfl, rfl, hu3, hu3', ?_, fun r nr => ?_⟩
    · rw [← List.length_append, ← List.map_append, List.length_map]
      exact sz_of (by omega)
    rw [← List.map_append]
    have hLd := rot_nodup turn hnd
    have hLt : ∀ x ∈ ws.drop turn ++ ws.take turn, Ltr x := fun x hx => hlt x (rot_mem hx)
    generalize ws.drop turn ++ ws.take turn = L at hLn hLd hLt ⊢
    have hP3 := hP2.ex e3
    have e4 : Ex H3 (upd H3 r (lS L)) := Ex.new nr
    have hP4 := hP3.ex e4
    have kp4 : Keep p H (upd H3 r (lS L)) := ((kp1.trans kp2).trans (Keep.ofEx e3)).trans (Keep.ofEx e4)
    have hr4 : (upd H3 r (lS L)) r = some (lS L) := upd_same
    show tSeq _ _ _ [some (.ref p), some (.int (m : Int)), some (.ref r), some (.int (turn : Int)), none, none, none] (upd H3 r (lS L))
    generalize upd H3 r (lS L) = H4 at e4 hP4 kp4 hr4 ⊢
    -- opens
    refine ⟨_, rfl, _, rfl, menu_rd (xs := [.int 1, .int 1, .int 2, .int 2, .int 4]) hP4 rfl (by decide) (by decide) (fun Q z => z) (by decide) fun v H5 hv kp5 hP5 => ?_⟩
    obtain ⟨x, hx, x1, x4⟩ := menu1 (show v < 5 by omega)
    refine ⟨_, hx, _, _, rfl, _, rfl, r, _, rfl, sq_of (kp5 _ _ (lS_ne hP4 hr4) hr4), fun o no => ?_⟩
    rw [minI, map_cut0]
    have hr5 : H5 r = some (lS L) := kp5 _ _ (lS_ne hP4 hr4) hr4
    have e6 : Ex H5 (upd H5 o (lS (L.take (min m x)))) := Ex.new no
    have hP6 := hP5.ex e6
    have hr6 := e6 _ _ hr5
    have ho6 : (upd H5 o (lS (L.take (min m x)))) o = some (lS (L.take (min m x))) := upd_same
    have kp6 : Keep p H (upd H5 o (lS (L.take (min m x)))) := (kp4.trans kp5).trans (Keep.ofEx e6)
    show tSeq _ _ _ [some (.ref p), some (.int (m : Int)), some (.ref r), some (.int (turn : Int)), some (.ref o), none, none] (upd H5 o (lS (L.take (min m x))))
    generalize upd H5 o (lS (L.take (min m x))) = H6 at hP6 hr6 ho6 kp6 ⊢
    -- plains
    refine ⟨_, rfl, _, rfl, _, rfl, menu_rd (xs := [.int 0, .int 1, .int 1, .int 2, .int 4]) hP6 rfl (by decide) (by decide) (fun Q z => z) (by decide) fun v H7 hv kp7 hP7 => ?_⟩
    obtain ⟨y, hy, y4⟩ := menu0 (show v < 5 by omega)
    have hr7 : H7 r = some (lS L) := kp7 _ _ (lS_ne hP6 hr6) hr6
    have ho7 : H7 o = some (lS (L.take (min m x))) := kp7 _ _ (lS_ne hP6 ho6) ho6
    refine ⟨_, hy, _, _, rfl, _, _, rfl, rfl, _, rfl, r, _, rfl, sq_of hr7, fun u1 nu1 => ?_⟩
    have ey : (4 : Int) + (if (y : Int) < (m : Int) then (y : Int) else (m : Int)) = ((4 + min m y : Nat) : Int) := by
      rw [minI]
      omega
    rw [ey, show (some 4 : Option Int) = some ((4 : Nat) : Int) from rfl, map_cutLH]
    have e8 : Ex H7 (upd H7 u1 (lS ((L.take (4 + min m y)).drop 4))) := Ex.new nu1
    have hP8 := hP7.ex e8
    have hr8 := e8 _ _ hr7
    have ho8 := e8 _ _ ho7
    have hu8 : (upd H7 u1 (lS ((L.take (4 + min m y)).drop 4))) u1 = some (lS ((L.take (4 + min m y)).drop 4)) := upd_same
    have kp8 : Keep p H (upd H7 u1 (lS ((L.take (4 + min m y)).drop 4))) := (kp6.trans kp7).trans (Keep.ofEx e8)
    show tSeq _ _ _ [some (.ref p), some (.int (m : Int)), some (.ref r), some (.int (turn : Int)), some (.ref o), some (.ref u1), none] (upd H7 u1 (lS ((L.take (4 + min m y)).drop 4)))
    generalize upd H7 u1 (lS ((L.take (4 + min m y)).drop 4)) = H8 at hP8 hr8 ho8 hu8 kp8 ⊢
    -- closes
    refine ⟨_, rfl, _, rfl, _, rfl, menu_rd (xs := [.int 1, .int 1, .int 2, .int 2, .int 4]) hP8 rfl (by decide) (by decide) (fun Q z => z) (by decide) fun v H9 hv kp9 hP9 => ?_⟩
    obtain ⟨z, hz, z1, z4⟩ := menu1 (show v < 5 by omega)
    have hr9 : H9 r = some (lS L) := kp9 _ _ (lS_ne hP8 hr8) hr8
    have ho9 : H9 o = some (lS (L.take (min m x))) := kp9 _ _ (lS_ne hP8 ho8) ho8
    have hu9 := kp9 _ _ (lS_ne hP8 hu8) hu8
    refine ⟨_, hz, _, _, rfl, _, _, rfl, rfl, _, rfl, r, _, rfl, sq_of hr9, fun u2 nu2 => ?_⟩
    have ez : (8 : Int) + (if (z : Int) < (m : Int) then (z : Int) else (m : Int)) = ((8 + min m z : Nat) : Int) := by
      rw [minI]
      omega
    rw [ez, show (some 8 : Option Int) = some ((8 : Nat) : Int) from rfl, map_cutLH]
    have e10 : Ex H9 (upd H9 u2 (lS ((L.take (8 + min m z)).drop 8))) := Ex.new nu2
    have hP10 := hP9.ex e10
    have ho10 := e10 _ _ ho9
    have hu10 := e10 _ _ hu9
    have hv10 : (upd H9 u2 (lS ((L.take (8 + min m z)).drop 8))) u2 = some (lS ((L.take (8 + min m z)).drop 8)) := upd_same
    have kp10 : Keep p H (upd H9 u2 (lS ((L.take (8 + min m z)).drop 8))) := (kp8.trans kp9).trans (Keep.ofEx e10)
    refine ⟨_, rfl, o, _, rfl, .inl ⟨sq_of ho10, fun ao nao => ?_⟩⟩
    have f1 : Ex _ _ := Ex.new (o := .tup ((L.take (min m x)).map V.str)) nao
    refine ⟨_, rfl, u1, _, rfl, .inl ⟨sq_of (f1 _ _ hu10), fun ap nap => ?_⟩⟩
    have f2 : Ex _ _ := Ex.new (o := .tup (((L.take (4 + min m y)).drop 4).map V.str)) nap
    refine ⟨_, rfl, u2, _, rfl, .inl ⟨sq_of (f2 _ _ (f1 _ _ hv10)), fun ac nac => ?_⟩⟩
    have f3 : Ex _ _ := Ex.new (o := .tup (((L.take (8 + min m z)).drop 8).map V.str)) nac
    refine ⟨(by show 3 ≤ sizeLine; decide), fun sh nsh => ?_⟩
    have f4 : Ex _ _ := Ex.new (o := .tup [.ref ao, .ref ap, .ref ac]) nsh
    exact q _ _ _ sh _ (sht_of hLd hLt hLn (by omega) (by omega) (by omega) (by omega) (by omega)) ⟨ao, ap, ac, upd_same, f4 _ _ (f3 _ _ (f2 _ _ upd_same)), f4 _ _ (f3 _ _ upd_same), f4 _ _ upd_same⟩ (kp10.trans (Keep.ofEx (((f1.trans f2).trans f3).trans f4))) (hP10.ex (((f1.trans f2).trans f3).trans f4))
end
end Eh
set_option Elab.async false
set_option linter.all false
set_option maxRecDepth 100000
set_option maxHeartbeats 4000000
namespace Eh
open PySem PySem.Spec PyProof.Rows L2 Evl
open Sem (wp)
open AutoSeq1 (wpAny_loadPart')
/-! enumerate of a tuple -/
theorem enumT_meets {v : Value} {ob : Obj} {G : Heap → Prop} (B : Begins v ob G) : Meets (Builtin.«enumerate.__new__» ⟨[.type "enumerate", v], []⟩) (fun _ R s1 => G s1.heap ∧ R (.ok (.ret (.ref (s1.heap.push ob).objs.size))) { s1 with heap := (s1.heap.push ob).push { cls := .type "enumerate", data := .fields #[.none, .bool false, .ref s1.heap.objs.size, rawInt 0, .none, .none] } }) :=
  .of_wp fun pr wo ar R s1 hyp => by
    obtain ⟨hp, gg, dd, tt, oo⟩ := s1; obtain ⟨hg, hyp⟩ := hyp
    have hsb := sub_enumerate
    have hit : ∀ {A' : Around} {E : Value → Shared → Prop} {Q : Value → Shared → Prop}, Q (.ref hp.objs.size) ⟨hp.push ob, gg, dd, tt, oo⟩ → wpAny (model pr wo) A' (pyIter v) Q E ⟨hp, gg, dd, tt, oo⟩ := fun q => B.iter pr wo _ _ ⟨hp, gg, dd, tt, oo⟩ _ hg q
    wp_walk using hit
    refine wpAny_stack_any fun stk => wpAny_pure ?_
    split
    · rename_i cl _ _ _ _ _; cases (cl == Value.type "enumerate") <;> (wp_walk using hit; exact ⟨_, rfl, hyp⟩)
    · wp_walk using hit; exact ⟨_, rfl, hyp⟩
theorem enumT_call {prog : Program} {w : World} {A : Around} {E : Value → Shared → Prop} {s : Shared} {v : Value} {ob : Obj} {G : Heap → Prop} {Q : Value → Shared → Prop} (B : Begins v ob G) (hg : G s.heap)
    (hyp : ∀ h', IsEnum h' (s.heap.objs.size + 1) s.heap.objs.size 0 .none → h'.get? s.heap.objs.size = some ob → h'.objs.size = s.heap.objs.size + 2 → (∀ b o, s.heap.get? b = some o → h'.get? b = some o) → Q (.ref (s.heap.objs.size + 1)) { s with heap := h' }) : wpAny (model prog w) A (call (.type "enumerate") [v]) Q E s := by
  refine callType_new F.called_enumerate (by decide) (F.typeCall_enumerate_1 _) (F.newCall_enumerate_1 _) (fun x => F.args_object_init_2 x _) F.entry_enumerate_new (enumT_meets B) ⟨hg, ?_⟩
  have sz : (s.heap.push ob).objs.size = s.heap.objs.size + 1 := Heap.size_push ..
  show _ ∧ _
  rw [sz]
  have en : IsEnum ((s.heap.push ob).push { cls := .type "enumerate", data := .fields #[.none, .bool false, .ref s.heap.objs.size, rawInt 0, .none, .none] }) (s.heap.objs.size + 1) s.heap.objs.size 0 .none := by
    have z := Heap.get?_push_size (s.heap.push ob) (o := { cls := .type "enumerate", data := .fields #[.none, .bool false, .ref s.heap.objs.size, rawInt 0, .none, .none] }) rfl
    rw [sz] at z; exact z
  exact ⟨⟨_, en, rfl⟩, hyp _ en (Heap.get?_push_of_some _ (Heap.get?_push_size _ B.free)) (by rw [Heap.size_push, sz]) fun b o x => Heap.get?_push_of_some _ (Heap.get?_push_of_some _ x)⟩
def IteT (K : PySem.W.Frag) (a : Addr) : It :=
  ⟨fun i H => ∃ (xs : List V) (x : V), SqT K H a xs ∧ xs[i]? = some x, fun i H v H' => ∃ T x, v = .ref T ∧ H T = none ∧ H' = upd H T (.tup [.int (i : Nat), x]) ∧ ∀ xs, SqT K H a xs → xs[i]? = some x, fun i H => ∃ xs : List V, SqT K H a xs ∧ xs.length = i⟩
theorem apart_cls {h : Heap} {a b : Addr} {o1 o2 : Obj} {x y : String} (h1 : h.get? a = some o1) (c1 : o1.cls = .type x) (h2 : h.get? b = some o2) (c2 : o2.cls = .type y) (n : x ≠ y) : a ≠ b := fun z => by
  subst z
  rw [h1] at h2
  have e : o1 = o2 := Option.some.inj h2
  rw [e, c2] at c1
  injection c1 with c1
  exact n c1.symm
theorem turn_enumT {P : Program} {w : World} {K : PySem.W.Frag} {elts : List Expr} {kk : Nat} {tpos : Pos} (a e it : Addr) :
    Turn P w K (.Tuple elts kk tpos) (IteT K a) [e, it] e (fun i h => (∃ old, IsEnum h e it ((i : Nat) : Int) old) ∧ h.IsTupleIter it a i ∧ e ≠ it) where
  mem := by simp
  obj := fun i h tn b hb => by
    obtain ⟨⟨old, en⟩, ⟨ob, h1, h2, h3⟩, _⟩ := tn
    rcases (show b = e ∨ b = it by simpa using hb) with z | z
    · subst z; exact ⟨_, en, fun v q => nomatch q⟩
    · subst z; exact ⟨ob, h1, fun v q => by rw [h3] at q; cases q⟩
  keep := fun i h h' tn kk => let ⟨⟨old, en⟩, ti, ne⟩ := tn; ⟨⟨old, kk e (by simp) _ en⟩, ti.at fun o q => kk it (by simp) o q, ne⟩
  item := by
    intro X eP ew eK hc i pins s σ H E I fpo tn go
    subst eP ew eK
    obtain ⟨⟨old, en⟩, ti, ne⟩ := tn
    obtain ⟨xs, x, sq, hx⟩ := go
    obtain ⟨its, rv, pt, _⟩ := I.tuple sq
    obtain ⟨u, hu, ru⟩ := rv.get hx
    have le : e < s.heap.objs.size := Heap.lt_size en
    have li : it < s.heap.objs.size := by obtain ⟨_, q, _⟩ := ti; exact Heap.lt_size q
    have nai : a ≠ it := by
      obtain ⟨o1, g1, c1, _⟩ := id ti
      obtain ⟨o2, g2, c2, _⟩ := id pt
      exact apart_cls g2 c2 g1 c1 (by decide)
    have nea : e ≠ a := by
      obtain ⟨o2, g2, c2, _⟩ := id pt
      exact apart_cls en rfl g2 c2 (by decide)
    have DD := Draws.tuple (prog := X.prog) (w := X.w) (A := X.A.in1) (I.ok.hd hc) it a nai its.toArray
    refine wpAny_pyNext_enum_itemC DD en ⟨ti, pt⟩ (by have h1 := (List.getElem?_eq_some_iff.mp hu).1; rw [List.size_toArray]; exact h1) ne (by simp [ne, nea]) fun y h' tk hy out st' hT hsz kp => ?_
    have ey : y = u := by
      have hy' : its.toArray[i]? = some y := hy
      rw [List.getElem?_toArray, hu] at hy'
      exact (Option.some.inj hy').symm
    subst ey
    refine ⟨_, rfl, wpAny_letOwnedTupleGo_enum (s := { s with heap := h', toks := tk + 1 }) out fun h'' en' sb => ?_⟩
    have hT' : h''.get? s.heap.objs.size = some { cls := .type "tuple", data := .seq #[.int i tk, y] } := (sb.2 _ (Nat.ne_of_gt le)).trans hT
    have nw : ObjOk X.prog X.w (upd H s.heap.objs.size (.tup [.int (i : Nat), x])) h'' s.heap.objs.size (.tup [.int (i : Nat), x]) := ⟨by show 2 ≤ sizeLine; decide, [.int i tk, y], .cons ⟨_, rfl⟩ (.cons ru .nil), ⟨_, hT', rfl, _, rfl⟩⟩
    have J1 : Inv X pins σ (upd H s.heap.objs.size (.tup [.int (i : Nat), x])) { s with heap := h'', toks := tk + 1 } := I.turnedNew (ch := [e, it]) (fun b o hb q => (sb.2 b (fun z => hb (by simp [z]))).trans (kp b o (fun z => hb (by simp [z])) (fun z => hb (by simp [z])) q)) fpo (Nat.le_refl _) nw
    refine ⟨.ref s.heap.objs.size, _, J1, rfl, ⟨_, x, rfl, I.hok.fresh (Nat.le_refl _), rfl, fun ys hs => by rw [I.tuple_inj hs sq]; exact hx⟩, ⟨⟨y, ?_⟩, st'.1.at fun o q => (sb.2 it (Ne.symm ne)).trans q, ne⟩, fun b hb => ?_⟩
    · rw [show ((i + 1 : Nat) : Int) = (i : Int) + 1 by omega]
      exact en'
    · have lb : b < s.heap.objs.size := by
        rcases (show b = e ∨ b = it by simpa using hb) with z | z
        · subst z; exact le
        · subst z; exact li
      rw [upd_ne (Nat.ne_of_lt lb)]
      exact (fpo b hb).1
  done := by
    intro X eP ew eK hc i pins s σ H E I fpo tn stp
    subst eP ew eK
    obtain ⟨⟨old, en⟩, ti, ne⟩ := tn
    obtain ⟨xs, sq, hx⟩ := stp
    obtain ⟨its, rv, pt, _⟩ := I.tuple sq
    obtain ⟨f0, f1, _, f3, f4, f5⟩ := fpo it (by simp)
    have nai : a ≠ it := by
      obtain ⟨o1, g1, c1, _⟩ := id ti
      obtain ⟨o2, g2, c2, _⟩ := id pt
      exact apart_cls g2 c2 g1 c1 (by decide)
    have DD := Draws.tuple (prog := X.prog) (w := X.w) (A := X.A.in1) (I.ok.hd hc) it a nai its.toArray
    have en' : its.toArray.size = i := by rw [List.size_toArray, ← rv.length, hx]
    exact wpAny_pyNext_enum_endD DD en (by rw [en']; exact ⟨ti, pt⟩) fun h' eb => ⟨rfl, I.turned (t' := s.toks) (fun b o hb q => eb b o hb q) f0 f1 f3 f4 f5⟩
  self := fun A i s Q E tn hq => let ⟨⟨_, en⟩, _⟩ := tn; wpAny_pyIter_enum en hq
def iEnumT (K : PySem.W.Frag) (ta : TA) : TI := fun σ H R => ta σ H fun vs H1 => ∃ a xs, vs = [.ref a] ∧ SqT K H1 a xs ∧ R (IteT K a) H1
theorem pi_enumT {X : Cx} {e : Expr} {ta : TA} {p pos tpos : Pos} {elts : List Expr} {kk : Nat} (hg : Gl X "enumerate") (hm : X.mg "enumerate" = none) (ha : PA X [e] ta) (hs : starEach [e] X.env = [(false, eval e X.env)] := by rfl) : PI X (.Tuple elts kk tpos) (.Call (.Name "enumerate" p) [e] [] pos) (iEnumT X.K ta) := by
  refine ⟨fun pins s σ H R I hyp => Call_ (ld_blt I hg hm boot_enumerate (PyProof.Rows.callWith_type1 (thn (ha.run pos pins s σ H _ I hyp) fun us s1 ⟨vs, H1, I1, r1, q1⟩ => ?_) hs rfl))⟩
  obtain ⟨a, xs, ev, sq, q⟩ := q1
  subst ev
  obtain ⟨u, rfl, ru⟩ := vals1 r1
  cases ru
  obtain ⟨its, rv, pt, _⟩ := I1.tuple sq
  refine enumT_call (begins_tuple a its.toArray) pt fun h' en hit hsz kp => wpAny_pyIter_enum en ?_
  have I2 : Inv X pins σ H1 { s1 with heap := h' } := I1.kept (t' := s1.toks) kp
  refine ⟨s1.heap.objs.size + 1, [s1.heap.objs.size + 1, s1.heap.objs.size], _, _, H1, rfl, I2, turn_enumT a (s1.heap.objs.size + 1) s1.heap.objs.size, ⟨⟨.none, en⟩, ⟨_, hit, rfl, rfl⟩, Nat.succ_ne_self _⟩, fun b hb => ?_, q⟩
  have lb : s1.heap.objs.size ≤ b := by
    rcases (show b = s1.heap.objs.size + 1 ∨ b = s1.heap.objs.size by simpa using hb) with z | z
    · rw [z]; exact Nat.le_add_right ..
    · rw [z]; exact Nat.le_refl ..
  exact I1.fpOk lb (I1.hok.fresh lb)
end Eh
set_option linter.all false
namespace Eh
/-! what answers what: the mathematics -/
inductive Kd | op | pl | cl
deriving DecidableEq
def tv (t : List (Option Nat)) (j : Nat) : Option Nat := t.getD j none
theorem tv_set {t : List (Option Nat)} {a : Nat} {v : Option Nat} (h : a < t.length) (j : Nat) : tv (t.set a v) j = if j = a then v else tv t j := by
  unfold tv
  rw [List.getD_eq_getElem?_getD, List.getD_eq_getElem?_getD, List.getElem?_set]
  by_cases e : j = a
  · subst e
    simp [h]
  · rw [if_neg (fun z => e z.symm), if_neg e]
theorem tv_rep (n j : Nat) : tv (List.replicate n none) j = none := by
  unfold tv
  rw [List.getD_eq_getElem?_getD, List.getElem?_replicate]
  split <;> rfl
theorem tv_get {t : List (Option Nat)} {j : Nat} (h : j < t.length) : t[j]? = some (tv t j) := by
  unfold tv
  rw [List.getD_eq_getElem?_getD, List.getElem?_eq_getElem h]
  rfl
def step (kf : Nat → Kd) (i : Nat) (S : List (Option Nat) × List Nat) : List (Option Nat) × List Nat :=
  match kf i with
  | .op => (S.1, i :: S.2)
  | .pl => S
  | .cl => match S.2 with
    | [] => S
    | b :: r => ((S.1.set b (some i)).set i (some b), r)
def run (kf : Nat → Kd) (n : Nat) : Nat → List (Option Nat) × List Nat
  | 0 => (List.replicate n none, [])
  | i + 1 => step kf i (run kf n i)
structure Good (kf : Nat → Kd) (n i : Nat) (t : List (Option Nat)) (st : List Nat) : Prop where
  len : t.length = n
  srt : st.Pairwise (· > ·)
  bd : ∀ b ∈ st, b < i ∧ kf b = .op ∧ tv t b = none
  opn : ∀ j, j < i → kf j = .op → tv t j = none → j ∈ st
  hi : ∀ j, i ≤ j → tv t j = none
  pr : ∀ j m, tv t j = some m → j < i ∧ m < i ∧ tv t m = some j ∧ ((kf j = .op ∧ kf m = .cl ∧ j < m ∧ ∀ b ∈ st, ¬ (j ≤ b ∧ b ≤ m)) ∨ (kf j = .cl ∧ kf m = .op ∧ m < j ∧ ∀ b ∈ st, ¬ (m ≤ b ∧ b ≤ j)))
theorem good_run (kf : Nat → Kd) (n : Nat) : ∀ i, i ≤ n → Good kf n i (run kf n i).1 (run kf n i).2
  | 0, _ => by
    refine ⟨List.length_replicate, List.Pairwise.nil, fun b hb => (List.not_mem_nil hb).elim, fun j hj => absurd hj (Nat.not_lt_zero j), fun j _ => tv_rep n j, fun j m h => ?_⟩
    have := tv_rep n j
    rw [show (run kf n 0).1 = List.replicate n none from rfl, this] at h
    cases h
  | i + 1, hi => by
    have G := good_run kf n i (by omega)
    show Good kf n (i + 1) (step kf i (run kf n i)).1 (step kf i (run kf n i)).2
    generalize run kf n i = S at G ⊢
    obtain ⟨t, st⟩ := S
    replace G : Good kf n i t st := G
    unfold step
    cases hk : kf i with
    | pl =>
      refine ⟨G.len, G.srt, fun b hb => ⟨by have := (G.bd b hb).1; omega, (G.bd b hb).2⟩, fun j hj ho hn => ?_, fun j hj => G.hi j (by omega), fun j m h => ?_⟩
      · rcases Nat.lt_succ_iff_lt_or_eq.mp hj with z | z
        · exact G.opn j z ho hn
        · subst z
          rw [hk] at ho
          cases ho
      · obtain ⟨a, b, c, d⟩ := G.pr j m h
        exact ⟨by omega, by omega, c, d⟩
    | op =>
      have hn := G.hi i (Nat.le_refl i)
      refine ⟨G.len, List.Pairwise.cons (fun b hb => (G.bd b hb).1) G.srt, fun b hb => ?_, fun j hj ho hn => ?_, fun j hj => G.hi j (by omega), fun j m h => ?_⟩
      · rcases List.mem_cons.mp hb with z | z
        · subst z
          exact ⟨by omega, hk, hn⟩
        · exact ⟨by have := (G.bd b z).1; omega, (G.bd b z).2⟩
      · rcases Nat.lt_succ_iff_lt_or_eq.mp hj with z | z
        · exact List.mem_cons_of_mem _ (G.opn j z ho hn)
        · subst z
          exact List.mem_cons_self ..
      · obtain ⟨a, b, c, d⟩ := G.pr j m h
        refine ⟨by omega, by omega, c, ?_⟩
        rcases d with ⟨d1, d2, d3, d4⟩ | ⟨d1, d2, d3, d4⟩
        · refine .inl ⟨d1, d2, d3, fun x hx => ?_⟩
          rcases List.mem_cons.mp hx with z | z
          · omega
          · exact d4 x z
        · refine .inr ⟨d1, d2, d3, fun x hx => ?_⟩
          rcases List.mem_cons.mp hx with z | z
          · omega
          · exact d4 x z
    | cl =>
      cases st with
      | nil =>
        refine ⟨G.len, G.srt, fun b hb => (List.not_mem_nil hb).elim, fun j hj ho hn => ?_, fun j hj => G.hi j (by omega), fun j m h => ?_⟩
        · rcases Nat.lt_succ_iff_lt_or_eq.mp hj with z | z
          · exact G.opn j z ho hn
          · subst z
            rw [hk] at ho
            cases ho
        · obtain ⟨a, b, c, d⟩ := G.pr j m h
          exact ⟨by omega, by omega, c, d⟩
      | cons b r =>
        obtain ⟨hb1, hb2, hb3⟩ := G.bd b (List.mem_cons_self ..)
        have hlen := G.len
        obtain ⟨hs1, hs2⟩ := List.pairwise_cons.mp G.srt
        have T : ∀ j, tv ((t.set b (some i)).set i (some b)) j = if j = i then some b else if j = b then some i else tv t j := fun j => by
          rw [tv_set (by rw [List.length_set]; omega), tv_set (by omega)]
        refine ⟨by simp [G.len], hs2, fun c hc => ?_, fun j hj ho hn => ?_, fun j hj => ?_, fun j m h => ?_⟩
        · obtain ⟨c1, c2, c3⟩ := G.bd c (List.mem_cons_of_mem _ hc)
          have := hs1 c hc
          refine ⟨by omega, c2, ?_⟩
          rw [T, if_neg (by omega), if_neg (by omega)]
          exact c3
        · rw [T] at hn
          by_cases e1 : j = i
          · rw [if_pos e1] at hn
            cases hn
          · rw [if_neg e1] at hn
            by_cases e2 : j = b
            · rw [if_pos e2] at hn
              cases hn
            · rw [if_neg e2] at hn
              exact (List.mem_cons.mp (G.opn j (by omega) ho hn)).resolve_left e2
        · rw [T, if_neg (by omega), if_neg (by omega)]
          exact G.hi j (by omega)
        · rw [T] at h
          by_cases e1 : j = i
          · rw [if_pos e1] at h
            have em : b = m := Option.some.inj h
            subst em
            subst e1
            refine ⟨by omega, by omega, ?_, .inr ⟨hk, hb2, hb1, fun c hc => by have := hs1 c hc; omega⟩⟩
            rw [T, if_neg (by omega), if_pos rfl]
          · rw [if_neg e1] at h
            by_cases e2 : j = b
            · rw [if_pos e2] at h
              have em : i = m := Option.some.inj h
              subst em
              subst e2
              refine ⟨by omega, by omega, ?_, .inl ⟨hb2, hk, hb1, fun c hc => by have := hs1 c hc; omega⟩⟩
              rw [T, if_pos rfl]
            · rw [if_neg e2] at h
              obtain ⟨g1, g2, g3, g4⟩ := G.pr j m h
              refine ⟨by omega, by omega, ?_, ?_⟩
              · rw [T, if_neg (by omega), if_neg (fun z => by
                  rw [z, hb3] at g3
                  cases g3)]
                exact g3
              · rcases g4 with ⟨d1, d2, d3, d4⟩ | ⟨d1, d2, d3, d4⟩
                · exact .inl ⟨d1, d2, d3, fun c hc => d4 c (List.mem_cons_of_mem _ hc)⟩
                · exact .inr ⟨d1, d2, d3, fun c hc => d4 c (List.mem_cons_of_mem _ hc)⟩
/-- what was told stays; what is told later is of later places -/
theorem run_later (kf : Nat → Kd) (n i j : Nat) : ∀ d, i + d ≤ n → (∀ m, tv (run kf n i).1 j = some m → tv (run kf n (i + d)).1 j = some m) ∧ (j < i → tv (run kf n i).1 j = none → tv (run kf n (i + d)).1 j = none ∨ ∃ m, i ≤ m ∧ tv (run kf n (i + d)).1 j = some m)
  | 0, _ => ⟨fun m h => h, fun _ h => .inl h⟩
  | d + 1, hd => by
    obtain ⟨ih1, ih2⟩ := run_later kf n i j d (by omega)
    have G := good_run kf n (i + d) (by omega)
    show (∀ m, tv (run kf n i).1 j = some m → tv (step kf (i + d) (run kf n (i + d))).1 j = some m) ∧ (j < i → tv (run kf n i).1 j = none → tv (step kf (i + d) (run kf n (i + d))).1 j = none ∨ ∃ m, i ≤ m ∧ tv (step kf (i + d) (run kf n (i + d))).1 j = some m)
    generalize run kf n (i + d) = S at G ih1 ih2 ⊢
    obtain ⟨t, st⟩ := S
    replace G : Good kf n (i + d) t st := G
    replace ih1 : ∀ m, tv (run kf n i).1 j = some m → tv t j = some m := ih1
    replace ih2 : j < i → tv (run kf n i).1 j = none → tv t j = none ∨ ∃ m, i ≤ m ∧ tv t j = some m := ih2
    unfold step
    cases hk : kf (i + d) with
    | pl => exact ⟨ih1, ih2⟩
    | op => exact ⟨ih1, ih2⟩
    | cl =>
      cases st with
      | nil => exact ⟨ih1, ih2⟩
      | cons b r =>
        obtain ⟨hb1, hb2, hb3⟩ := G.bd b (List.mem_cons_self ..)
        have hlen := G.len
        have T : tv ((t.set b (some (i + d))).set (i + d) (some b)) j = if j = i + d then some b else if j = b then some (i + d) else tv t j := by
          rw [tv_set (by rw [List.length_set]; omega), tv_set (by omega)]
        constructor
        · intro m h
          have h' := ih1 m h
          have := (G.pr j m h').1
          show tv ((t.set b (some (i + d))).set (i + d) (some b)) j = some m
          rw [T, if_neg (by omega), if_neg (fun z => by rw [z, hb3] at h'; cases h')]
          exact h'
        · intro hj h
          show tv ((t.set b (some (i + d))).set (i + d) (some b)) j = none ∨ ∃ m, i ≤ m ∧ tv ((t.set b (some (i + d))).set (i + d) (some b)) j = some m
          rw [T, if_neg (by omega)]
          by_cases e : j = b
          · rw [if_pos e]
            exact .inr ⟨i + d, by omega, rfl⟩
          · rw [if_neg e]
            exact ih2 hj h
/-- a falling row as the places that are in it -/
theorem filter_desc : ∀ (i : Nat) (st : List Nat), st.Pairwise (· > ·) → (∀ b ∈ st, b < i) → (List.range i).filter (fun a => decide (a ∈ st)) = st.reverse
  | 0, st, _, h => by
    cases st with
    | nil => rfl
    | cons b r => exact absurd (h b (List.mem_cons_self ..)) (Nat.not_lt_zero b)
  | i + 1, st, hs, h => by
    rw [List.range_succ, List.filter_append]
    by_cases hm : i ∈ st
    · cases st with
      | nil => exact (List.not_mem_nil hm).elim
      | cons b r =>
        obtain ⟨h1, h2⟩ := List.pairwise_cons.mp hs
        have hb : b = i := by
          rcases List.mem_cons.mp hm with z | z
          · exact z.symm
          · have := h1 i z
            have := h b (List.mem_cons_self ..)
            omega
        subst hb
        have ih := filter_desc b r h2 (fun c hc => h1 c hc)
        have e : (List.range b).filter (fun a => decide (a ∈ b :: r)) = (List.range b).filter (fun a => decide (a ∈ r)) := by
          refine List.filter_congr fun a ha => ?_
          have := List.mem_range.mp ha
          have : (a ∈ b :: r) ↔ a ∈ r := ⟨fun z => (List.mem_cons.mp z).resolve_left (by omega), fun z => List.mem_cons_of_mem _ z⟩
          simp only [this]
        rw [e, ih, List.reverse_cons, List.filter_cons, if_pos (decide_eq_true hm)]
        rfl
    · have ih := filter_desc i st hs (fun b hb => by
        have := h b hb
        have : b ≠ i := fun z => hm (z ▸ hb)
        omega)
      rw [ih, List.filter_cons, if_neg (by rw [decide_eq_false hm]; exact Bool.false_ne_true)]
      exact List.append_nil _
/-- the opens ahead of a place that are answered behind it, or never, are those that wait -/
theorem waits (kf : Nat → Kd) (n i : Nat) (hi : i ≤ n) : (List.range i).filter (fun a => decide (kf a = .op) && (decide (tv (run kf n n).1 a = none) || decide (∃ m, tv (run kf n n).1 a = some m ∧ i ≤ m))) = (run kf n i).2.reverse := by
  have G := good_run kf n i hi
  rw [← filter_desc i _ G.srt fun b hb => (G.bd b hb).1]
  refine List.filter_congr fun a ha => ?_
  have ha := List.mem_range.mp ha
  obtain ⟨l1, l2⟩ := run_later kf n i a (n - i) (by omega)
  rw [show i + (n - i) = n by omega] at l1 l2
  rw [Bool.eq_iff_iff]
  simp only [Bool.and_eq_true, Bool.or_eq_true, decide_eq_true_eq]
  constructor
  · rintro ⟨ho, hn⟩
    refine G.opn a ha ho ?_
    cases e : tv (run kf n i).1 a with
    | none => rfl
    | some m =>
      have e' := l1 m e
      have := (G.pr a m e).2.1
      rcases hn with z | ⟨m', z, hm⟩
      · rw [e'] at z
        cases z
      · rw [e'] at z
        have := Option.some.inj z
        omega
  · intro hm
    obtain ⟨_, h2, h3⟩ := G.bd a hm
    refine ⟨h2, ?_⟩
    rcases l2 ha h3 with z | ⟨m, hm, z⟩
    · exact .inl z
    · exact .inr ⟨m, z, hm⟩
def dep (kf : Nat → Kd) (n : Nat) : Nat → Nat
  | 0 => 0
  | i + 1 => max (dep kf n i) (run kf n (i + 1)).2.length
theorem dep_ge (kf : Nat → Kd) (n : Nat) : ∀ i, (run kf n i).2.length ≤ dep kf n i
  | 0 => Nat.le_refl _
  | i + 1 => Nat.le_max_right _ _
end Eh
set_option Elab.async false
set_option linter.all false
set_option maxRecDepth 100000
set_option maxHeartbeats 4000000
namespace Eh
open PySem PySem.Spec PyProof.Rows L2 Evl
def kdOf (os qs : List Str) (x : Str) : Kd := if x ∈ os then .op else if x ∈ qs then .cl else .pl
def kfOf (os qs ws : List Str) (i : Nat) : Kd := match ws[i]? with
  | some x => kdOf os qs x
  | none => .pl
theorem kfOf_at {os qs ws : List Str} {i : Nat} {x : Str} (h : ws[i]? = some x) : kfOf os qs ws i = kdOf os qs x := by
  unfold kfOf
  rw [h]
theorem inV_str (x : Str) : ∀ os : List Str, inV (.str x) (os.map V.str) = decide (x ∈ os)
  | [] => rfl
  | y :: r => by
    show (eqV (.str y) (.str x) || inV (.str x) (r.map V.str)) = _
    rw [inV_str x r, show eqV (.str y) (.str x) = (y == x) from rfl]
    by_cases e : y = x
    · subst e
      simp
    · have e' : ¬ x = y := fun z => e z.symm
      simp [e, e']
theorem flat_str (os : List Str) : (os.map V.str).all flatV = true := by
  rw [List.all_eq_true]
  intro v hv
  obtain ⟨x, _, rfl⟩ := List.mem_map.mp hv
  rfl
def oV : Option Nat → V
  | none => .non
  | some j => .int (j : Int)
def nV (j : Nat) : V := .int (j : Int)
abbrev tO (t : List (Option Nat)) : HO := .lst (t.map oV)
abbrev tN (st : List Nat) : HO := .lst (st.map nV)
def ansOf (os qs ws : List Str) : List (Option Nat) := (run (kfOf os qs ws) ws.length ws.length).1
theorem flat_rep {α : Type} (x : α) : ∀ n, (List.replicate n [x]).flatten = List.replicate n x
  | 0 => rfl
  | n + 1 => by
    rw [List.replicate_succ, List.flatten_cons, flat_rep x n, List.replicate_succ]
    rfl
theorem Sht.apart {os ps qs : List Str} (h : Sht os ps qs) {x : Str} (h1 : x ∈ os) (h2 : x ∈ qs) : False := by
  have := List.nodup_append.mp h.nd
  exact this.2.2 x (List.mem_append.mpr (.inl h1)) x h2 rfl
theorem kd_op {os qs : List Str} {x : Str} : kdOf os qs x = .op ↔ x ∈ os := by
  unfold kdOf
  by_cases h : x ∈ os
  · rw [if_pos h]
    exact ⟨fun _ => h, fun _ => rfl⟩
  · rw [if_neg h]
    refine ⟨fun e => ?_, fun z => absurd z h⟩
    split at e <;> cases e
theorem kd_cl {os ps qs : List Str} (hS : Sht os ps qs) {x : Str} : kdOf os qs x = .cl ↔ x ∈ qs := by
  unfold kdOf
  by_cases h : x ∈ os
  · rw [if_pos h]
    exact ⟨fun e => (nomatch e), fun z => (hS.apart h z).elim⟩
  · rw [if_neg h]
    by_cases h2 : x ∈ qs
    · rw [if_pos h2]
      exact ⟨fun _ => h2, fun _ => rfl⟩
    · rw [if_neg h2]
      exact ⟨fun e => (nomatch e), fun z => absurd z h2⟩
theorem Sht.plain {os ps qs : List Str} (hS : Sht os ps qs) {x : Str} (h : x ∈ ps) : kdOf os qs x = .pl := by
  have h1 := List.nodup_append.mp hS.nd
  have h2 := List.nodup_append.mp h1.1
  unfold kdOf
  rw [if_neg (fun z => h2.2.2 x z x h rfl), if_neg (fun z => h1.2.2 x (List.mem_append.mpr (.inr h)) x z rfl)]
end Eh
set_option Elab.async false
set_option linter.all false
set_option maxRecDepth 100000
set_option maxHeartbeats 4000000
namespace Eh
open PySem PySem.Spec PyProof.Rows L2 Evl
/-! texts compared at depth -/
theorem strOk_ltr {x : Str} (h : ∀ c ∈ cs x, az c) : PyData.strOk x = true := by
  unfold PyData.strOk
  rw [Array.all_eq_true_iff_forall_mem]
  intro c hc
  have := (h c (by simpa using hc)).2
  simp
  omega
theorem dpStrs {K : PySem.W.Frag} {H : Hp} : ∀ ws : List Str, DpAll K H (ws.map V.str) (ws.map PyData.str)
  | [] => .nil
  | x :: r => .cons (.str x) (dpStrs r)
theorem layStrs : ∀ ws : List Str, (∀ x ∈ ws, ∀ c ∈ cs x, az c) → PyData.canLayAll0 (ws.map PyData.str) = true
  | [], _ => rfl
  | x :: r, h => by
    show (PyData.strOk x && PyData.canLayAll0 (r.map PyData.str)) = true
    rw [layStrs r fun y hy => h y (List.mem_cons_of_mem _ hy), strOk_ltr (h x (List.mem_cons_self ..))]
    rfl
theorem deepStrs : ∀ ws : List Str, PyData.depthAll (ws.map PyData.str) = 0
  | [] => rfl
  | x :: r => by
    show max 0 (PyData.depthAll (r.map PyData.str)) = 0
    rw [deepStrs r]
    rfl
theorem shapedT {ws : List Str} (h : ∀ x ∈ ws, ∀ c ∈ cs x, az c) : SeqAt.shaped (.tuple (ws.map PyData.str)) = true := by
  unfold SeqAt.shaped
  rw [show PyData.canLay0 (.tuple (ws.map PyData.str)) = true from layStrs ws h, show PyData.depth (.tuple (ws.map PyData.str)) = 1 by
    show PyData.depthAll (ws.map PyData.str) + 1 = 1
    rw [deepStrs]]
  rfl
theorem shapedL {ws : List Str} (h : ∀ x ∈ ws, ∀ c ∈ cs x, az c) : SeqAt.shaped (.list (ws.map PyData.str)) = true := by
  unfold SeqAt.shaped
  rw [show PyData.canLay0 (.list (ws.map PyData.str)) = true from layStrs ws h, show PyData.depth (.list (ws.map PyData.str)) = 1 by
    show PyData.depthAll (ws.map PyData.str) + 1 = 1
    rw [deepStrs]]
  rfl
theorem shapedT0 : SeqAt.shaped (.tuple []) = true := by decide +kernel
theorem eqv_nilT (ws : List Str) : PyData.eqv (.tuple (ws.map PyData.str)) (.tuple []) = decide (ws = []) := by
  cases ws with
  | nil => rfl
  | cons x r => exact (decide_eq_false (fun z => nomatch z)).symm
/-! a letter of one part drawn -/
theorem draw_rd {K : PySem.W.Frag} {p c s ad : Addr} {ns : List Int} {H : Hp} {σ : L2.St} {xs : List V} {ys : List Str} {Q : VK} {j : Nat} {z : Int} (hP : Pot p c ns H) (h0 : σ[0]? = some (some (.ref p))) (hj : σ[j]? = some (some (.ref s))) (hs : H s = some (.tup xs)) (ha : atI xs z = some (.ref ad)) (hy : H ad = some (.tup (ys.map V.str))) (y0 : ys ≠ []) (y1 : ys.length ≤ 1000)
    (k : ∀ x H', x ∈ ys → Keep p H H' → Pot p c ns H' → Q (.str x) H') : tOp (rIxT K) (tOp (rIxT K) (tVar j) (tC (.int z))) (tCall spPick [] E0 (tCons (tVar 0) (tCons (tCB (rLenS K) (tCons (tOp (rIxT K) (tVar j) (tC (.int z))) tNil)) tNil))) σ H Q := by
  have hl : 0 < ys.length := by
    cases ys with
    | nil => exact absurd rfl y0
    | cons _ _ => exact Nat.succ_pos _
  refine ⟨_, hj, s, xs, z, _, rfl, rfl, st_of hs, ha, _, h0, _, hj, s, xs, z, _, rfl, rfl, st_of hs, ha, ad, _, rfl, .inr (st_of hy), p, c, ns, _, rfl, ?_, ?_, hP, fun v H' hv kp hP' => ?_⟩
  · rw [List.length_map]
    omega
  · rw [List.length_map]
    omega
  · rw [List.length_map] at hv
    have hv' : v < ys.length := by omega
    refine ⟨ad, _, _, .str ys[v], rfl, rfl, st_of (kp _ _ (hP.ne_tup hy) hy), atI_nat ?_, k _ H' (List.getElem_mem hv') kp hP'⟩
    rw [List.getElem?_map, List.getElem?_eq_getElem hv']
    rfl
theorem app_rd {K : PySem.W.Frag} {p c s l ad : Addr} {ns : List Int} {H : Hp} {σ : L2.St} {xs : List V} {ys ws : List Str} {D : Ends} {z : Int} (hP : Pot p c ns H) (h0 : σ[0]? = some (some (.ref p))) (h1 : σ[1]? = some (some (.ref s))) (h3 : σ[3]? = some (some (.ref l))) (hs : H s = some (.tup xs)) (ha : atI xs z = some (.ref ad)) (hy : H ad = some (.tup (ys.map V.str))) (y0 : ys ≠ []) (y1 : ys.length ≤ 1000) (hl : H l = some (lS ws)) (hlp : l ≠ p) (hz : ws.length < 100000)
    (k : ∀ x H', x ∈ ys → Keep p H H' → Pot p c ns H' → D.nx σ (upd H' l (.lst (ws.map V.str ++ [.str x])))) : tDrop (tBM K "list" rAppend (tVar 3) (tCons (tOp (rIxT K) (tOp (rIxT K) (tVar 1) (tC (.int z))) (tCall spPick [] E0 (tCons (tVar 0) (tCons (tCB (rLenS K) (tCons (tOp (rIxT K) (tVar 1) (tC (.int z))) tNil)) tNil)))) tNil)) D σ H :=
  ⟨_, h3, .inl ⟨rfl, _, sq_of hl⟩, draw_rd hP h0 h1 hs ha hy y0 y1 fun x H6 hx kp6 hP6 => ⟨l, _, _, rfl, rfl, kp6 _ _ hlp hl, by rw [List.length_map]; exact sz_lt hz, k x H6 hx kp6 hP6⟩⟩
/-- how many opens wait behind letters; none where a close is bare -/
def bal (os qs : List Str) : List Str → Nat → Option Nat
  | [], n => some n
  | x :: r, n => match kdOf os qs x with
    | .op => bal os qs r (n + 1)
    | .pl => bal os qs r n
    | .cl => match n with
      | 0 => none
      | m + 1 => bal os qs r m
theorem bal_app (os qs : List Str) : ∀ (a b : List Str) (n : Nat), bal os qs (a ++ b) n = (bal os qs a n).bind (bal os qs b)
  | [], b, n => rfl
  | x :: r, b, n => by
    show bal os qs (x :: (r ++ b)) n = (bal os qs (x :: r) n).bind (bal os qs b)
    unfold bal
    cases kdOf os qs x with
    | op => exact bal_app os qs r b (n + 1)
    | pl => exact bal_app os qs r b n
    | cl =>
      cases n with
      | zero => rfl
      | succ m => exact bal_app os qs r b m
theorem bal_one_op {os qs : List Str} {x : Str} (h : x ∈ os) (n : Nat) : bal os qs [x] n = some (n + 1) := by
  unfold bal
  rw [kd_op.mpr h]
  rfl
theorem bal_one_cl {os ps qs : List Str} (hS : Sht os ps qs) {x : Str} (h : x ∈ qs) (n : Nat) : bal os qs [x] (n + 1) = some n := by
  unfold bal
  rw [(kd_cl hS).mpr h]
  rfl
theorem bal_one_pl {os ps qs : List Str} (hS : Sht os ps qs) {x : Str} (h : x ∈ ps) (n : Nat) : bal os qs [x] n = some n := by
  unfold bal
  rw [hS.plain h]
  rfl
abbrev nShut : List Str := ["pot", "sheet", "most", "word", "waiting", "turn", "way"]
theorem scShut : FnScope nShut ["pot", "sheet", "most"] (defScope sShut) := ⟨rfl, rfl, rfl, by decide +kernel, rfl, by decide +kernel, by decide +kernel⟩
theorem lS_add (ws : List Str) (x : Str) : HO.lst (ws.map V.str ++ [.str x]) = lS (ws ++ [x]) := by
  unfold lS
  rw [List.map_append]
  rfl
theorem Keep.fresh {p q : Addr} {H H' : Hp} (k : Keep p H H') (hq : q ≠ p) (h : H' q = none) : H q = none := by
  cases e : H q with
  | none => rfl
  | some o =>
    rw [k q o hq e] at h
    cases h
section
variable {P : Program} {w : World} {K : PySem.W.Frag} {mg : Str → Option Value} {base : Heap}
def spShut : Sp := fun vs H Q _ => ∃ (p c s : Addr) (ns : List Int) (os ps qs : List Str) (m : Nat), vs = [.ref p, .ref s, .int (m : Int)] ∧ m ≤ 1000 ∧ Pot p c ns H ∧ Sht os ps qs ∧ SheetAt H s os ps qs ∧
  ∀ (ws : List Str) l H', (∀ x ∈ ws, x ∈ os ++ ps ++ qs) → ws.length ≤ 2 * m → bal os qs ws 0 = some 0 → Keep p H H' → Pot p c ns H' → H l = none → H' l = some (lS ws) → Q (.ref l) H'
theorem ok_shut {f fP : Addr} {fd fdP : FuncData} {k : Nat} (F : Fun K "_law_shut" "_law_shut" sShut f fd) (FP : Fun K "_law_pick" "_law_pick" sPick fP fdP) (GP : FnOk P w K mg base CX0 (k + 1) fP fdP ["pot", "many"] spPick) (bP : Binds K fdP ["pot", "many"] []) (gP : mg "_law_pick" = some (.ref fP)) (ml : mg "len" = none) (mr : mg "range" = none) :
    FnOk P w K mg base CX0 (k + 2) f fd ["pot", "sheet", "most"] spShut := by
  have nd := scShut.nd
  refine F.ok scShut (fun vs H Q E h => ?_) (fun cdv A outer s H vs Q E hr h => ?_)
  · obtain ⟨p, c, s, ns, os, ps, qs, m, rfl, _⟩ := h
    rfl
  · obtain ⟨p, c, s, ns, os, ps, qs, m, rfl, m1, hP, hS, hs, q⟩ := h
    refine ⟨_, pss_cons (ps_set (i := 3) nd rfl (.inl rfl) (pe_lst pa_nil))
      (pss_cons (ps_set (i := 4) nd rfl (.inl rfl) pe_int)
      (pss_cons (ps_for PassesOwn.never rfl (pi_range1 (by rfl) mr (pa_cons (pe_call GP hr (by rfl) gP FP.kp bP .nil pass0 (pa_cons (pv 0) (pa_cons (pe_op op_add (pv 2) pe_int) pa_nil))) pa_nil)) (pg_name (i := 5) nd rfl (.inl rfl))
        (pss_cons (ps_set (i := 6) nd rfl (.inl rfl) (pe_call GP hr (by rfl) gP FP.kp bP .nil pass0 (pa_cons (pv 0) (pa_cons pe_int pa_nil))))
        (pss_one (ps_if (PW.pt (pw_or (pt_cmpR op_lt (pv 6) pe_int (nomark _)) (pw_or1 (PW.pt (pw_and (pt_cmpR (op_eqD hr.units) (pe_ix ix_tup (pv 1) pe_int (fun _ _ => rfl)) (pe_tup pa_nil) (nomark _)) (pw_and1 (pt_cmpR op_eq (pv 4) pe_int (nomark _))))))))
          (pss_cons (ps_expr (pe_bm PySem.F.plainAttrs_list PySem.F.slot_list_append PySem.F.type_list_append mt_append (pv 3) (pa_cons (pe_ix ix_tup (pe_ix ix_tup (pv 1) pe_int (fun _ _ => rfl)) (pe_call GP hr (by rfl) gP FP.kp bP .nil pass0 (pa_cons (pv 0) (pa_cons (pe_callB call_len_seq (by rfl) ml PySem.boot_len (pa_cons (pe_ix ix_tup (pv 1) pe_int (fun _ _ => rfl)) pa_nil)) pa_nil))) (fun _ _ => rfl)) pa_nil)))
          (pss_one (ps_set (i := 4) nd rfl (.inl rfl) (pe_op op_add (pv 4) pe_int))))
          (pss_one (ps_if (PW.pt (pw_or (PW.pt (pw_and (pt_cmpR op_eq (pv 6) pe_int (nomark _)) (pw_and1 (pt_cmpR (op_neD hr.units) (pe_ix ix_tup (pv 1) pe_int (fun _ _ => rfl)) (pe_tup pa_nil) (nomark _))))) (pw_or1 (pt_cmpR op_eq (pv 4) pe_int (nomark _)))))
            (pss_one (ps_expr (pe_bm PySem.F.plainAttrs_list PySem.F.slot_list_append PySem.F.type_list_append mt_append (pv 3) (pa_cons (pe_ix ix_tup (pe_ix ix_tup (pv 1) pe_int (fun _ _ => rfl)) (pe_call GP hr (by rfl) gP FP.kp bP .nil pass0 (pa_cons (pv 0) (pa_cons (pe_callB call_len_seq (by rfl) ml PySem.boot_len (pa_cons (pe_ix ix_tup (pv 1) pe_int (fun _ _ => rfl)) pa_nil)) pa_nil))) (fun _ _ => rfl)) pa_nil))))
            (pss_cons (ps_expr (pe_bm PySem.F.plainAttrs_list PySem.F.slot_list_append PySem.F.type_list_append mt_append (pv 3) (pa_cons (pe_ix ix_tup (pe_ix ix_tup (pv 1) pe_int (fun _ _ => rfl)) (pe_call GP hr (by rfl) gP FP.kp bP .nil pass0 (pa_cons (pv 0) (pa_cons (pe_callB call_len_seq (by rfl) ml PySem.boot_len (pa_cons (pe_ix ix_tup (pv 1) pe_int (fun _ _ => rfl)) pa_nil)) pa_nil))) (fun _ _ => rfl)) pa_nil)))
            (pss_one (ps_set (i := 4) nd rfl (.inl rfl) (pe_op op_sub (pv 4) pe_int))))))))))
      (pss_one (ps_ret (pe_op op_cat (pv 3) (pe_lc (own := [("turn", 5)]) (g := gName 5) (tt := tYes) (te := tOp (rIxT K) (tOp (rIxT K) (tVar 1) (tC (.int 2))) (tCall spPick [] E0 (tCons (tVar 0) (tCons (tCB (rLenS K) (tCons (tOp (rIxT K) (tVar 1) (tC (.int 2))) tNil)) tNil)))) rfl nd (pi_range1 (by rfl) mr (pa_cons (pv 4) pa_nil)) (blkOk_by (own := [("turn", 5)]) (N := nShut) (sc := defScope sShut) (by decide +kernel)) (fun _ _ _ _ _ => pg_name (i := 5) nd rfl (Or.inl rfl)) (fun _ _ _ _ _ => pts_nil)
        (fun _ _ _ _ _ => pe_ix ix_tup (pe_ix ix_tup (pv 1) pe_int (fun _ _ => rfl)) (pe_call GP hr (by rfl) gP FP.kp bP .nil pass0 (pa_cons (pv 0) (pa_cons (pe_callB call_len_seq (by rfl) ml PySem.boot_len (pa_cons (pe_ix ix_tup (pv 1) pe_int (fun _ _ => rfl)) pa_nil)) pa_nil))) (fun _ _ => rfl)))))))), ?_⟩
    refine ⟨Nat.zero_le _, fun l nl => ?_⟩
    have e1 : Ex H (upd H l (lS [])) := Ex.new nl
    have hpl := hP.ne_new nl
    refine ⟨_, rfl, _, rfl, _, _, rfl, rfl, p, c, ns, _, rfl, by omega, by omega, hP.ex e1, fun n H2 hn kp2 hP2 => ?_⟩
    have kH2 : Keep p H H2 := (Keep.ofEx e1).trans kp2
    refine ⟨_, rfl, by omega, by omega, for_range (lo := 0) (n := ((n : Int)).toNat) (fun i σ H' => ∃ (wt : Nat) (ws : List Str), (∃ y5 y6, σ = [some (.ref p), some (.ref s), some (.int (m : Int)), some (.ref l), some (nV wt), y5, y6]) ∧ wt ≤ i ∧ ws.length = i ∧ (∀ x ∈ ws, x ∈ os ++ ps ++ qs) ∧ bal os qs ws 0 = some wt ∧ Keep p H H' ∧ Pot p c ns H' ∧ H' l = some (lS ws)) ?_ ?_ ?_⟩
    · exact ⟨0, [], ⟨_, _, rfl⟩, Nat.le_refl _, rfl, fun x hx => (List.not_mem_nil hx).elim, rfl, kH2, hP2, kp2 _ _ hpl.1.symm upd_same⟩
    · rintro i σ H3 hi ⟨wt, ws, ⟨y5, y6, rfl⟩, hwt, hwl, hwm, hb, kp3, hP3, hl3⟩
      have hi' : i < 1001 := by omega
      refine ⟨_, rfl, p, c, ns, 5, rfl, by decide, by decide, hP3, fun way H4 hway kp4 hP4 => ?_⟩
      have kp04 := kp3.trans kp4
      have hl4 : H4 l = some (lS ws) := kp4 _ _ hpl.1.symm hl3
      obtain ⟨ao, ap, ac, g0, g1, g2, g3⟩ := (hs.keep hP kp3).keep hP3 kp4
      have hps : ∀ x ∈ ps, ∀ d ∈ cs x, az d := fun x hx => (hS.lt x (List.mem_append.mpr (.inl (List.mem_append.mpr (.inr hx))))).1
      -- what each way adds
      have fin : ∀ (z : Str) (wt' : Nat) (H5 : Hp), z ∈ os ++ ps ++ qs → bal os qs [z] wt = some wt' → wt' ≤ i + 1 → Keep p H4 H5 → Pot p c ns H5 → ∀ y5 y6, ∃ (wt2 : Nat) (ws2 : List Str), (∃ y5' y6', [some (V.ref p), some (.ref s), some (.int (m : Int)), some (.ref l), some (nV wt'), y5, y6] = [some (.ref p), some (.ref s), some (.int (m : Int)), some (.ref l), some (nV wt2), y5', y6']) ∧ wt2 ≤ i + 1 ∧ ws2.length = i + 1 ∧ (∀ x ∈ ws2, x ∈ os ++ ps ++ qs) ∧ bal os qs ws2 0 = some wt2 ∧ Keep p H (upd H5 l (.lst (ws.map V.str ++ [.str z]))) ∧ Pot p c ns (upd H5 l (.lst (ws.map V.str ++ [.str z]))) ∧ (upd H5 l (.lst (ws.map V.str ++ [.str z]))) l = some (lS ws2) := by
        intro z wt' H5 hz hbz hw' kp5 hP5 y5 y6
        refine ⟨wt', ws ++ [z], ⟨_, _, rfl⟩, hw', by rw [List.length_append, hwl]; rfl, fun x hx => ?_, ?_, (kp04.trans kp5).new nl, hP5.new hpl.1 hpl.2, ?_⟩
        · rcases List.mem_append.mp hx with a | a
          · exact hwm x a
          · rw [List.mem_singleton.mp a]
            exact hz
        · rw [bal_app, hb]
          exact hbz
        · rw [upd_same, lS_add]
      have wsz : ws.length < 100000 := by omega
      have o0 : os ≠ [] := fun z => by have := hS.o1; rw [z] at this; exact absurd this (by decide)
      have c0 : qs ≠ [] := fun z => by have := hS.c1; rw [z] at this; exact absurd this (by decide)
      have o4 := hS.o4
      have p4 := hS.p4
      have c4 := hS.c4
      have mo : ∀ x, x ∈ os → x ∈ os ++ ps ++ qs := fun x hx => List.mem_append.mpr (.inl (List.mem_append.mpr (.inl hx)))
      have mp : ∀ x, x ∈ ps → x ∈ os ++ ps ++ qs := fun x hx => List.mem_append.mpr (.inl (List.mem_append.mpr (.inr hx)))
      have mc : ∀ x, x ∈ qs → x ∈ os ++ ps ++ qs := fun x hx => List.mem_append.mpr (.inr hx)
      have tst : ∀ (H5 : Hp), Ex H4 H5 → ∀ (σ' : L2.St), σ'[1]? = some (some (.ref s)) → Ev (tOp (rEqD K) (tOp (rIxT K) (tVar 1) (tC (.int 1))) (tTup tNil)) σ' H5 (.bl (decide (ps = []))) ∧ Ev (tOp (rNeD K) (tOp (rIxT K) (tVar 1) (tC (.int 1))) (tTup tNil)) σ' H5 (.bl (!decide (ps = []))) := fun H5 e5 σ' h1 => by
        constructor
        · refine ev_opU (ev_op (ev_var h1) ev_c (rv_ixT (st_of (e5 _ _ g0)) (show atI [V.ref ao, .ref ap, .ref ac] 1 = some (.ref ap) from rfl))) (eu_tup ea_nil (by decide)) fun u H6 hu e6 => ?_
          refine fun H7 e7 Q qq => ⟨.tuple (ps.map PyData.str), .tuple [], .tup (st_of (e7 _ _ (e6 _ _ (e5 _ _ g2)))) (dpStrs ps), .tup (st_of (e7 _ _ hu)) .nil, shapedT hps, shapedT0, ?_⟩
          rw [eqv_nilT]
          exact qq H7 (Ex.refl _)
        · refine ev_opU (ev_op (ev_var h1) ev_c (rv_ixT (st_of (e5 _ _ g0)) (show atI [V.ref ao, .ref ap, .ref ac] 1 = some (.ref ap) from rfl))) (eu_tup ea_nil (by decide)) fun u H6 hu e6 => ?_
          refine fun H7 e7 Q qq => ⟨.tuple (ps.map PyData.str), .tuple [], .tup (st_of (e7 _ _ (e6 _ _ (e5 _ _ g2)))) (dpStrs ps), .tup (st_of (e7 _ _ hu)) .nil, shapedT hps, shapedT0, ?_⟩
          rw [eqv_nilT]
          exact qq H7 (Ex.refl _)
      have wz : decide (nV wt = .int 0) = decide (wt = 0) := by
        by_cases z : wt = 0
        · subst z
          rfl
        · rw [decide_eq_false z, decide_eq_false (fun e => z (by have := V.int.inj e; omega))]
      refine s_if (b := decide ((way : Int) < 2) || (decide (ps = []) && decide (nV wt = .int 0))) (et_or (et_test (ev_op (ev_var rfl) ev_c rv_I0)) (fun _ => et_and (et_test (tst H4 (Ex.refl _) _ rfl).1) (fun _ => et_test (ev_op (ev_var rfl) ev_c (rv_eq rfl))))) (fun hb1 H5 e5 => ?_) (fun hb1 H5 e5 => ?_)
      · refine app_rd (hP4.ex e5) rfl rfl rfl (e5 _ _ g0) (show atI [V.ref ao, .ref ap, .ref ac] 0 = some (.ref ao) from rfl) (e5 _ _ g1) o0 (by omega) (e5 _ _ hl4) hpl.1.symm wsz fun x H6 hx kp6 hP6 => ?_
        exact ⟨_, rfl, _, _, rfl, rfl, fin x (wt + 1) H6 (mo x hx) (bal_one_op hx _) (by omega) ((Keep.ofEx e5).trans kp6) hP6 _ _⟩
      · rw [wz, Bool.or_eq_false_iff, Bool.and_eq_false_iff] at hb1
        refine s_if (b := (decide (V.int (way : Int) = .int 2) && !decide (ps = [])) || decide (nV wt = .int 0)) (et_or (et_and (et_test (ev_op (ev_var rfl) ev_c (rv_eq rfl))) (fun _ => et_test (tst H5 e5 _ rfl).2)) (fun _ => et_test (ev_op (ev_var rfl) ev_c (rv_eq rfl)))) (fun hb2 H6 e6 => ?_) (fun hb2 H6 e6 => ?_)
        · have p0 : ps ≠ [] := fun z => by
            rw [wz, Bool.or_eq_true, Bool.and_eq_true] at hb2
            rcases hb2 with ⟨_, h2⟩ | h2
            · rw [decide_eq_true z] at h2
              exact absurd h2 (by decide)
            · rcases hb1.2 with h3 | h3
              · rw [decide_eq_true z] at h3
                exact absurd h3 (by decide)
              · rw [h2] at h3
                cases h3
          have e56 := e5.trans e6
          exact app_rd (hP4.ex e56) rfl rfl rfl (e56 _ _ g0) (show atI [V.ref ao, .ref ap, .ref ac] 1 = some (.ref ap) from rfl) (e56 _ _ g2) p0 (by omega) (e56 _ _ hl4) hpl.1.symm wsz fun x H7 hx kp7 hP7 => fin x wt H7 (mp x hx) (bal_one_pl hS hx _) (by omega) ((Keep.ofEx e56).trans kp7) hP7 _ _
        · rw [wz, Bool.or_eq_false_iff] at hb2
          have w0 : wt ≠ 0 := of_decide_eq_false hb2.2
          obtain ⟨w', rfl⟩ : ∃ w', wt = w' + 1 := ⟨wt - 1, by omega⟩
          have e56 := e5.trans e6
          refine app_rd (hP4.ex e56) rfl rfl rfl (e56 _ _ g0) (show atI [V.ref ao, .ref ap, .ref ac] 2 = some (.ref ac) from rfl) (e56 _ _ g3) c0 (by omega) (e56 _ _ hl4) hpl.1.symm wsz fun x H7 hx kp7 hP7 => ?_
          have ew : ((w' + 1 : Nat) : Int) - 1 = (w' : Int) := by omega
          refine ⟨_, rfl, _, _, rfl, rfl, ?_⟩
          show ∃ (wt : Nat) (ws : List Str), (∃ y5 y6, [some (V.ref p), some (.ref s), some (.int (m : Int)), some (.ref l), some (.int (((w' + 1 : Nat) : Int) - 1)), _, _] = _) ∧ _
          rw [ew]
          exact fin x w' H7 (mc x hx) (bal_one_cl hS hx _) (by omega) ((Keep.ofEx e56).trans kp7) hP7 _ _
    · rintro σ H3 ⟨wt, ws, ⟨y5, y6, rfl⟩, hwt, hwl, hwm, hb, kp3, hP3, hl3⟩
      obtain ⟨ao, ap, ac, g0, g1, g2, g3⟩ := hs.keep hP kp3
      have c0 : qs ≠ [] := fun z => by have := hS.c1; rw [z] at this; exact absurd this (by decide)
      have c4 := hS.c4
      have hwn : wt ≤ n := by
        rw [Int.toNat_natCast] at hwt
        exact hwt
      have hln : ws.length = n := by
        rw [Int.toNat_natCast] at hwl
        exact hwl
      refine ⟨_, rfl, _, rfl, (wt : Int), rfl, by omega, by omega, fun D nD => ?_⟩
      have hpD := hP3.ne_new nD
      have nDH : H D = none := kp3.fresh hpD.1.symm nD
      have nlD : l ≠ D := ne_of_none hl3 nD
      refine lc_range (lo := 0) (n := ((wt : Int)).toNat) (fun i H' => ∃ ds : List Str, ds.length = i ∧ (∀ d ∈ ds, d ∈ qs) ∧ H' D = some (lS ds) ∧ Keep p H3 H' ∧ Pot p c ns H') ?_ ?_ ?_
      · exact ⟨[], rfl, fun d hd => (List.not_mem_nil hd).elim, upd_same, (Keep.refl p H3).new nD, hP3.new hpD.1 hpD.2⟩
      · rintro i H' hi ⟨ds, hds, hdm, hD, kp, hP'⟩
        refine ⟨rfl, yesT (draw_rd hP' rfl rfl (kp _ _ (hP3.ne_tup g0) g0) (show atI [V.ref ao, .ref ap, .ref ac] 2 = some (.ref ac) from rfl) (kp _ _ (hP3.ne_tup g3) g3) c0 (by omega) fun x H2' hx kp2' hP2' => ?_)⟩
        refine ⟨_, kp2' _ _ hpD.1.symm hD, ?_, ds ++ [x], ?_, ?_, ?_, (kp.trans kp2').new nD, hP2'.new hpD.1 hpD.2⟩
        · rw [List.length_map]
          exact sz_lt (by omega)
        · rw [List.length_append, hds]
          rfl
        · intro d hd
          rcases List.mem_append.mp hd with a | a
          · exact hdm d a
          · rw [List.mem_singleton.mp a]
            exact hx
        · rw [upd_same, lS_add]
      · rintro H5 ⟨ds, hds, hdm, hD, kp5, hP5⟩
        rw [Int.toNat_natCast] at hds
        have hl5 : H5 l = some (lS ws) := kp5 _ _ hpl.1.symm hl3
        refine ⟨l, D, _, _, rfl, rfl, hl5, hD, ?_, fun r nr => ?_⟩
        · rw [List.length_map, List.length_map]
          exact sz_of (by omega)
        · have kp05 := kp3.trans kp5
          have hpr := hP5.ne_new nr
          refine q (ws ++ ds) r _ (fun x hx => ?_) ?_ ?_ (kp05.new (kp05.fresh hpr.1.symm nr)) (hP5.new hpr.1 hpr.2) (kp05.fresh hpr.1.symm nr) ?_
          · rcases List.mem_append.mp hx with a | a
            · exact hwm x a
            · exact List.mem_append.mpr (.inr (hdm x a))
          · rw [List.length_append]
            omega
          · rw [bal_app, hb]
            show bal os qs ds wt = some 0
            rw [← hds]
            clear hD hds hpD nDH nlD kp5 hP5 hl5 kp05 nr hpr
            induction ds with
            | nil => rfl
            | cons d r ih =>
              have h1 := bal_app os qs [d] r (d :: r).length
              rw [List.singleton_append, List.length_cons, bal_one_cl hS (hdm d (List.mem_cons_self ..))] at h1
              rw [List.length_cons, h1]
              exact ih fun x hx => hdm x (List.mem_cons_of_mem _ hx)
          · rw [upd_same, ← List.map_append]
end
end Eh
set_option Elab.async false
set_option linter.all false
set_option maxRecDepth 100000
set_option maxHeartbeats 4000000
namespace Eh
open PySem PySem.Spec PyProof.Rows L2 Evl
/-! what answers what in a part of a word -/
theorem bal_take {os qs : List Str} {G : List Str} (hb : bal os qs G 0 = some 0) : ∀ i, i ≤ G.length → bal os qs (G.take i) 0 = some (run (kfOf os qs G) G.length i).2.length
  | 0, _ => rfl
  | i + 1, hi => by
    have ih := bal_take hb i (by omega)
    have hi' : i < G.length := by omega
    have e1 : G.take (i + 1) = G.take i ++ [G[i]] := by rw [List.take_succ, List.getElem?_eq_getElem hi']; rfl
    have e2 : G = G.take i ++ G.drop i := (List.take_append_drop i G).symm
    have e3 : G.drop i = G[i] :: G.drop (i + 1) := List.drop_eq_getElem_cons hi'
    have kk : kfOf os qs G i = kdOf os qs G[i] := kfOf_at (List.getElem?_eq_getElem hi')
    rw [e1, bal_app, ih]
    show bal os qs [G[i]] (run (kfOf os qs G) G.length i).2.length = some (step (kfOf os qs G) i (run (kfOf os qs G) G.length i)).2.length
    have hb2 : ((bal os qs (G.take i) 0).bind (bal os qs (G.drop i))) = some 0 := by rw [← bal_app, ← e2]; exact hb
    rw [ih, e3] at hb2
    replace hb2 : bal os qs (G[i] :: G.drop (i + 1)) (run (kfOf os qs G) G.length i).2.length = some 0 := hb2
    unfold step
    rw [kk]
    unfold bal at hb2 ⊢
    cases h : kdOf os qs G[i] with
    | op => rfl
    | pl => rfl
    | cl =>
      rw [h] at hb2
      cases hs : (run (kfOf os qs G) G.length i).2 with
      | nil =>
        rw [hs] at hb2
        cases hb2
      | cons b r => rfl
theorem tv_set2 {t : List (Option Nat)} {a b : Nat} {u v : Option Nat} (ha : a < t.length) (hb : b < t.length) (j : Nat) : tv ((t.set b v).set a u) j = if j = a then u else if j = b then v else tv t j := by
  rw [tv_set (by rw [List.length_set]; exact ha), tv_set hb]
theorem sim {os qs : List Str} {kf : Nat → Kd} {n s : Nat} {G : List Str} (hb : bal os qs G 0 = some 0) (hk : ∀ i, i < G.length → kf (s + i) = kfOf os qs G i) (hn : s + G.length ≤ n) :
    ∀ i, i ≤ G.length → (run kf n (s + i)).2 = (run (kfOf os qs G) G.length i).2.map (· + s) ++ (run kf n s).2 ∧ ∀ j, j < G.length → tv (run kf n (s + i)).1 (s + j) = (tv (run (kfOf os qs G) G.length i).1 j).map (· + s)
  | 0, _ => by
    refine ⟨rfl, fun j hj => ?_⟩
    have g1 := (good_run kf n s (by omega)).hi (s + j) (by omega)
    have g2 := (good_run (kfOf os qs G) G.length 0 (by omega)).hi j (by omega)
    show tv (run kf n s).1 (s + j) = _
    rw [g1, g2]
    rfl
  | i + 1, hi => by
    obtain ⟨ih1, ih2⟩ := sim hb hk hn i (by omega)
    have g1 := good_run kf n (s + i) (by omega)
    have g2 := good_run (kfOf os qs G) G.length i (by omega)
    have hbt := bal_take hb (i + 1) hi
    have kk := hk i (by omega)
    show (step kf (s + i) (run kf n (s + i))).2 = (step (kfOf os qs G) i (run (kfOf os qs G) G.length i)).2.map (· + s) ++ (run kf n s).2 ∧ ∀ j, j < G.length → tv (step kf (s + i) (run kf n (s + i))).1 (s + j) = (tv (step (kfOf os qs G) i (run (kfOf os qs G) G.length i)).1 j).map (· + s)
    have hne : kfOf os qs G i = .cl → (run (kfOf os qs G) G.length i).2 ≠ [] := fun hc hnil => by
      have ht := bal_take hb i (by omega)
      rw [hnil] at ht
      have hi' : i < G.length := by omega
      have e1 : G.take (i + 1) = G.take i ++ [G[i]] := by rw [List.take_succ, List.getElem?_eq_getElem hi']; rfl
      rw [e1, bal_app, ht] at hbt
      have kk2 : kfOf os qs G i = kdOf os qs G[i] := kfOf_at (List.getElem?_eq_getElem hi')
      rw [kk2] at hc
      replace hbt : bal os qs [G[i]] 0 = _ := hbt
      unfold bal at hbt
      rw [hc] at hbt
      cases hbt
    generalize run kf n (s + i) = S at ih1 ih2 g1 ⊢
    generalize run (kfOf os qs G) G.length i = S' at ih1 ih2 g2 hne ⊢
    obtain ⟨t, st⟩ := S
    obtain ⟨t', st'⟩ := S'
    replace g1 : Good kf n (s + i) t st := g1
    replace g2 : Good (kfOf os qs G) G.length i t' st' := g2
    replace ih1 : st = st'.map (· + s) ++ (run kf n s).2 := ih1
    replace ih2 : ∀ j, j < G.length → tv t (s + j) = (tv t' j).map (· + s) := ih2
    unfold step
    rw [kk]
    cases hc : kfOf os qs G i with
    | op =>
      refine ⟨?_, ih2⟩
      show (s + i) :: st = ((i :: st').map (· + s)) ++ _
      rw [ih1, List.map_cons, Nat.add_comm i s]
      rfl
    | pl => exact ⟨ih1, ih2⟩
    | cl =>
      cases st' with
      | nil => exact absurd rfl (hne hc)
      | cons b r =>
        rw [ih1]
        have hb1 : b < i := (g2.bd b (List.mem_cons_self ..)).1
        refine ⟨rfl, fun j hj => ?_⟩
        show tv ((t.set (b + s) (some (s + i))).set (s + i) (some (b + s))) (s + j) = (tv ((t'.set b (some i)).set i (some b)) j).map (· + s)
        have l1 := g1.len
        have l2 := g2.len
        rw [tv_set2 (t := t) (by omega) (by omega), tv_set2 (t := t') (by omega) (by omega)]
        by_cases e1 : j = i
        · subst e1
          rw [if_pos rfl, if_pos rfl]
          rfl
        · rw [if_neg (by omega), if_neg e1]
          by_cases e2 : j = b
          · subst e2
            rw [if_pos (by omega), if_pos rfl]
            show some (s + i) = some (i + s)
            rw [Nat.add_comm]
          · rw [if_neg (by omega), if_neg e2]
            exact ih2 j hj
theorem st_end {os qs : List Str} {G : List Str} (hb : bal os qs G 0 = some 0) : (run (kfOf os qs G) G.length G.length).2 = [] := by
  have := bal_take hb G.length (Nat.le_refl _)
  rw [List.take_length, hb] at this
  exact List.length_eq_zero_iff.mp (Option.some.inj this).symm
theorem kf_mid {os qs A G B : List Str} {i : Nat} (hi : i < G.length) : kfOf os qs (A ++ G ++ B) (A.length + i) = kfOf os qs G i := by
  unfold kfOf
  rw [List.getElem?_append_left (by rw [List.length_append]; omega), List.getElem?_append_right (by omega), Nat.add_sub_cancel_left]
/-- in a balanced part what answers is as in it alone -/
theorem ans_mid {os qs A G B : List Str} (hb : bal os qs G 0 = some 0) {i : Nat} (hi : i < G.length) : tv (ansOf os qs (A ++ G ++ B)) (A.length + i) = (tv (ansOf os qs G) i).map (· + A.length) := by
  have hn : (A ++ G ++ B).length = A.length + G.length + B.length := by rw [List.length_append, List.length_append]
  obtain ⟨s1, s2⟩ := sim (kf := kfOf os qs (A ++ G ++ B)) (n := (A ++ G ++ B).length) (s := A.length) hb (fun i hi => kf_mid hi) (by omega) G.length (Nat.le_refl _)
  have h2 := s2 i hi
  have later := run_later (kfOf os qs (A ++ G ++ B)) (A ++ G ++ B).length (A.length + G.length) (A.length + i) B.length (by omega)
  have gG := good_run (kfOf os qs G) G.length G.length (Nat.le_refl _)
  have gW := good_run (kfOf os qs (A ++ G ++ B)) (A ++ G ++ B).length (A ++ G ++ B).length (Nat.le_refl _)
  have e0 : A.length + G.length + B.length = (A ++ G ++ B).length := hn.symm
  rw [e0] at later
  show tv (run (kfOf os qs (A ++ G ++ B)) (A ++ G ++ B).length (A ++ G ++ B).length).1 (A.length + i) = (tv (run (kfOf os qs G) G.length G.length).1 i).map (· + A.length)
  cases hg : tv (run (kfOf os qs G) G.length G.length).1 i with
  | some m =>
    rw [hg] at h2
    exact later.1 _ h2
  | none =>
    rw [hg] at h2
    cases hw : tv (run (kfOf os qs (A ++ G ++ B)) (A ++ G ++ B).length (A ++ G ++ B).length).1 (A.length + i) with
    | none => rfl
    | some m =>
      exfalso
      rcases later.2 (by omega) h2 with z | ⟨m', hm', z⟩
      · rw [hw] at z
        cases z
      · obtain ⟨p1, p2, p3, p4⟩ := gW.pr _ _ z
        rcases p4 with ⟨k1, k2, k3, k4⟩ | ⟨k1, k2, k3, k4⟩
        · rw [kf_mid hi] at k1
          have := gG.opn i hi k1 hg
          rw [st_end hb] at this
          exact List.not_mem_nil this
        · omega
theorem ans_wrap1 {os ps qs : List Str} (hS : Sht os ps qs) {a c : Str} (ha : a ∈ os) (hc : c ∈ qs) {G : List Str} (hb : bal os qs G 0 = some 0) : tv (ansOf os qs ([a] ++ G ++ [c])) 0 = some (G.length + 1) := by
  have hn : ([a] ++ G ++ [c]).length = G.length + 2 := by rw [List.length_append, List.length_append]; show 1 + G.length + 1 = _; omega
  obtain ⟨s1, _⟩ := sim (kf := kfOf os qs ([a] ++ G ++ [c])) (n := ([a] ++ G ++ [c]).length) (s := [a].length) hb (fun i hi => kf_mid hi) (by rw [hn]; show 1 + G.length ≤ _; omega) G.length (Nat.le_refl _)
  rw [st_end hb] at s1
  have k0 : kfOf os qs ([a] ++ G ++ [c]) 0 = .op := by
    rw [kfOf_at (x := a) rfl]
    exact kd_op.mpr ha
  have kc : kfOf os qs ([a] ++ G ++ [c]) (1 + G.length) = .cl := by
    rw [kfOf_at (x := c) (by rw [List.getElem?_append_right (by rw [List.length_append]; exact Nat.le_refl _), List.length_append]; show [c][1 + G.length - (1 + G.length)]? = _; rw [Nat.sub_self]; rfl)]
    exact (kd_cl hS).mpr hc
  have g := good_run (kfOf os qs ([a] ++ G ++ [c])) ([a] ++ G ++ [c]).length (1 + G.length) (by omega)
  show tv (run (kfOf os qs ([a] ++ G ++ [c])) ([a] ++ G ++ [c]).length ([a] ++ G ++ [c]).length).1 0 = _
  rw [show run (kfOf os qs ([a] ++ G ++ [c])) ([a] ++ G ++ [c]).length ([a] ++ G ++ [c]).length = step (kfOf os qs ([a] ++ G ++ [c])) (1 + G.length) (run (kfOf os qs ([a] ++ G ++ [c])) ([a] ++ G ++ [c]).length (1 + G.length)) by
    conv => lhs; rw [show ([a] ++ G ++ [c]).length = G.length + 1 + 1 from hn]
    conv => rhs; rw [show ([a] ++ G ++ [c]).length = G.length + 1 + 1 from hn]
    rw [Nat.add_comm 1 G.length]
    rfl]
  have s1' : (run (kfOf os qs ([a] ++ G ++ [c])) ([a] ++ G ++ [c]).length (1 + G.length)).2 = [0] := by
    rw [show (1 : Nat) = [a].length from rfl, s1]
    show [] ++ (step (kfOf os qs ([a] ++ G ++ [c])) 0 _).2 = [0]
    unfold step
    rw [k0]
    rfl
  unfold step
  rw [kc, s1']
  show tv (((run _ _ _).1.set 0 (some (1 + G.length))).set (1 + G.length) (some 0)) 0 = _
  have l := g.len
  rw [tv_set (by rw [List.length_set]; omega), if_neg (by omega), tv_set (by omega), if_pos rfl, Nat.add_comm]
theorem ans_inv {os qs W : List Str} {i j : Nat} (h : tv (ansOf os qs W) i = some j) : j < W.length ∧ tv (ansOf os qs W) j = some i := by
  have g := (good_run (kfOf os qs W) W.length W.length (Nat.le_refl _)).pr i j h
  exact ⟨g.2.1, g.2.2.1⟩
theorem ansOf_len' (os qs W : List Str) : (ansOf os qs W).length = W.length := (good_run (kfOf os qs W) W.length W.length (Nat.le_refl _)).len
theorem ans_out {os qs W : List Str} {i : Nat} (h : W.length ≤ i) : tv (ansOf os qs W) i = none := (good_run (kfOf os qs W) W.length W.length (Nat.le_refl _)).hi i h
theorem bal_mid {os ps qs : List Str} (hS : Sht os ps qs) {a c : Str} (ha : a ∈ os) (hc : c ∈ qs) {G : List Str} (hb : ∀ n, bal os qs G n = some n) : ∀ n, bal os qs ([a] ++ G ++ [c]) n = some n := fun n => by
  rw [bal_app, bal_app, bal_one_op ha]
  show ((bal os qs G (n + 1))).bind _ = _
  rw [hb]
  exact bal_one_cl hS hc n
theorem bal_up {os qs : List Str} : ∀ (G : List Str) (n m : Nat), bal os qs G n = some m → ∀ k, bal os qs G (n + k) = some (m + k)
  | [], n, m, h, k => by rw [Option.some.inj h]; rfl
  | x :: r, n, m, h, k => by
    unfold bal at h ⊢
    cases hx : kdOf os qs x with
    | op =>
      rw [hx] at h
      have := bal_up r (n + 1) m h k
      rw [show n + 1 + k = n + k + 1 by omega] at this
      exact this
    | pl =>
      rw [hx] at h
      exact bal_up r n m h k
    | cl =>
      rw [hx] at h
      cases n with
      | zero => cases h
      | succ n' =>
        have := bal_up r n' m h k
        rw [show n' + 1 + k = n' + k + 1 by omega]
        exact this
theorem bal_all {os qs G : List Str} (h : bal os qs G 0 = some 0) (n : Nat) : bal os qs G n = some n := by
  have := bal_up G 0 0 h n
  rw [Nat.zero_add] at this
  exact this
theorem wrap_succ (k : Nat) (a c : Str) (G : List Str) : List.replicate (k + 1) a ++ G ++ List.replicate (k + 1) c = [a] ++ (List.replicate k a ++ G ++ List.replicate k c) ++ [c] := by
  rw [List.replicate_succ, List.replicate_succ']
  simp
theorem bal_wrap {os ps qs : List Str} (hS : Sht os ps qs) {a c : Str} (ha : a ∈ os) (hc : c ∈ qs) {G : List Str} (hb : bal os qs G 0 = some 0) : ∀ k, bal os qs (List.replicate k a ++ G ++ List.replicate k c) 0 = some 0
  | 0 => by
    rw [List.replicate_zero, List.replicate_zero, List.append_nil, List.nil_append]
    exact hb
  | k + 1 => by
    rw [wrap_succ]
    exact bal_mid hS ha hc (bal_all (bal_wrap hS ha hc hb k)) 0
theorem bal_flat {os qs : List Str} : ∀ Ws : List (List Str), (∀ W ∈ Ws, bal os qs W 0 = some 0) → bal os qs Ws.flatten 0 = some 0
  | [], _ => rfl
  | W :: r, h => by
    rw [List.flatten_cons, bal_app, h W (List.mem_cons_self ..)]
    exact bal_flat r fun W hW => h W (List.mem_cons_of_mem _ hW)
theorem ans_wrap {os ps qs : List Str} (hS : Sht os ps qs) {a c : Str} (ha : a ∈ os) (hc : c ∈ qs) {G : List Str} (hb : bal os qs G 0 = some 0) : ∀ (k i : Nat), i < k → tv (ansOf os qs (List.replicate k a ++ G ++ List.replicate k c)) i = some (2 * k + G.length - 1 - i)
  | 0, i, h => absurd h (Nat.not_lt_zero _)
  | k + 1, i, h => by
    have hw := bal_wrap hS ha hc hb k
    have hlen : (List.replicate k a ++ G ++ List.replicate k c).length = 2 * k + G.length := by
      rw [List.length_append, List.length_append, List.length_replicate, List.length_replicate]
      omega
    rw [wrap_succ]
    cases i with
    | zero =>
      rw [ans_wrap1 hS ha hc hw, hlen]
      congr 1
      omega
    | succ i =>
      have e := ans_mid (A := [a]) (B := [c]) hw (i := i) (by omega)
      rw [show i + 1 = [a].length + i by show _ = 1 + i; omega, e, ans_wrap hS ha hc hb k i (by omega)]
      show some (2 * k + G.length - 1 - i + 1) = some (2 * (k + 1) + G.length - 1 - (1 + i))
      congr 1
      omega
/-- a wrap's own letters answer one another from the ends on -/
theorem ans_own {os ps qs : List Str} (hS : Sht os ps qs) {a c : Str} (ha : a ∈ os) (hc : c ∈ qs) {G : List Str} (hb : bal os qs G 0 = some 0) {k i : Nat} (h : i < k ∨ k + G.length ≤ i) (hi : i < 2 * k + G.length) : tv (ansOf os qs (List.replicate k a ++ G ++ List.replicate k c)) i = some (2 * k + G.length - 1 - i) := by
  rcases h with h | h
  · exact ans_wrap hS ha hc hb k i h
  · have := (ans_inv (ans_wrap hS ha hc hb k (2 * k + G.length - 1 - i) (by omega))).2
    rw [show 2 * k + G.length - 1 - (2 * k + G.length - 1 - i) = i by omega] at this
    exact this
end Eh
set_option Elab.async false
set_option linter.all false
set_option maxRecDepth 100000
set_option maxHeartbeats 4000000
namespace Eh
open PySem PySem.Spec PyProof.Rows L2 Evl
theorem seq_list_iadd : seqSlot? (.type "list") (dunderI "add") = pure (some (.builtin "list.__iadd__")) := PySem.seqSlot_of PySem.F.slot_list_iadd.lookup (by decide +kernel)
theorem iconcat_list {M : Model} {A : Around} {E : Value → Shared → Prop} {s : Shared} {a b : Value} {Q : Value → Shared → Prop} (ha : s.TypeIs a "list") (hb : s.TypeIs b "list")
    (hc : wpAny M A (call (.builtin "list.__iadd__") [a, b]) Q E s) : wpAny M A (inplaceOp .Add a b) Q E s := by
  unfold inplaceOp
  refine wpAny_holding ?_
  have hfi : fillsInplaceSlot (.type "list") "add" (Operator.Add == .Add) = pure false := by
    unfold fillsInplaceSlot
    show (typeLookup (.type "list") (dunderI "add") >>= fun fi => pure (fi.isSome && !isSeqSlot fi)) = pure false
    rw [PySem.F.slot_list_iadd.lookup, pure_bind]
    rw [show isSeqSlot (some (.builtin "list.__iadd__")) = true by decide +kernel]
    rfl
  refine wpAny_bind (wpAny_typeOf ha (wpAny_bind (wpAny_of_eq hfi ?_)))
  show wpAny M A (if false = true then _ else _) Q E s
  rw [if_neg Bool.false_ne_true]
  refine wpAny_bind (wpAny_binaryOp1_none (nm := "add") ha hb noFill_list_add ?_)
  refine wpAny_bind (wpAny_of_eq seq_list_iadd ?_)
  exact wpAny_bind (wpAny_rule hc)
/-- x += y of two lists: x itself grows -/
def ipL : TIp := fun x y H Q => ∃ l b xs zs, x = .ref l ∧ y = .ref b ∧ H l = some (.lst xs) ∧ H b = some (.lst zs) ∧ xs.length + zs.length ≤ sizeLine ∧ Q (.ref l) (upd H l (.lst (xs ++ zs)))
theorem ip_cat {X : Cx} : PIp X .Add ipL := by
  intro pins s σ H x y v u Q I rx ry hyp
  obtain ⟨l, b, xs, zs, rfl, rfl, hH, hB, hz, q⟩ := hyp
  cases rx
  cases ry
  obtain ⟨z1, its, n, r, hl, e⟩ := I.lstM hH
  obtain ⟨z2, its2, n2, r2, hl2, e2⟩ := I.lstM hB
  have hs : its.toArray.size + its2.toArray.size ≤ sizeLine := by rw [List.size_toArray, List.size_toArray]; omega
  have hnl : ¬ (!its.toArray.isEmpty && Builtin.List.listTooLong (its.toArray.size + its2.toArray.size)) = true := by rw [notLongL hs, Bool.and_false]; exact Bool.false_ne_true
  refine iconcat_list ⟨_, e, rfl⟩ ⟨_, e2, rfl⟩ (call_meets PySem.F.slot_list_iadd ⟨_, e, rfl⟩ PySem.F.entry_list_iadd (PySem.F.args_list_iadd_2 _ _) (AutoSeq1.list___iadd___list_list_0 l its.toArray n b its2.toArray n2 hnl (by rw [List.size_toArray]; omega) (by omega)) ⟨e, e2, ?_⟩)
  exact ⟨.ref l, _, I.lset (its' := its ++ its2) hH e (by simp) (r.append r2) (by rw [List.length_append]; omega), rfl, q⟩
end Eh
set_option Elab.async false
set_option linter.all false
set_option maxRecDepth 100000
set_option maxHeartbeats 4000000
namespace Eh
open PySem PySem.Spec PyProof.Rows L2 Evl
section
variable {P : Program} {w : World} {K : PySem.W.Frag} {mg : Str → Option Value} {base : Heap}
def spPickW : Sp := fun vs H Q _ => ∃ (p c : Addr) (ns : List Int) (m : Int), vs = [.ref p, .int m] ∧ 0 < m ∧ m.natAbs.log2 < 9000 ∧ Pot p c ns H ∧ ∀ (v : Nat) H', (v : Int) < m → Keep p H H' → Pot p c ns H' → Q (.int v) H'
theorem ok_pickW {f fB : Addr} {fd fdB : FuncData} {k : Nat} (F : Fun K "_law_pick" "_law_pick" sPick f fd) (FB : Fun K "_law_blend" "_law_blend" sBlend fB fdB) (bB : Binds K fdB ["cell", "at"] []) (gB : mg "_law_blend" = some (.ref fB)) (ml : mg "len" = none) :
    FnOk P w K mg base CX0 (k + 2) f fd ["pot", "many"] spPickW := by
  have GB : FnOk P w K mg base CX0 (k + 1) fB fdB ["cell", "at"] spBlend := ok_blend FB
  have nd := scPick.nd
  refine F.ok scPick (fun vs H Q E h => ?_) (fun cdv A outer s H vs Q E hr h => ?_)
  · obtain ⟨p, c, ns, m, rfl, _⟩ := h
    rfl
  · obtain ⟨p, c, ns, m, rfl, m0, m1, hP, q⟩ := h
    refine ⟨_, pss_cut (ps_if (pt_cmpR op_lt (pe_ix ix_list (pv 0) pe_int (fun _ _ => rfl)) (pv 1) (nomark _))
       (pss_cons (ps_set (i := 2) nd rfl (.inl rfl) (pe_ix ix_list (pv 0) pe_int (fun _ _ => rfl)))
       (pss_cons (ps_set (i := 3) nd rfl (.inl rfl) (pe_op op_mul pe_int (pv 2)))
       (pss_cut (ps_if (pt_cmpR op_lt (pv 2) (pe_callB call_len_seq (by rfl) ml PySem.boot_len (pa_cons (pe_ix ix_list (pv 0) pe_int (fun _ _ => rfl)) pa_nil)) (nomark _))
            (pss_one (ps_set (i := 3) nd rfl (.inl rfl) (pe_ix ix_list (pe_ix ix_list (pv 0) pe_int (fun _ _ => rfl)) (pv 2) (fun _ _ => rfl))))
            (pss_one (ps_if (pt_cmpR (op_neD hr.units) (pe_ix ix_list (pv 0) pe_int (fun _ _ => rfl)) (pe_lst pa_nil) (nomark _))
              (pss_one (ps_set (i := 3) nd rfl (.inl rfl) (pe_op op_mod (pe_ix ix_list (pe_ix ix_list (pv 0) pe_int (fun _ _ => rfl)) (pe_op op_mod (pe_op op_add (pe_op op_mul (pv 2) pe_int) pe_int) (pe_callB call_len_seq (by rfl) ml PySem.boot_len (pa_cons (pe_ix ix_list (pv 0) pe_int (fun _ _ => rfl)) pa_nil))) (fun _ _ => rfl)) (pe_op op_add (pe_op op_pow pe_int pe_int) (pe_op op_mul pe_int (pv 2)))))) pss_nil)))
       (pss_cons (ps_asg (pe_op op_add (pv 2) pe_int) (pg_sub (pv 0) pe_int set_list))
       (pss_one (ps_asg (pe_call GB hr (by rfl) gB FB.kp bB .nil pass0 (pa_cons (pv 3) (pa_cons (pv 2) pa_nil))) (pg_sub (pv 0) pe_int set_list)))))))
       pss_nil)
      (pss_cons (ps_set (i := 4) nd rfl (.inl rfl) (pe_op op_mod (pe_ix ix_list (pv 0) pe_int (fun _ _ => rfl)) (pv 1)))
      (pss_cons (ps_asg (pe_op op_fdivW (pe_ix ix_list (pv 0) pe_int (fun _ _ => rfl)) (pv 1)) (pg_sub (pv 0) pe_int set_list))
      (pss_one (ps_ret (pv 4))))), ?_⟩
    have hne := hP.ne
    obtain ⟨a, r, a0, hp, hc⟩ := hP
    refine ⟨fun σ' H' => (∃ y2 y3, σ' = [some (.ref p), some (.int m), y2, y3, none]) ∧ Keep p H H' ∧ Pot p c ns H', ?_, ?_⟩
    · refine ⟨_, rfl, p, _, 2, .int r, rfl, rfl, sq_of hp, rfl, _, rfl, _, _, rfl, rfl, _, rfl, ite2 (fun e => ?_) (fun e => ?_)⟩
      · refine ⟨_, rfl, p, _, 1, .int a, rfl, rfl, sq_of hp, rfl, ?_⟩
        refine ⟨_, rfl, _, _, rfl, rfl, .inl ⟨by decide, by decide⟩, ?_⟩
        refine ⟨fun σ' H' => ∃ y3 : Int, σ' = [some (.ref p), some (.int m), some (.int a), some (.int y3), none] ∧ Ex H H', ?_, ?_⟩
        · refine ⟨_, rfl, _, rfl, p, _, 0, .ref c, rfl, rfl, sq_of hp, rfl, c, _, rfl, .inl (sq_of hc), _, _, rfl, rfl, _, rfl, ite2 (fun e => ?_) (fun e => ?_)⟩
          · have ha : a < (ns.map V.int).length := of_decide_eq_true e
            have hb : a.toNat < ns.length := by
              rw [List.length_map] at ha
              omega
            refine ⟨_, rfl, p, _, 0, .ref c, rfl, rfl, sq_of hp, rfl, _, rfl, c, _, a, .int ns[a.toNat], rfl, rfl, sq_of hc, at_of (j := a.toNat) (by omega) ?_, _, rfl, Ex.refl _⟩
            rw [List.getElem?_map, List.getElem?_eq_getElem hb]
            rfl
          · refine ⟨_, rfl, p, _, 0, .ref c, rfl, rfl, sq_of hp, rfl, Nat.zero_le _, fun u hu => ?_⟩
            have e1 : Ex H (upd H u (.lst [])) := Ex.new hu
            refine ⟨.list (ns.map PyData.int), .list [], .lst (sq_of (e1 _ _ hc)) (dpInts ns), .lst (sq_of upd_same) .nil, shapedInts ns, shapedNil, _, rfl, ite2 (fun e => ?_) (fun e => ?_)⟩
            · have h0 : 0 < ns.length := by
                cases ns with
                | nil => exact absurd e (by decide)
                | cons x t => exact Nat.succ_pos _
              have hl : (0 : Int) < ((ns.map V.int).length : Int) := by
                rw [List.length_map]
                omega
              have g0 := Int.emod_nonneg (a * 7 + 1) (show ((ns.map V.int).length : Int) ≠ 0 by omega)
              have g1 := Int.emod_lt_of_pos (a * 7 + 1) hl
              have hb : ((a * 7 + 1) % ((ns.map V.int).length : Int)).toNat < ns.length := by
                rw [List.length_map] at g0 g1 ⊢
                omega
              refine ⟨_, rfl, p, _, 0, .ref c, rfl, rfl, sq_of (e1 _ _ hp), rfl, _, rfl, _, _, rfl, rfl, .inr ⟨by decide, by decide⟩, _, _, rfl, rfl, _, rfl, p, _, 0, .ref c, rfl, rfl, sq_of (e1 _ _ hp), rfl, c, _, rfl, .inl (sq_of (e1 _ _ hc)), _, _, rfl, rfl, hl, c, _, _, .int ns[((a * 7 + 1) % ((ns.map V.int).length : Int)).toNat], rfl, rfl, sq_of (e1 _ _ hc), at_of (j := ((a * 7 + 1) % ((ns.map V.int).length : Int)).toNat) (by omega) ?_, _, _, rfl, rfl, ⟨by decide, by decide, by decide⟩, _, rfl, _, _, rfl, rfl, .inl ⟨by decide, by decide⟩, _, _, rfl, rfl, _, _, rfl, rfl, ?_, _, rfl, e1⟩
              · rw [List.getElem?_map, List.getElem?_eq_getElem hb]
                rfl
              · show (0 : Int) < 10 ^ (17 : Int).toNat + 3 * a
                have : (10 : Int) ^ (17 : Int).toNat = 100000000000000000 := by decide
                omega
            · exact ⟨_, rfl, e1⟩
        · rintro σ' H' ⟨y3, rfl, e1⟩
          refine ⟨_, rfl, _, _, rfl, rfl, _, rfl, p, _, 1, 1, rfl, rfl, e1 _ _ hp, rfl, ?_⟩
          refine ⟨_, rfl, _, rfl, _, _, rfl, fun v => ⟨_, rfl, p, _, 2, 2, rfl, rfl, upd_same, rfl, ⟨_, _, rfl⟩, ?_, a + 1, v, by omega, upd_same, ?_⟩⟩
          · exact ((Keep.ofEx e1).at).at
          · rw [upd_ne hne, upd_ne hne]
            exact e1 _ _ hc
      · exact ⟨⟨_, _, rfl⟩, Keep.refl _ _, a, r, a0, hp, hc⟩
    · rintro σ' H' ⟨⟨y2, y3, rfl⟩, kp, a', r', a0', hp', hc'⟩
      have g0 := Int.emod_nonneg r' (show m ≠ 0 by omega)
      have g1 := Int.emod_lt_of_pos r' m0
      refine ⟨_, rfl, p, _, 2, .int r', rfl, rfl, sq_of hp', rfl, _, rfl, _, _, rfl, rfl, m0, ?_⟩
      refine ⟨_, rfl, p, _, 2, .int r', rfl, rfl, sq_of hp', rfl, _, rfl, _, _, rfl, rfl, ⟨m0, m1⟩, _, rfl, p, _, 2, 2, rfl, rfl, hp', rfl, ?_⟩
      refine ⟨_, rfl, ?_⟩
      have e : r' % m = ((r' % m).toNat : Int) := by omega
      show Q (.int (r' % m)) _
      rw [e]
      refine q _ _ (by omega) kp.at ⟨a', r' / m, a0', upd_same, ?_⟩
      rw [upd_ne hne]
      exact hc'
end
end Eh
set_option Elab.async false
set_option linter.all false
set_option maxRecDepth 100000
set_option maxHeartbeats 4000000
namespace Eh
open PySem PySem.Spec PyProof.Rows L2 Evl
/-! max(xs, default=d) of whole numbers; count of a text -/
def mxI (y : Int) (ys : List Int) : Int := ys.foldl (fun a b => if a < b then b else a) y
def mxV (d : V) : List Int → V
  | [] => d
  | y :: ys => .int (mxI y ys)
def rMaxDef (K : PySem.W.Frag) : List V → List V → Hp → VK → Prop := fun vs zs H Q => ∃ (a : Addr) (ns : List Int) (d : V), vs = [.ref a] ∧ zs = [d] ∧ SqL K H a (ns.map V.int) ∧ Q (mxV d ns) H
theorem strs_are : ∀ {ws : List Str} {us : List Value}, Vals (ws.map V.str) us → StrsAre us ws
  | [], _, .nil => .nil
  | x :: r, _, .cons h t => by
    obtain ⟨tk, rfl⟩ := h
    exact .cons x tk (strs_are t)
section
variable {X : Cx}
theorem cr_maxDef (hc : X.calm = true) (hu : X.A.units + 64 < cLine) : CallRK X (.builtin "max") ["default"] (rMaxDef X.K) := by
  intro pins s σ H xs zs us ws Q I r rz h
  obtain ⟨a, ns, d, rfl, rfl, hs, q⟩ := h
  obtain rfl := Vals.ref1 r
  cases rz with
  | @cons _ w _ ws' rd rn =>
    cases rn
    obtain ⟨its, rv, hl, hz⟩ := I.list hs
    have hi := rv.ints
    refine PySem.W.max_list_datum_default (α := Int) (xs := ns) (I.ok.hd hc) hl.isList (PySem.W.HoldAll.of_ints hi) (by show _ + 1 + 0 < cLine; omega) (fun e h' tk k => ?_) (fun y ys i v h' tk e hv hh k => ?_)
    · subst e
      exact ⟨d, H, I.kept k, rd, q⟩
    · subst e
      obtain ⟨t, rfl⟩ := PySem.W.int_of_holds hh
      refine ⟨.int (mxI y ys), H, I.kept k, ⟨t, ?_⟩, q⟩
      congr 1
      unfold PySem.W.maxOf mxI
      congr 1
      funext b c
      show (if decide (b < c) = true then c else b) = if b < c then c else b
      by_cases h : b < c
      · rw [if_pos h, if_pos (decide_eq_true h)]
      · rw [if_neg h, if_neg (fun z => h (of_decide_eq_true z))]
def rCntS (K : PySem.W.Frag) : V → List V → Hp → VK → Prop := fun x xs H Q => ∃ (p : Addr) (ws : List Str) (k : Str), x = .ref p ∧ xs = [.str k] ∧ SqL K H p (ws.map V.str) ∧ Q (.int (ws.count k : Nat)) H
def rCntT (K : PySem.W.Frag) : V → List V → Hp → VK → Prop := fun x xs H Q => ∃ (p : Addr) (ws : List Str) (k : Str), x = .ref p ∧ xs = [.str k] ∧ SqT K H p (ws.map V.str) ∧ Q (.int (ws.count k : Nat)) H
theorem cnt_eq (ws : List Str) (k : Str) : (ws.countP fun y => decide (y = k)) = ws.count k := by
  unfold List.count
  congr 1
theorem mt_cntS (hu : X.A.units + 64 < cLine) : MtR X "list.count" (rCntS X.K) := by
  intro pins s σ H x xs v us Q I rx rxs h
  obtain ⟨p, ws, k, rfl, rfl, hs, q⟩ := h
  cases rx
  obtain ⟨u, rfl, ru⟩ := rxs.one
  obtain ⟨t, rfl⟩ := ru
  obtain ⟨its, rv, hl, hlen⟩ := I.list hs
  refine PySem.W.count_list_datum (α := Str) hl.isList (PySem.W.HoldAll.of_strs (strs_are rv)) (PySem.W.holds_str k t) (by show _ + 1 + 0 < cLine; omega) ?_
  rw [cnt_eq]
  exact ⟨.int (ws.count k : Nat), H, I.tok _, ⟨_, rfl⟩, q⟩
theorem mt_cntT (hu : X.A.units + 64 < cLine) : MtR X "tuple.count" (rCntT X.K) := by
  intro pins s σ H x xs v us Q I rx rxs h
  obtain ⟨p, ws, k, rfl, rfl, hs, q⟩ := h
  cases rx
  obtain ⟨u, rfl, ru⟩ := rxs.one
  obtain ⟨t, rfl⟩ := ru
  obtain ⟨its, rv, hl, hlen⟩ := I.tuple hs
  refine PySem.W.count_tuple_datum (α := Str) hl (PySem.W.HoldAll.of_strs (strs_are rv)) (PySem.W.holds_str k t) (by show _ + 1 + 0 < cLine; omega) ?_
  rw [cnt_eq]
  exact ⟨.int (ws.count k : Nat), H, I.tok _, ⟨_, rfl⟩, q⟩
end
end Eh
set_option Elab.async false
set_option linter.all false
set_option maxRecDepth 100000
set_option maxHeartbeats 4000000
namespace Eh
open PySem PySem.Spec PyProof.Rows L2 Evl
/-! tuples that are known to have no dict of their own: what is called on them as a method -/
def TF (o : Obj) : Prop := o.cls = .type "tuple" ∧ o.dict = none
def TupF (H : Hp) (u : Addr) (xs : List V) : Prop := ∃ o, TF o ∧ H u = some (.frz o (.tup xs))
theorem TupF.st {K : PySem.W.Frag} {H : Hp} {u : Addr} {xs : List V} (h : TupF H u xs) : SqT K H u xs := by
  obtain ⟨o, _, e⟩ := h
  exact .inl (.inr ⟨o, e⟩)
theorem TupF.ex {H H' : Hp} {u : Addr} {xs : List V} (e : Ex H H') (h : TupF H u xs) : TupF H' u xs := by
  obtain ⟨o, t, z⟩ := h
  exact ⟨o, t, e _ _ z⟩
theorem TupF.new {H : Hp} {u : Addr} {xs : List V} {o : Obj} (t : TF o) : TupF (upd H u (.frz o (.tup xs))) u xs := ⟨o, t, upd_same⟩
/-- tuples, and what is locked -/
def isTF : HO → Prop
  | .tup _ => True
  | .frz _ _ => True
  | _ => False
def Kt (H H' : Hp) : Prop := ∀ b o, isTF o → H b = some o → H' b = some o
theorem Kt.ex {H H' : Hp} (e : Ex H H') : Kt H H' := fun b o _ z => e b o z
theorem Kt.refl (H : Hp) : Kt H H := fun _ _ _ z => z
theorem Kt.f {H H' : Hp} (k : Kt H H') {u : Addr} {xs : List V} (h : TupF H u xs) : TupF H' u xs := by
  obtain ⟨o, t, z⟩ := h
  exact ⟨o, t, k _ _ trivial z⟩
theorem Kt.lst {H : Hp} {a : Addr} {xs : List V} {o : HO} (h : H a = some (.lst xs)) : Kt H (upd H a o) := fun b u t e => by
  rw [upd_ne (fun z => by
    rw [z, h] at e
    cases e
    exact t)]
  exact e
theorem Pot.kt {p c : Addr} {ns : List Int} {H H' : Hp} (hP : Pot p c ns H) (k : Keep p H H') : Kt H H' := fun b o t e => k b o (fun z => by
  obtain ⟨a, r, _, h1, _⟩ := hP
  rw [z, h1] at e
  cases e
  exact t) e
section
variable {X : Cx} {e : Expr} {es : List Expr} {t : TA} {pos : Pos}
def tTupF (t : TA) : TE := fun σ H Q => t σ H fun xs H1 => xs.length ≤ sizeLine ∧ ∀ p o, H1 p = none → TF o → Q (.ref p) (upd H1 p (.frz o (.tup xs)))
theorem pe_tupF {x1} (h : PA X es t) : PE X (.Tuple es x1 pos) (tTupF t) := by
  refine ⟨fun pins s σ H Q I hq => ?_⟩
  refine wpAny_Tuple_spliced (thn (h.run pos pins s σ H _ I hq) fun us s1 ⟨xs, H1, I1, r, z, q⟩ => ⟨by rw [← r.length]; exact z, ?_⟩)
  have hf : H1 s1.heap.objs.size = none := I1.hok.fresh (Nat.le_refl _)
  refine ⟨.ref s1.heap.objs.size, upd H1 s1.heap.objs.size (.frz { cls := .type "tuple", data := .seq us.toArray } (.tup xs)), I1.laid (t' := s1.toks) (fun b u e => Heap.get?_push_of_some _ e) (Nat.le_refl _) ?_, rfl, q _ _ hf ⟨rfl, rfl⟩⟩
  exact ⟨Heap.get?_push_size _ rfl, z, us, r, ⟨_, Heap.get?_push_size _ rfl, rfl, _, rfl⟩⟩
def rTupOfF (K : PySem.W.Frag) : List V → Hp → VK → Prop := fun xs H Q => ∃ p ys, xs = [.ref p] ∧ SqL K H p ys ∧ ∀ l o, H l = none → TF o → Q (.ref l) (upd H l (.frz o (.tup ys)))
theorem call_tuple_F : CallR X (.type "tuple") (rTupOfF X.K) := by
  intro pins s σ H xs us Q I r h
  obtain ⟨p, ys, rfl, hq, q⟩ := h
  obtain ⟨u, rfl, rx⟩ : ∃ u, us = [u] ∧ RelV (.ref p) u := by
    cases r with
    | cons a b =>
      cases b
      exact ⟨_, rfl, a⟩
  cases rx
  obtain ⟨its, r', pl, hz⟩ := I.list hq
  have hlen := r'.length
  refine call_tuple_list pl.isList (fun h' kp => ?_) (by simp only [List.size_toArray] <;> omega)
  have I1 : Inv X pins σ H { s with heap := h' } := I.kept (t' := s.toks) kp
  have I2 : Inv X pins σ (upd H h'.objs.size (.frz { cls := .type "tuple", data := .seq its.toArray } (.tup ys))) { s with heap := h'.push { cls := .type "tuple", data := .seq its.toArray } } :=
    I1.laid (t' := s.toks) (fun b o e => Heap.get?_push_of_some _ e) (Nat.le_refl _) (show ObjOk X.prog X.w _ _ _ (.frz _ (.tup ys)) from ⟨Heap.get?_push_size _ rfl, hz, its, r', IsTup.new _ _⟩)
  exact ⟨.ref h'.objs.size, _, I2, rfl, q _ _ (I1.hok.fresh (Nat.le_refl _)) ⟨rfl, rfl⟩⟩
/-- t + u, neither of them empty -/
def rCatF (K : PySem.W.Frag) : R2 := fun x y H Q => ∃ a b xs ys, x = .ref a ∧ y = .ref b ∧ SqT K H a xs ∧ SqT K H b ys ∧ xs ≠ [] ∧ ys ≠ [] ∧ xs.length + ys.length ≤ sizeLine ∧ ∀ p o, H p = none → TF o → Q (.ref p) (upd H p (.frz o (.tup (xs ++ ys))))
theorem op_catF : OpR X (binaryOp .Add) (rCatF X.K) := by
  intro pins s σ H x y v u Q I rx ry h
  obtain ⟨a, b, xs, ys, rfl, rfl, ha, hb, hx, hy, hz, q⟩ := h
  cases rx
  cases ry
  obtain ⟨its, r1, p1, _⟩ := I.tuple ha
  obtain ⟨its2, r2, p2, _⟩ := I.tuple hb
  refine HT.cat_tup p1 p2 (fun z => hx (r1.nil_iff.mp z)) (fun z => absurd (r2.nil_iff.mp z) hy) (fun z => ?_) (by rw [← r1.length, ← r2.length]; exact hz)
  refine ⟨.ref s.heap.objs.size, _, I.laid (t' := s.toks) (o := .frz { cls := .type "tuple", data := .seq (its ++ its2).toArray } (.tup (xs ++ ys))) (fun b ob q => Heap.get?_push_of_some _ q) (Nat.le_refl _) ?_, rfl, q _ _ (I.hok.fresh (Nat.le_refl _)) ⟨rfl, rfl⟩⟩
  refine ⟨?_, by rw [List.length_append]; exact hz, _, r1.append r2, ?_⟩
  · exact Heap.get?_push_size _ rfl
  · exact ⟨_, Heap.get?_push_size _ rfl, rfl, _, rfl⟩
def rRepF (K : PySem.W.Frag) : R2 := fun x y H Q => ∃ l k xs, x = .ref l ∧ y = .int k ∧ SqT K H l xs ∧ xs ≠ [] ∧ 2 ≤ k ∧ k ≤ 1000 ∧ xs.length ≤ 1000 ∧ ∀ p o, H p = none → TF o → Q (.ref p) (upd H p (.frz o (.tup (List.replicate k.toNat xs).flatten)))
theorem op_repF : OpR X (binaryOp .Mult) (rRepF X.K) := by
  intro pins s σ H x y v u Q I rx ry h
  obtain ⟨l, k, xs, rfl, rfl, hT, hne, h1, h2, hz, q⟩ := h
  cases rx
  obtain ⟨t, rfl⟩ := ry
  obtain ⟨its, r, ⟨⟨cls, dd, data, sl⟩, ho, hc, n, hd⟩, hs⟩ := I.tuple hT
  simp only at hc hd
  subst hc hd
  have hle : its.length = xs.length := r.length.symm
  have hn : its ≠ [] := fun e => hne (by
    rw [e] at hle
    exact List.eq_nil_of_length_eq_zero hle.symm)
  have hi : its.toArray.isEmpty = false := by
    cases its with
    | nil => exact absurd rfl hn
    | cons a b => rfl
  have hsz0 : its.toArray.size = xs.length := by rw [List.size_toArray, hle]
  have hm : ((its.toArray.size : Nat) : Int) * k ≤ 1000000 := by
    rw [hsz0]
    have a1 : ((xs.length : Nat) : Int) * k ≤ 1000 * k := Int.mul_le_mul_of_nonneg_right (by omega) (by omega)
    omega
  have flen : (List.replicate k.toNat its).flatten.length ≤ sizeLine := by
    rw [PyProof.Rows.lm_len_rep_flat, hle, sizeLine_eq]
    have a1 : k.toNat * xs.length ≤ 1000 * 1000 := Nat.mul_le_mul (by omega) hz
    omega
  have c0 : (decide (k < -(2 ^ 63)) || decide (k ≥ 2 ^ 63)) = false := by
    rw [decide_eq_false (by omega), decide_eq_false (by omega)] <;> rfl
  have c1 : (its.toArray.isEmpty || k == 1) = false := by
    rw [hi, Bool.false_or]
    exact beq_eq_false_iff_ne.mpr (by omega)
  have c2 : (decide (k ≤ 0) || its.toArray.isEmpty) = false := by
    rw [hi, Bool.or_false]
    exact decide_eq_false (by omega)
  have c4 : Builtin.Tuple.tupleTooMany (((its.toArray.size : Nat) : Int) * k) = false := by
    unfold Builtin.Tuple.tupleTooMany
    rw [sizeLine_eq]
    exact decide_eq_false (by omega)
  refine wpAny_binaryOp_repeat_ref (T := "tuple") (U := "int") (by decide) ⟨_, ho, rfl⟩ (fun s' => typeIs_int s' k t) noFill_tuple_mul F.fills_int_mul F.slot_int_rmul repeat_tuple F.slot_int_index.lookup
    (call_meets F.slot_int_rmul (typeIs_int s k t) F.entry_int_rmul (F.args_int_rmul_2 _ _) (int_rmul_tuple k t l its.toArray n dd sl)
      ⟨ho, rfl, ⟨_, ho, rfl⟩, call_meets F.slot_tuple_mul ⟨_, ho, rfl⟩ F.entry_tuple_mul (F.args_tuple_mul_2 _ _) (tuple_mulW l its.toArray n dd sl k t c0 c1 c2 (by omega) c4 (by rw [size_rep, List.size_toArray]; exact flen)) ⟨ho, ?_⟩⟩)
  rw [size_rep]
  refine ⟨.ref s.heap.objs.size, _, I.laid (t' := s.toks) (o := .frz { cls := .type "tuple", data := .seq (List.replicate k.toNat its).flatten.toArray } (.tup (List.replicate k.toNat xs).flatten)) (fun b ob q => Heap.get?_push_of_some _ q) (Nat.le_refl _) ?_, rfl, q _ _ (I.hok.fresh (Nat.le_refl _)) ⟨rfl, rfl⟩⟩
  exact ⟨Heap.get?_push_size _ rfl, by rw [PyProof.Rows.lm_len_rep_flat, sizeLine_eq]; have a1 : k.toNat * xs.length ≤ 1000 * 1000 := Nat.mul_le_mul (by omega) hz; omega, _, r.rep k.toNat, IsTup.new _ _⟩
/-! a method of such a tuple -/
def tBMF (r : V → List V → Hp → VK → Prop) (to : TE) (t : TA) : TE := fun σ H Q => to σ H fun x H1 => (∃ p xs, x = .ref p ∧ TupF H1 p xs) ∧ t σ H1 fun xs H2 => r x xs H2 Q
variable {o : Expr} {to : TE} {name : Str} {apos cpos : Pos} {id : String} {r : V → List V → Hp → VK → Prop}
theorem pe_bmF (pa : PlainAttrs "tuple") (slot : Slot "tuple" name id) (hty : typeOf (.builtin id) = pure (.type "method_descriptor")) (hm : MtR X id r) (ho : PE X o to) (ha : PA X (e :: es) t)
    (hbase : attributeBase o name X.env (eval o X.env) = eval o X.env := by rfl)
    (hfew : ((backTo cpos (starEach (e :: es) X.env)).all (fun x => !x.1) && (backToKw cpos (keywordEach [] X.env)).all (fun x => x.1.isSome)
      && decide ((e :: es).length + ([] : List Keyword).length + (if ([] : List Keyword).isEmpty then 0 else 1) < 30)) = true := by rfl)
    (hline : (apos.endLine == cpos.line) = true := by rfl) (hs : starEach (e :: es) X.env = (false, eval e X.env) :: starEach es X.env := by rfl) (hplain : (backTo cpos (starEach es X.env)).any (·.1) = false := by rfl) :
    PE X (.Call (.Attribute o name apos) (e :: es) [] cpos) (tBMF r to t) := by
  refine ⟨fun pins s σ H Q I h => ?_⟩
  refine wpAny_Call_method_late hbase hfew hline rfl (thn (ho.run pins s σ H _ I h) fun v s1 ⟨x, H1, I1, r1, ty, q1⟩ => ?_)
  have h12 : s1.TypeIs v "tuple" ∧ ∀ a, v = .ref a → ∃ ob, s1.heap.get? a = some ob ∧ ob.dict = none := by
    obtain ⟨p, xs, rfl, ob, tf, hp⟩ := ty
    cases r1
    have ok := (I1.hok p _ hp).1
    exact ⟨⟨ob, ok, tf.1⟩, fun a e => by
      cases e
      exact ⟨ob, ok, tf.2⟩⟩
  refine ⟨"tuple", id, pa, slot, hty, h12.1, h12.2, ?_⟩
  have hA := ha.run cpos pins s1 σ H1 _ I1 q1
  rw [hs] at hA ⊢
  refine Calls.callWith_builtin (by show (false || (backTo cpos (starEach es X.env)).any (·.1)) = false; rw [hplain] <;> rfl) (Calls.evalArgs_plain ?_)
  exact thn hA fun us s2 ⟨vs, H2, I2, r2, q2⟩ => hm pins s2 σ H2 x vs v us Q I2 r1 r2 q2
end
/-! evaluated to such a tuple -/
def EvF (te : TE) (σ : L2.St) (H : Hp) (xs : List V) : Prop := ∀ H1, Ex H H1 → ∀ Q : VK, (∀ p H2, H1 p = none → Ex H1 H2 → TupF H2 p xs → Q (.ref p) H2) → te σ H1 Q
section
variable {σ : L2.St} {H : Hp} {ta tb te : TE} {t : TA} {K : PySem.W.Frag} {xs ys : List V}
theorem ef_tup (h : EvA t σ H xs) (hl : xs.length ≤ 100000) : EvF (tTupF t) σ H xs := fun H1 e Q q => h H1 e _ fun H2 e2 => ⟨sz_of hl, fun p o np tf => q p _ (fresh_back e2 np) (e2.trans (Ex.new np)) (TupF.new tf)⟩
theorem ef_rep {k : Nat} (h : EvF ta σ H xs) (hx : xs ≠ []) (h2 : 2 ≤ k) (hk : k ≤ 1000) (hl : xs.length ≤ 1000) : EvF (tOp (rRepF K) ta (tC (.int (k : Int)))) σ H (List.replicate k xs).flatten := fun H1 e Q q =>
  h H1 e _ fun u H2 nu e2 hu => ⟨u, (k : Int), xs, rfl, rfl, hu.st, hx, by omega, by omega, hl, fun p o np tf => by rw [Int.toNat_natCast]; exact q p _ (fresh_back e2 np) (e2.trans (Ex.new np)) (TupF.new tf)⟩
theorem ef_cat (h : EvF ta σ H xs) (h' : EvF tb σ H ys) (hx : xs ≠ []) (hy : ys ≠ []) (hl : xs.length + ys.length ≤ 100000) : EvF (tOp (rCatF K) ta tb) σ H (xs ++ ys) := fun H1 e Q q =>
  h H1 e _ fun u H2 nu e2 hu => h' H2 (e.trans e2) _ fun w H3 nw e3 hw => ⟨u, w, xs, ys, rfl, rfl, (hu.ex e3).st, hw.st, hx, hy, sz_of hl, fun p o np tf => q p _ (fresh_back (e2.trans e3) np) ((e2.trans e3).trans (Ex.new np)) (TupF.new tf)⟩
theorem ef_is (h : EvF te σ H xs) (e : xs = ys) : EvF te σ H ys := e ▸ h
end
end Eh
set_option Elab.async false
set_option linter.all false
set_option maxRecDepth 100000
set_option maxHeartbeats 4000000
namespace Eh
open PySem PySem.Spec PyProof.Rows L2 Evl
/-! great words as they stand on the heap, by the word that they write -/
def All2 (R : V → List Str → Prop) : List V → List (List Str) → Prop
  | [], [] => True
  | v :: vs, W :: Ws => R v W ∧ All2 R vs Ws
  | _, _ => False
theorem All2.len {R : V → List Str → Prop} : ∀ (vs : List V) (Ws : List (List Str)), All2 R vs Ws → vs.length = Ws.length
  | [], [], _ => rfl
  | v :: vs, W :: Ws, h => congrArg Nat.succ (All2.len vs Ws h.2)
  | [], _ :: _, h => h.elim
  | _ :: _, [], h => h.elim
theorem All2.mono {R R' : V → List Str → Prop} (k : ∀ v W, R v W → R' v W) : ∀ (vs : List V) (Ws : List (List Str)), All2 R vs Ws → All2 R' vs Ws
  | [], [], _ => trivial
  | v :: vs, W :: Ws, h => ⟨k v W h.1, All2.mono k vs Ws h.2⟩
  | [], _ :: _, h => h.elim
  | _ :: _, [], h => h.elim
theorem All2.at {R : V → List Str → Prop} : ∀ (vs : List V) (Ws : List (List Str)), All2 R vs Ws → ∀ (i : Nat) v, vs[i]? = some v → ∃ W, Ws[i]? = some W ∧ R v W
  | [], [], _, i, v, e => by simp at e
  | v :: vs, W :: Ws, h, 0, x, e => ⟨W, rfl, by rw [← Option.some.inj e]; exact h.1⟩
  | v :: vs, W :: Ws, h, i + 1, x, e => All2.at vs Ws h.2 i x e
  | [], _ :: _, h, _, _, _ => h.elim
  | _ :: _, [], h, _, _, _ => h.elim
theorem All2.mem {R : V → List Str → Prop} : ∀ (vs : List V) (Ws : List (List Str)), All2 R vs Ws → ∀ W ∈ Ws, ∃ v, R v W
  | [], [], _, W, hm => (List.not_mem_nil hm).elim
  | v :: vs, W :: Ws, h, X, hm => by
    rcases List.mem_cons.mp hm with e | e
    · exact ⟨v, e ▸ h.1⟩
    · exact All2.mem vs Ws h.2 X e
  | [], _ :: _, h, _, _ => h.elim
  | _ :: _, [], h, _, _ => h.elim
theorem All2.snoc {R : V → List Str → Prop} {v : V} {W : List Str} (hv : R v W) : ∀ (vs : List V) (Ws : List (List Str)), All2 R vs Ws → All2 R (vs ++ [v]) (Ws ++ [W])
  | [], [], _ => ⟨hv, trivial⟩
  | x :: vs, X :: Ws, h => ⟨h.1, All2.snoc hv vs Ws h.2⟩
  | [], _ :: _, h => h.elim
  | _ :: _, [], h => h.elim
/-- a tuple's items xs, the parts in it, what these write, what it writes -/
inductive GS (os ls qs : List Str) (H : Hp) (R : V → List Str → Prop) : List V → List V → List (List Str) → List Str → Prop
  | word {u : Addr} {W : List Str} (hu : TupF H u (W.map V.str)) (hl : W.length ≤ 60) (hm : ∀ x ∈ W, x ∈ os ++ ls ++ qs) (hb : bal os qs W 0 = some 0) : GS os ls qs H R [.str "word", .ref u] [] [] W
  | row {u : Addr} {ps : List V} {Ws : List (List Str)} (hu : H u = some (.tup ps)) (hr : All2 R ps Ws) (hl : ps.length ≤ 8) : GS os ls qs H R [.str "row", .ref u] ps Ws Ws.flatten
  | again {k : Nat} {p : V} {W : List Str} (hk : k < 2 ^ 200) (hr : R p W) : GS os ls qs H R [.str "again", .int (k : Int), p] [p] [W] (List.replicate k W).flatten
  | wrap {k : Nat} {a c : Str} {p : V} {W : List Str} (hk : k < 2 ^ 200) (ha : a ∈ os) (hc : c ∈ qs) (hr : R p W) : GS os ls qs H R [.str "wrap", .int (k : Int), .str a, p, .str c] [p] [W] (List.replicate k a ++ W ++ List.replicate k c)
theorem GS.parts {os ls qs : List Str} {H : Hp} {R : V → List Str → Prop} {xs ps : List V} {Ws : List (List Str)} {W : List Str} (h : GS os ls qs H R xs ps Ws W) : All2 R ps Ws ∧ ps.length ≤ 8 := by
  cases h with
  | word => exact ⟨trivial, Nat.zero_le _⟩
  | row hu hr hl => exact ⟨hr, hl⟩
  | again hk hr => exact ⟨⟨hr, trivial⟩, by show 1 ≤ 8; decide⟩
  | wrap hk ha hc hr => exact ⟨⟨hr, trivial⟩, by show 1 ≤ 8; decide⟩
theorem GS.keep {os ls qs : List Str} {H H' : Hp} {R R' : V → List Str → Prop} (k : Kt H H') (kr : ∀ v W, R v W → R' v W) {xs ps : List V} {Ws : List (List Str)} {W : List Str} (h : GS os ls qs H R xs ps Ws W) : GS os ls qs H' R' xs ps Ws W := by
  cases h with
  | word hu hl hm hb => exact .word (k.f hu) hl hm hb
  | row hu hr hl => exact .row (k _ _ trivial hu) (All2.mono kr _ _ hr) hl
  | again hk hr => exact .again hk (kr _ _ hr)
  | wrap hk ha hc hr => exact .wrap hk ha hc (kr _ _ hr)
/-- a great word, at most n within one another -/
def GAt (os ls qs : List Str) (H : Hp) : Nat → V → List Str → Prop
  | 0, _, _ => False
  | n + 1, v, W => ∃ t xs ps Ws, v = .ref t ∧ H t = some (.tup xs) ∧ GS os ls qs H (GAt os ls qs H n) xs ps Ws W
theorem GAt.keep {os ls qs : List Str} {H H' : Hp} (k : Kt H H') : ∀ (n : Nat) (v : V) (W : List Str), GAt os ls qs H n v W → GAt os ls qs H' n v W
  | 0, _, _, h => h
  | n + 1, v, W, ⟨t, xs, ps, Ws, e, ht, hg⟩ => ⟨t, xs, ps, Ws, e, k _ _ trivial ht, hg.keep k (GAt.keep k n)⟩
theorem GAt.ex {os ls qs : List Str} {H H' : Hp} (e : Ex H H') {n : Nat} {v : V} {W : List Str} (h : GAt os ls qs H n v W) : GAt os ls qs H' n v W := GAt.keep (Kt.ex e) n v W h
theorem GAt.kp {os ls qs : List Str} {p c : Addr} {ns : List Int} {H H' : Hp} (hP : Pot p c ns H) (e : Keep p H H') {n : Nat} {v : V} {W : List Str} (h : GAt os ls qs H n v W) : GAt os ls qs H' n v W := GAt.keep (hP.kt e) n v W h
theorem GAt.up {os ls qs : List Str} {H : Hp} : ∀ (n : Nat) (v : V) (W : List Str), GAt os ls qs H n v W → GAt os ls qs H (n + 1) v W
  | 0, _, _, h => h.elim
  | n + 1, v, W, ⟨t, xs, ps, Ws, e, ht, hg⟩ => ⟨t, xs, ps, Ws, e, ht, hg.keep (Kt.refl _) (GAt.up n)⟩
theorem GAt.le {os ls qs : List Str} {H : Hp} {n m : Nat} (h : n ≤ m) {v : V} {W : List Str} (e : GAt os ls qs H n v W) : GAt os ls qs H m v W := by
  induction h with
  | refl => exact e
  | step _ ih => exact GAt.up _ _ _ ih
theorem flat_len (Ws : List (List Str)) : Ws.flatten.length = (Ws.map List.length).sum := by
  induction Ws with
  | nil => rfl
  | cons x r ih => rw [List.flatten_cons, List.length_append, List.map_cons, List.sum_cons, ih]
theorem rep_len (k : Nat) (W : List Str) : (List.replicate k W).flatten.length = k * W.length := by
  rw [flat_len, List.map_replicate, List.sum_replicate_nat]
theorem sum_lt {B : Nat} (Ws : List (List Str)) (h : ∀ W ∈ Ws, W.length ≤ B) : (Ws.map List.length).sum ≤ Ws.length * B := by
  induction Ws with
  | nil => exact Nat.zero_le _
  | cons x r ih =>
    rw [List.map_cons, List.sum_cons, List.length_cons, Nat.succ_mul]
    have h1 := h x (List.mem_cons_self ..)
    have h2 := ih fun W hW => h W (List.mem_cons_of_mem _ hW)
    omega
theorem GAt.bits {os ls qs : List Str} {H : Hp} : ∀ (n : Nat) (v : V) (W : List Str), GAt os ls qs H n v W → W.length < 2 ^ (300 * n)
  | 0, _, _, h => h.elim
  | n + 1, v, W, ⟨t, xs, ps, Ws, e, ht, hg⟩ => by
    have e1 : 2 ^ (300 * (n + 1)) = 2 ^ 300 * 2 ^ (300 * n) := by rw [← Nat.pow_add]; congr 1; omega
    have p1 : 1 ≤ 2 ^ (300 * n) := Nat.one_le_two_pow
    rw [e1]
    generalize hB : 2 ^ (300 * n) = B at p1
    have ih : ∀ v W, GAt os ls qs H n v W → W.length ≤ B := fun v W h => by have := GAt.bits n v W h; omega
    have c1 : (2 : Nat) ^ 300 = 2037035976334486086268445688409378161051468393665936250636140449354381299763336706183397376 := by decide +kernel
    have c2 : (2 : Nat) ^ 200 = 1606938044258990275541962092341162602522202993782792835301376 := by decide +kernel
    rw [c1]
    cases hg with
    | word hu hl hm hb => omega
    | row hu hr hl =>
      rw [flat_len]
      have h1 := sum_lt (B := B) Ws fun W hW => by
        obtain ⟨v, hv⟩ := All2.mem _ _ hr W hW
        exact ih v W hv
      rw [← All2.len _ _ hr] at h1
      have h2 := Nat.mul_le_mul_right B hl
      omega
    | again hk hr =>
      rw [c2] at hk
      rw [rep_len]
      have h1 := Nat.mul_le_mul (Nat.le_of_lt hk) (ih _ _ hr)
      omega
    | wrap hk ha hc hr =>
      rw [c2] at hk
      rw [List.length_append, List.length_append, List.length_replicate, List.length_replicate]
      have := ih _ _ hr
      omega
theorem given_true (n : Nat) (v : Nat → V) : given n (fun _ => true) v = (List.range n).map v := by
  unfold given
  rw [List.filter_eq_self.mpr (fun _ _ => rfl)]
theorem ev_sumN {K : PySem.W.Frag} {ta : TE} {σ : L2.St} {H : Hp} {xs : List V} {ns : List Int} (ha : EvL ta σ H xs) (hx : xs = ns.map V.int) : Ev (tCB (rSum K) (tCons ta tNil)) σ H (.int ns.sum) := fun H1 e Q q =>
  ha H1 e _ fun p H2 _ e2 h2 => ⟨p, ns, rfl, sq_of (by rw [← hx]; exact h2), q H2 e2⟩
theorem ev_yes {σ : L2.St} {H : Hp} : EvT tYes σ H true := fun H1 _ _ q => q H1 (Ex.refl H1)
section
variable {P : Program} {w : World} {K : PySem.W.Frag} {mg : Str → Option Value} {base : Heap}
/-- a def that nobody may call so -/
theorem fn_no {CX : CXT} {k : Nat} {f : Addr} {fd : FuncData} {ps : List Str} {sp : Sp} (h : ∀ vs H Q E, sp vs H Q E → False) : FnOk P w K mg base CX k f fd ps sp := ⟨fun _ _ _ _ z => (h _ _ _ _ z).elim, fun _ _ _ _ _ _ _ _ _ _ _ _ _ z => (h _ _ _ _ z).elim⟩
end
end Eh
set_option Elab.async false
set_option linter.all false
set_option maxRecDepth 100000
set_option maxHeartbeats 4000000
namespace Eh
open PySem PySem.Spec PyProof.Rows L2 Evl
/-! depth and counts of words put together -/
def stp (os qs : List Str) (p : Nat × Nat) (x : Str) : Nat × Nat := match kdOf os qs x with
  | .op => (p.1 + 1, max p.2 (p.1 + 1))
  | .pl => p
  | .cl => (p.1 - 1, p.2)
def dpt (os qs : List Str) (W : List Str) : Nat := (W.foldl (stp os qs) (0, 0)).2
theorem stp_op {os qs : List Str} {x : Str} (h : kdOf os qs x = .op) (w d : Nat) : stp os qs (w, d) x = (w + 1, max d (w + 1)) := by unfold stp; rw [h]
theorem stp_pl {os qs : List Str} {x : Str} (h : kdOf os qs x = .pl) (w d : Nat) : stp os qs (w, d) x = (w, d) := by unfold stp; rw [h]
theorem stp_cl {os qs : List Str} {x : Str} (h : kdOf os qs x = .cl) (w d : Nat) : stp os qs (w, d) x = (w - 1, d) := by unfold stp; rw [h]
theorem stp_shift {os qs : List Str} : ∀ (W : List Str) (j m : Nat), bal os qs W j = some m → ∀ w d e, W.foldl (stp os qs) (w + j, max d (w + e)) = (w + (W.foldl (stp os qs) (j, e)).1, max d (w + (W.foldl (stp os qs) (j, e)).2)) ∧ (W.foldl (stp os qs) (j, e)).1 = m
  | [], j, m, h, w, d, e => ⟨rfl, Option.some.inj h⟩
  | x :: r, j, m, h, w, d, e => by
    rw [List.foldl_cons, List.foldl_cons]
    unfold bal at h
    cases hk : kdOf os qs x with
    | op =>
      rw [hk] at h
      have ih := stp_shift r (j + 1) m h w d (max e (j + 1))
      rw [stp_op hk, stp_op hk, show w + j + 1 = w + (j + 1) by omega, show max (max d (w + e)) (w + (j + 1)) = max d (w + max e (j + 1)) by omega]
      exact ih
    | pl =>
      rw [hk] at h
      rw [stp_pl hk, stp_pl hk]
      exact stp_shift r j m h w d e
    | cl =>
      rw [hk] at h
      cases j with
      | zero => cases h
      | succ j' =>
        rw [stp_cl hk, stp_cl hk, show w + (j' + 1) - 1 = w + j' by omega, show j' + 1 - 1 = j' by omega]
        exact stp_shift r j' m h w d e
theorem fold_bal {os qs W : List Str} (h : bal os qs W 0 = some 0) {w d : Nat} (hd : w ≤ d) : W.foldl (stp os qs) (w, d) = (w, max d (w + dpt os qs W)) := by
  have := stp_shift W 0 0 h w d 0
  rw [this.2, show max d (w + 0) = d by omega] at this
  exact this.1
theorem dpt_app {os qs A B : List Str} (ha : bal os qs A 0 = some 0) (hb : bal os qs B 0 = some 0) : dpt os qs (A ++ B) = max (dpt os qs A) (dpt os qs B) := by
  show ((A ++ B).foldl (stp os qs) (0, 0)).2 = _
  rw [List.foldl_append, fold_bal ha (Nat.le_refl 0), fold_bal hb (Nat.zero_le _)]
  show max (max 0 (0 + dpt os qs A)) (0 + dpt os qs B) = max (dpt os qs A) (dpt os qs B)
  omega
def mxN (ns : List Nat) : Nat := ns.foldl max 0
theorem mx_from : ∀ (ns : List Nat) (a : Nat), ns.foldl max a = max a (mxN ns)
  | [], a => by show a = max a 0; omega
  | n :: r, a => by
    have h1 := mx_from r (max a n)
    have h2 := mx_from r (max 0 n)
    show r.foldl max (max a n) = max a (r.foldl max (max 0 n))
    omega
theorem mxN_cons (n : Nat) (r : List Nat) : mxN (n :: r) = max n (mxN r) := by
  have h := mx_from r (max 0 n)
  show r.foldl max (max 0 n) = _
  omega
theorem mxN_snoc (r : List Nat) (n : Nat) : mxN (r ++ [n]) = max (mxN r) n := by
  unfold mxN
  rw [List.foldl_append]
  rfl
theorem dpt_flat {os qs : List Str} : ∀ Ws : List (List Str), (∀ W ∈ Ws, bal os qs W 0 = some 0) → dpt os qs Ws.flatten = mxN (Ws.map (dpt os qs))
  | [], _ => rfl
  | W :: r, h => by
    rw [List.flatten_cons, dpt_app (h W (List.mem_cons_self ..)) (bal_flat r fun W hW => h W (List.mem_cons_of_mem _ hW)), dpt_flat r fun W hW => h W (List.mem_cons_of_mem _ hW), List.map_cons, mxN_cons]
theorem mxN_rep (n : Nat) : ∀ k, mxN (List.replicate k n) = if k = 0 then 0 else n
  | 0 => rfl
  | k + 1 => by
    rw [List.replicate_succ, mxN_cons, mxN_rep n k, if_neg (Nat.succ_ne_zero k)]
    split <;> omega
theorem dpt_again {os qs W : List Str} (h : bal os qs W 0 = some 0) (k : Nat) : dpt os qs (List.replicate k W).flatten = if k = 0 then 0 else dpt os qs W := by
  rw [dpt_flat _ fun X hX => by rw [List.eq_of_mem_replicate hX]; exact h, List.map_replicate, mxN_rep]
theorem dpt_wrap1 {os ps qs : List Str} (hS : Sht os ps qs) {a c : Str} (ha : a ∈ os) (hc : c ∈ qs) {G : List Str} (hb : bal os qs G 0 = some 0) : dpt os qs ([a] ++ G ++ [c]) = 1 + dpt os qs G := by
  unfold dpt
  rw [List.foldl_append, List.foldl_append]
  have e1 : [a].foldl (stp os qs) (0, 0) = (1, 1) := by
    show stp os qs (0, 0) a = _
    unfold stp
    rw [kd_op.mpr ha]
    rfl
  rw [e1, fold_bal hb (Nat.le_refl 1)]
  show (stp os qs (1, max 1 (1 + dpt os qs G)) c).2 = _
  unfold stp
  rw [(kd_cl hS).mpr hc]
  show max 1 (1 + dpt os qs G) = 1 + dpt os qs G
  omega
theorem dpt_wrap {os ps qs : List Str} (hS : Sht os ps qs) {a c : Str} (ha : a ∈ os) (hc : c ∈ qs) {G : List Str} (hb : bal os qs G 0 = some 0) : ∀ k, dpt os qs (List.replicate k a ++ G ++ List.replicate k c) = k + dpt os qs G
  | 0 => by
    rw [List.replicate_zero, List.replicate_zero, List.append_nil, List.nil_append]
    omega
  | k + 1 => by
    rw [wrap_succ, dpt_wrap1 hS ha hc (bal_wrap hS ha hc hb k), dpt_wrap hS ha hc hb k]
    omega
theorem count_flat (x : Str) : ∀ Ws : List (List Str), Ws.flatten.count x = (Ws.map (List.count x)).sum
  | [] => rfl
  | W :: r => by rw [List.flatten_cons, List.count_append, count_flat x r, List.map_cons, List.sum_cons]
theorem count_again (x : Str) (k : Nat) (W : List Str) : (List.replicate k W).flatten.count x = k * W.count x := by
  rw [count_flat, List.map_replicate, List.sum_replicate_nat]
theorem count_rep (x a : Str) : ∀ k : Nat, (List.replicate k a).count x = k * (if a = x then 1 else 0)
  | 0 => by simp
  | k + 1 => by
    rw [List.replicate_succ, List.count_cons, count_rep x a k, Nat.succ_mul]
    by_cases h : a = x
    · rw [if_pos h, if_pos (beq_iff_eq.mpr h)]
    · rw [if_neg h, if_neg (fun z => h (beq_iff_eq.mp z))]
theorem count_wrap (x a c : Str) (k : Nat) (W : List Str) : (List.replicate k a ++ W ++ List.replicate k c).count x = k * ([a, c].count x) + W.count x := by
  rw [List.count_append, List.count_append, count_rep, count_rep, List.count_cons, List.count_cons, List.count_nil, Nat.zero_add, Nat.mul_add]
  have e : ∀ y : Str, (if (y == x) = true then 1 else 0) = if y = x then 1 else 0 := fun y => by
    by_cases h : y = x
    · rw [if_pos h, if_pos (beq_iff_eq.mpr h)]
    · rw [if_neg h, if_neg (fun z => h (beq_iff_eq.mp z))]
  rw [e a, e c]
  omega
theorem count_le_len (x : Str) (W : List Str) : W.count x ≤ W.length := List.count_le_length
theorem dpt_le {os qs : List Str} : ∀ (W : List Str) (w d : Nat), (W.foldl (stp os qs) (w, d)).2 ≤ max d (w + W.length)
  | [], w, d => by show d ≤ _; omega
  | x :: r, w, d => by
    rw [List.foldl_cons]
    cases hk : kdOf os qs x with
    | op =>
      have := dpt_le (os := os) (qs := qs) r (w + 1) (max d (w + 1))
      rw [List.length_cons, stp_op hk]
      omega
    | pl =>
      have := dpt_le (os := os) (qs := qs) r w d
      rw [List.length_cons, stp_pl hk]
      omega
    | cl =>
      have := dpt_le (os := os) (qs := qs) r (w - 1) d
      rw [List.length_cons, stp_cl hk]
      omega
theorem dpt_len (os qs W : List Str) : dpt os qs W ≤ W.length := by
  have := dpt_le (os := os) (qs := qs) W 0 0
  unfold dpt
  omega
end Eh
set_option Elab.async false
set_option linter.all false
set_option maxRecDepth 100000
set_option maxHeartbeats 4000000
namespace Eh
open PySem PySem.Spec PyProof.Rows L2 Evl
def ordKV : List Str → Nat → List (Key × V)
  | [], _ => []
  | x :: r, n => (.inr x, .int (n : Int)) :: ordKV r (n + 1)
theorem ordKV_app : ∀ (a b : List Str) (n : Nat), ordKV (a ++ b) n = ordKV a n ++ ordKV b (n + a.length)
  | [], b, n => rfl
  | x :: r, b, n => by
    show (.inr x, .int (n : Int)) :: ordKV (r ++ b) (n + 1) = (.inr x, .int (n : Int)) :: (ordKV r (n + 1) ++ ordKV b (n + (r.length + 1)))
    rw [ordKV_app r b (n + 1), show n + 1 + r.length = n + (r.length + 1) by omega]
theorem ordKV_len : ∀ (a : List Str) (n : Nat), (ordKV a n).length = a.length
  | [], n => rfl
  | x :: r, n => by
    show (ordKV r (n + 1)).length + 1 = r.length + 1
    rw [ordKV_len r (n + 1)]
theorem ordKV_none : ∀ (a : List Str) (n : Nat) (x : Str), ¬ x ∈ a → valV (ordKV a n) (.inr x) = none
  | [], n, x, _ => rfl
  | y :: r, n, x, h => by
    have h1 : ¬ y = x := fun e => h (by rw [e]; exact List.mem_cons_self ..)
    have h2 : ¬ x ∈ r := fun e => h (List.mem_cons_of_mem _ e)
    show valV ((Sum.inr y, V.int (n : Int)) :: ordKV r (n + 1)) (.inr x) = none
    rw [valV_neg (fun e => h1 (Sum.inr.inj e))]
    exact ordKV_none r (n + 1) x h2
theorem ordKV_some : ∀ (a : List Str) (n : Nat) (x : Str), x ∈ a → valV (ordKV a n) (.inr x) = some (.int ((n + a.idxOf x : Nat) : Int))
  | [], n, x, h => (List.not_mem_nil h).elim
  | y :: r, n, x, h => by
    show valV ((Sum.inr y, V.int (n : Int)) :: ordKV r (n + 1)) (.inr x) = _
    by_cases e : y = x
    · subst e
      rw [valV_pos (by rfl), List.idxOf_cons_self]
      rfl
    · rw [valV_neg (fun z => e (Sum.inr.inj z)), ordKV_some r (n + 1) x ((List.mem_cons.mp h).resolve_left fun z => e z.symm), List.idxOf_cons, show (y == x) = false from beq_false_of_ne e]
      show some (V.int ((n + 1 + r.idxOf x : Nat) : Int)) = some (V.int ((n + (r.idxOf x + 1) : Nat) : Int))
      rw [show n + 1 + r.idxOf x = n + (r.idxOf x + 1) by omega]
/-- one tuple behind the other, the first with something in it -/
theorem cat_rd {K : PySem.W.Frag} {a b : Addr} {xs ys : List V} {H : Hp} {Q : VK} (h1 : SqT K H a xs) (h2 : SqT K H b ys) (n0 : xs ≠ []) (hz : xs.length + ys.length ≤ 1000) (q : ∀ p H', Ex H H' → SqT K H' p (xs ++ ys) → Q (.ref p) H') : rCatT K (.ref a) (.ref b) H Q :=
  ⟨a, b, xs, ys, rfl, rfl, h1, h2, n0, sz_of (by omega), fun e => q a H (Ex.refl H) (by rw [e, List.append_nil]; exact h1), fun _ p np => q p _ (Ex.new np) (st_of upd_same)⟩
/-- {.. for i, x in enumerate(tuple)} -/
theorem dc_enumT {K : PySem.W.Frag} {a : Addr} {xs : List V} {tt : TT} {tk tv : TE} {σ : L2.St} {H1 : Hp} {Dd : Addr} {Qd : Hp → Prop} {i1 i2 : Nat} {vs : List Nat} (Pv : Nat → Hp → Prop) (h0 : Pv 0 (upd H1 Dd (.dK []))) (hl : ∀ i H, i ≤ xs.length → Pv i H → SqT K H a xs)
    (hs : ∀ i x H T, xs[i]? = some x → Pv i H → H T = none → wipe (((wipe σ vs).set i1 (some (.int (i : Nat)))).set i2 (some x)) vs = wipe σ vs ∧ tt (((wipe σ vs).set i1 (some (.int (i : Nat)))).set i2 (some x)) (upd H T (.tup [.int (i : Nat), x])) fun b H3 => if b = true then tk (((wipe σ vs).set i1 (some (.int (i : Nat)))).set i2 (some x)) H3 fun y H4 => tv (((wipe σ vs).set i1 (some (.int (i : Nat)))).set i2 (some x)) H4 fun z H5 => ∃ kvs k, y = kV k ∧ H5 Dd = some (.dK kvs) ∧ kvs.length < sizeLine ∧ Pv (i + 1) (upd H5 Dd (.dK (putK kvs k z))) else Pv (i + 1) H3)
    (hd : ∀ H, Pv xs.length H → Qd H) :
    ∃ W : Nat → Nat → Hp → Prop, (∃ m, W 0 m (upd H1 Dd (.dK []))) ∧ ∀ i m H, W i m H → ((IteT K a).stop i H ∧ Qd H) ∨ ((IteT K a).go i H ∧ ∃ Nx : Hp → Prop, (∀ H', Nx H' → ∃ m', m' < m ∧ W (i + 1) m' H') ∧ ∀ x H', (IteT K a).yld i H x H' → gTup K 2 (gCons (gName i1) (gCons (gName i2) gNil)) x (wipe σ vs) H' fun σ2 H2 => wipe σ2 vs = wipe σ vs ∧ tt σ2 H2 fun b H3 => if b = true then tk σ2 H3 fun y H4 => tv σ2 H4 fun z H5 => ∃ kvs k, y = kV k ∧ H5 Dd = some (.dK kvs) ∧ kvs.length < sizeLine ∧ Nx (upd H5 Dd (.dK (putK kvs k z))) else Nx H3) := by
  refine ⟨fun i m H => m = xs.length - i ∧ i ≤ xs.length ∧ Pv i H, ⟨xs.length, by omega, Nat.zero_le _, h0⟩, ?_⟩
  rintro i m H ⟨rfl, hi, pp⟩
  have sq := hl i H hi pp
  by_cases hlt : i < xs.length
  · refine .inr ⟨⟨xs, xs[i], sq, List.getElem?_eq_getElem hlt⟩, Pv (i + 1), fun H' p' => ⟨xs.length - (i + 1), by omega, rfl, hlt, p'⟩, fun v H' y => ?_⟩
    obtain ⟨T, x, rfl, nT, rfl, f⟩ := y
    exact ⟨T, [.int (i : Nat), x], rfl, st_of upd_same, rfl, _, _, rfl, _, _, rfl, rfl, hs i x H T (f xs sq) pp nT⟩
  · have e : i = xs.length := by omega
    subst e
    exact .inl ⟨⟨xs, sq, rfl⟩, hd H pp⟩
abbrev nOrderOf : List Str := ["sheet", "opens", "plains", "closes", "number", "letter"]
theorem scOrderOf : FnScope nOrderOf ["sheet"] (defScope sOrderOf) := ⟨rfl, rfl, rfl, by decide +kernel, rfl, by decide +kernel, by decide +kernel⟩
theorem scNeedWord : FnScope ["sheet", "word", "order", "place", "letter"] ["sheet", "word"] (defScope sNeedWord) := ⟨rfl, rfl, rfl, by decide +kernel, rfl, by decide +kernel, by decide +kernel⟩
section
variable {P : Program} {w : World} {K : PySem.W.Frag} {mg : Str → Option Value} {base : Heap}
def spOrderOf : Sp := fun vs H Q _ => ∃ (s : Addr) (os ps qs : List Str), vs = [.ref s] ∧ Sht os ps qs ∧ SheetAt H s os ps qs ∧ ∀ d H', Ex H H' → H d = none → H' d = some (.dK (ordKV (os ++ ps ++ qs) 0)) → Q (.ref d) H'
theorem ok_orderOf {f : Addr} {fd : FuncData} {k : Nat} (F : Fun K "order_of" "order_of" sOrderOf f fd) (me : mg "enumerate" = none) : FnOk P w K mg base CX0 (k + 1) f fd ["sheet"] spOrderOf := by
  have nd := scOrderOf.nd
  refine F.ok scOrderOf (fun vs H Q E h => ?_) (fun cdv A outer s H vs Q E hr h => ?_)
  · obtain ⟨s, os, ps, qs, rfl, _⟩ := h
    rfl
  · obtain ⟨s, os, ps, qs, rfl, hS, ⟨ao, ap, ac, h0, h1, h2, h3⟩, q⟩ := h
    refine ⟨_, pss_cons (ps_asg (pv 0) (pg_tup rfl (pgs_cons (pg_name (i := 1) nd rfl (.inl rfl)) (pgs_cons (pg_name (i := 2) nd rfl (.inl rfl)) (pgs_cons (pg_name (i := 3) nd rfl (.inl rfl)) pgs_nil)))))
      (pss_one (ps_ret (pe_dc (own := [("number", 4), ("letter", 5)]) (g := gTup K 2 (gCons (gName 4) (gCons (gName 5) gNil))) (tt := tYes) rfl nd (pi_enumT (by rfl) me (pa_cons (pe_op op_catT (pe_op op_catT (pv 1) (pv 2)) (pv 3)) pa_nil)) (blkOk_by (own := [("number", 4), ("letter", 5)]) (N := nOrderOf) (sc := defScope sOrderOf) (by decide +kernel))
        (fun _ _ _ _ _ => pg_tup rfl (pgs_cons (pg_name (i := 4) nd rfl (.inl rfl)) (pgs_cons (pg_name (i := 5) nd rfl (.inl rfl)) pgs_nil))) (fun _ _ _ _ _ => pts_nil) (fun _ _ _ _ _ => pv 5) (fun _ _ _ _ _ => pv 4)))), ?_⟩
    refine ⟨_, rfl, s, _, rfl, st_of h0, rfl, _, _, rfl, _, _, rfl, _, _, rfl, rfl, ?_⟩
    have on : os.map V.str ≠ [] := fun e => by
      have := hS.o1
      rw [← List.length_map (f := V.str), e] at this
      exact absurd this (by decide)
    have l1 : (os.map V.str).length + (ps.map V.str).length ≤ 1000 := by
      rw [List.length_map, List.length_map]
      have := hS.o4
      have := hS.p4
      omega
    refine ⟨_, rfl, _, rfl, cat_rd (st_of h1) (st_of h2) on l1 fun p1 H1 e1 g1 => ⟨_, rfl, cat_rd g1 (st_of (e1 _ _ h3)) (fun z => on (List.append_eq_nil_iff.mp z).1) ?_ fun p2 H2 e2 g2 => ?_⟩⟩
    · rw [List.length_append, List.length_map, List.length_map, List.length_map]
      have := hS.o4
      have := hS.p4
      have := hS.c4
      omega
    rw [← List.map_append, ← List.map_append] at g2
    generalize hL : os ++ ps ++ qs = L at *
    have hLl : L.length ≤ 12 := by
      rw [← hL, List.length_append, List.length_append]
      have := hS.o4
      have := hS.p4
      have := hS.c4
      omega
    have hLd : L.Nodup := by
      have := hS.nd
      rw [hL] at this
      exact this
    refine ⟨p2, _, rfl, g2, fun Dd nD => dc_enumT (xs := L.map V.str) (fun i H' => Ex H2 H' ∧ H' Dd = some (.dK (ordKV (L.take i) 0))) ⟨Ex.new nD, upd_same⟩ (fun i H' _ hh => ex_t hh.1 g2) ?_ ?_⟩
    · rintro i x H' T hx ⟨eH, hD⟩ nT
      refine ⟨rfl, yesT ?_⟩
      rw [List.getElem?_map] at hx
      obtain ⟨y, hy, rfl⟩ := Option.map_eq_some_iff.mp hx
      have eT : Ex H' (upd H' T (.tup [.int (i : Nat), .str y])) := Ex.new nT
      refine ⟨_, rfl, _, rfl, _, .inr y, rfl, eT _ _ hD, ?_, (eH.trans eT).mut nD, ?_⟩
      · rw [ordKV_len]
        exact sz_lt (by rw [List.length_take]; omega)
      · have hi := (List.getElem?_eq_some_iff.mp hy).1
        rw [upd_same, putK_new _ (ordKV_none _ _ _ ?_), List.take_add_one, hy, ordKV_app, List.length_take, Nat.min_eq_left (by omega), Nat.zero_add]
        · rfl
        · intro hm
          obtain ⟨j, hj, e⟩ := List.mem_take_iff_getElem.mp hm
          have : j = i := (List.getElem_inj hLd).mp (e.trans (List.getElem?_eq_some_iff.mp hy).2.symm)
          omega
    · rintro H' ⟨eH, hD⟩
      rw [List.length_map, List.take_length] at hD
      exact q Dd H' ((e1.trans e2).trans eH) (fresh_back (e1.trans e2) nD) hD
def spNeedWord (K : PySem.W.Frag) : Sp := fun vs H Q _ => ∃ (s l : Addr) (os ps qs ws : List Str), vs = [.ref s, .ref l] ∧ Sht os ps qs ∧ SheetAt H s os ps qs ∧ SqL K H l (ws.map V.str) ∧ (∀ x ∈ ws, x ∈ os ++ ps ++ qs) ∧ ∀ H', Ex H H' → Q .non H'
theorem ok_needWord {f fO : Addr} {fd fdO : FuncData} {k : Nat} (F : Fun K "need_word" "need_word" sNeedWord f fd) (FO : Fun K "order_of" "order_of" sOrderOf fO fdO) (bO : Binds K fdO ["sheet"] []) (gO : mg "order_of" = some (.ref fO)) (me : mg "enumerate" = none) : FnOk P w K mg base CX0 (k + 2) f fd ["sheet", "word"] (spNeedWord K) := by
  have GO : FnOk P w K mg base CX0 (k + 1) fO fdO ["sheet"] spOrderOf := ok_orderOf FO me
  have nd := scNeedWord.nd
  refine F.ok scNeedWord (fun vs H Q E h => ?_) (fun cdv A outer s H vs Q E hr h => ?_)
  · obtain ⟨s, l, os, ps, qs, ws, rfl, _⟩ := h
    rfl
  · obtain ⟨s, l, os, ps, qs, ws, rfl, hS, hs, hl, hw, q⟩ := h
    have hu := hu_of hr
    refine ⟨_, pss_cons (ps_set (i := 2) nd rfl (.inl rfl) (pe_call GO hr (by rfl) gO FO.kp bO .nil pass0 (pa_cons (pv 0) pa_nil)))
      (pss_one (ps_for PassesOwn.never rfl (pi_enum (by rfl) me (pa_cons (pv 1) pa_nil)) (pg_tup rfl (pgs_cons (pg_name (i := 3) nd rfl (.inl rfl)) (pgs_cons (pg_name (i := 4) nd rfl (.inl rfl)) pgs_nil)))
        (pss_one (ps_if (pt_cmp (pc_dnotin hu (pv 4) (pv 2))) (pss_one ps_never) pss_nil)))), ?_⟩
    refine ⟨_, rfl, s, os, ps, qs, rfl, hS, hs, fun d H1 e1 nd1 hd => ?_⟩
    refine ⟨_, rfl, l, _, rfl, ex_l e1 hl, for_enum (xs := ws.map V.str) (fun i σ H' => (∃ y3 y4, σ = [some (.ref s), some (.ref l), some (.ref d), y3, y4]) ∧ Ex H1 H') ⟨⟨_, _, rfl⟩, Ex.refl _⟩ (fun i σ H' _ hh => ex_l (e1.trans hh.2) hl) ?_ ?_⟩
    · rintro i x σ H' T hx ⟨⟨y3, y4, rfl⟩, eH⟩ nT
      rw [List.getElem?_map] at hx
      obtain ⟨y, hy, rfl⟩ := Option.map_eq_some_iff.mp hx
      have eT : Ex H' (upd H' T (.tup [.int (i : Nat), .str y])) := Ex.new nT
      have hin : y ∈ os ++ ps ++ qs := hw y (List.mem_of_getElem? hy)
      refine ⟨_, rfl, _, rfl, d, _, rfl, DGet.k (k := Sum.inr y) (eT _ _ (eH _ _ hd)), ?_⟩
      rw [ordKV_some _ _ _ hin]
      exact ⟨_, rfl, iteF ⟨⟨_, _, rfl⟩, eH.trans eT⟩⟩
    · rintro σ H' ⟨_, eH⟩
      exact q H' (e1.trans eH)
end
end Eh
set_option Elab.async false
set_option linter.all false
set_option maxRecDepth 100000
set_option maxHeartbeats 4000000
namespace Eh
open PySem PySem.Spec PyProof.Rows L2 Evl
abbrev nPartsIn : List Str := ["great"]
theorem scPartsIn : FnScope nPartsIn ["great"] (defScope sPartsIn) := ⟨rfl, rfl, rfl, by decide +kernel, rfl, by decide +kernel, by decide +kernel⟩
abbrev nLengthOf : List Str := ["great", "within", "part"]
theorem scLengthOf : FnScope nLengthOf ["great"] (defScope sLengthOf) := ⟨rfl, rfl, rfl, by decide +kernel, rfl, by decide +kernel, by decide +kernel⟩
theorem ev_tag {K : PySem.W.Frag} {σ : L2.St} {H : Hp} {t : Addr} {s z : Str} {r : List V} (h0 : σ[0]? = some (some (.ref t))) (ht : H t = some (.tup (.str s :: r))) : EvT (tTest (tOp rEq (tOp (rIxT K) (tVar 0) (tC (.int 0))) (tC (.str z)))) σ H (decide (V.str s = .str z)) :=
  et_test (ev_op (ev_op (ev_var h0) ev_c (rv_ixT (st_of ht) (show atI (V.str s :: r) ((0 : Nat) : Int) = some (V.str s) from atI_nat rfl))) ev_c (rv_eq rfl))
theorem ev_it {K : PySem.W.Frag} {σ : L2.St} {H : Hp} {t : Addr} {xs : List V} {i : Nat} {v : V} (h0 : σ[0]? = some (some (.ref t))) (ht : H t = some (.tup xs)) (hv : xs[i]? = some v) : Ev (tOp (rIxT K) (tVar 0) (tC (.int (i : Int)))) σ H v :=
  ev_op (ev_var h0) ev_c (rv_ixT (st_of ht) (atI_nat hv))
/-- what parts_in tells -/
def spParts (os ls qs : List Str) : Sp := fun vs H Q _ => ∃ (R : V → List Str → Prop) (t : Addr) (xs ps : List V) (Ws : List (List Str)) (W : List Str), vs = [.ref t] ∧ H t = some (.tup xs) ∧ GS os ls qs H R xs ps Ws W ∧ RetL ps H Q
def spLen (os ls qs : List Str) (n : Nat) : Sp := fun vs H Q _ => ∃ (v : V) (W : List Str), vs = [v] ∧ GAt os ls qs H n v W ∧ n ≤ 20 ∧ RetV (.int (W.length : Int)) H Q
theorem sumsI (Ws : List (List Str)) : (Ws.map fun W => (W.length : Int)).sum = ((Ws.map List.length).sum : Nat) := by
  induction Ws with
  | nil => rfl
  | cons x r ih =>
    rw [List.map_cons, List.map_cons, List.sum_cons, List.sum_cons, ih]
    omega
theorem range_get (Ws : List (List Str)) (g : List Str → V) : (List.range Ws.length).map (fun i => g (Ws.getD i [])) = Ws.map g := by
  apply List.ext_getElem
  · rw [List.length_map, List.length_range, List.length_map]
  · intro i h1 h2
    rw [List.length_map] at h2
    rw [List.getElem_map, List.getElem_range, List.getElem_map, List.getD_eq_getElem?_getD, List.getElem?_eq_getElem h2]
    rfl
section
variable {P : Program} {w : World} {K : PySem.W.Frag} {mg : Str → Option Value} {base : Heap} {os ls qs : List Str}
theorem ok_partsIn {f : Addr} {fd : FuncData} {k : Nat} (F : Fun K "parts_in" "parts_in" sPartsIn f fd) (mlist : mg "list" = none) : FnOk P w K mg base CX0 (k + 1) f fd ["great"] (spParts os ls qs) := by
  have nd := scPartsIn.nd
  refine F.ok scPartsIn (fun vs H Q E h => ?_) (fun cdv A outer s H vs Q E hr h => ?_)
  · obtain ⟨R, t, xs, ps, Ws, W, rfl, _⟩ := h
    rfl
  · obtain ⟨R, t, xs, ps, Ws, W, rfl, ht, hg, q⟩ := h
    refine ⟨_, (pss_cons (ps_if (pt_cmpR op_eq (pe_ix ix_tup (pv 0) pe_int (fun _ _ => rfl)) pe_str (nomark _)) (pss_one (ps_ret (pe_lst pa_nil))) pss_nil)
      (pss_cons (ps_if (pt_cmpR op_eq (pe_ix ix_tup (pv 0) pe_int (fun _ _ => rfl)) pe_str (nomark _)) (pss_one (ps_ret (pe_callTy call_list_of (by rfl) mlist (by decide +kernel) (pa_cons (pe_ix ix_tup (pv 0) pe_int (fun _ _ => rfl)) pa_nil)))) pss_nil)
      (pss_one (ps_ret (pe_ifExp (pt_cmpR op_eq (pe_ix ix_tup (pv 0) pe_int (fun _ _ => rfl)) pe_str (nomark _)) (pe_lst (pa_cons (pe_ix ix_tup (pv 0) pe_int (fun _ _ => rfl)) pa_nil)) (pe_lst (pa_cons (pe_ix ix_tup (pv 0) pe_int (fun _ _ => rfl)) pa_nil))))))), ?_⟩
    cases hg with
    | word hu hl hm hb => exact q_when (ev_tag rfl ht) (fun _ H1 e1 => s_retL (el_lst ea_nil (by decide)) fun p H2 hp e2 h2 => q.go e1 hp e2 h2) (fun h => absurd h (by decide))
    | row hu hr hl =>
      refine q_when (ev_tag rfl ht) (fun h => absurd h (by decide)) fun _ H1 e1 => q_when (ev_tag rfl (e1 _ _ ht)) (fun _ H2 e2 => ?_) (fun h => absurd h (by decide))
      have e12 := e1.trans e2
      refine ev_it (i := 1) rfl (e12 _ _ ht) rfl H2 (Ex.refl _) _ fun H3 e3 => ⟨_, ps, rfl, .inr (st_of (e3 _ _ (e12 _ _ hu))), fun l nl => q.go (e12.trans e3) nl (Ex.new nl) upd_same⟩
    | again hk hr =>
      refine q_when (ev_tag rfl ht) (fun h => absurd h (by decide)) fun _ H1 e1 => q_when (ev_tag rfl (e1 _ _ ht)) (fun h => absurd h (by decide)) fun _ H2 e2 => ?_
      have e12 := e1.trans e2
      refine ev_tag rfl (e12 _ _ ht) H2 (Ex.refl _) _ fun H3 e3 => iteT (el_lst (ea_cons (ev_it (i := 2) rfl (e12 _ _ ht) rfl) ea_nil) (by show 1 ≤ 100000; decide) H3 e3 _ fun p H4 hp e4 h4 => q.go (e12.trans e3) hp e4 h4)
    | wrap hk ha hc hr =>
      refine q_when (ev_tag rfl ht) (fun h => absurd h (by decide)) fun _ H1 e1 => q_when (ev_tag rfl (e1 _ _ ht)) (fun h => absurd h (by decide)) fun _ H2 e2 => ?_
      have e12 := e1.trans e2
      refine ev_tag rfl (e12 _ _ ht) H2 (Ex.refl _) _ fun H3 e3 => iteF (el_lst (ea_cons (ev_it (i := 3) rfl (e12 _ _ ht) rfl) ea_nil) (by show 1 ≤ 100000; decide) H3 e3 _ fun p H4 hp e4 h4 => q.go (e12.trans e3) hp e4 h4)
/-- the parts as told -/
theorem el_parts {σ : L2.St} {H : Hp} {t : Addr} {xs ps : List V} {Ws : List (List Str)} {W : List Str} {R : V → List Str → Prop} (kr : ∀ H', Ex H H' → GS os ls qs H' R xs ps Ws W) (h0 : σ[0]? = some (some (.ref t))) (ht : H t = some (.tup xs)) : EvL (tCall (spParts os ls qs) [] E0 (tCons (tVar 0) tNil)) σ H ps :=
  el_call (ea_cons (ev_var h0) ea_nil) fun H1 e1 Q q E => ⟨R, t, xs, ps, Ws, W, rfl, e1 _ _ ht, kr H1 e1, fun p H2 hp e2 h2 => q p H2 hp e2 h2⟩
theorem GS.ofR {n : Nat} {H : Hp} {xs ps : List V} {Ws : List (List Str)} {W : List Str} (hg : GS os ls qs H (GAt os ls qs H n) xs ps Ws W) : ∀ H', Ex H H' → GS os ls qs H' (GAt os ls qs H n) xs ps Ws W := fun H' e => hg.keep (Kt.ex e) fun _ _ z => z
theorem ev_within {n : Nat} {σ : L2.St} {H : Hp} {t : Addr} {xs ps : List V} {Ws : List (List Str)} {W : List Str} (hn : n ≤ 20) (h0 : σ[0]? = some (some (.ref t))) (hs : σ.length = 3) (ht : H t = some (.tup xs)) (hg : GS os ls qs H (GAt os ls qs H n) xs ps Ws W) :
    Ev (tCB (rSum K) (tCons (tLc (iList K (tCall (spParts os ls qs) [] E0 (tCons (tVar 0) tNil))) (gName 2) tYes (tCall (spLen os ls qs n) [] E0 (tCons (tVar 2) tNil)) [2]) tNil)) σ H (.int ((Ws.map List.length).sum : Nat)) := by
  obtain ⟨hp, h8⟩ := hg.parts
  have hl := All2.len _ _ hp
  have hx : ∀ x : V, wipe ((wipe σ [2]).set 2 (some x)) [2] = wipe σ [2] := fun x => by
    obtain ⟨a, b, c, rfl⟩ : ∃ a b c, σ = [a, b, c] := by
      match σ, hs with
      | [a, b, c], _ => exact ⟨a, b, c, rfl⟩
    rfl
  have h2 : ∀ x : V, ((wipe σ [2]).set 2 (some x))[2]? = some (some x) := fun x => by
    obtain ⟨a, b, c, rfl⟩ : ∃ a b c, σ = [a, b, c] := by
      match σ, hs with
      | [a, b, c], _ => exact ⟨a, b, c, rfl⟩
    rfl
  have key := el_lcNL (K := K) (t := tYes) (te := tCall (spLen os ls qs n) [] E0 (tCons (tVar 2) tNil)) (j := 2) (vs := [2]) (fun _ => true) (fun i => .int ((Ws.getD i []).length : Int)) (el_parts hg.ofR h0 ht) (by omega) hx (fun i x H1 e1 hi => ev_yes) (fun i x H1 e1 hi _ => ?_)
  · have := ev_sumN (K := K) (ns := Ws.map fun W => (W.length : Int)) key (by rw [given_true, hl, range_get Ws fun W => V.int (W.length : Int), List.map_map]; rfl)
    rw [sumsI] at this
    exact this
  · obtain ⟨W', hW, hR⟩ := All2.at _ _ hp i x hi
    refine ev_call (ea_cons (ev_var (h2 x)) ea_nil) fun H2 e2 Q q E => ⟨x, W', rfl, hR.ex (e1.trans e2), hn, fun H3 e3 => ?_⟩
    have e : Ws.getD i [] = W' := by rw [List.getD_eq_getElem?_getD, hW]; rfl
    have := q H3 e3
    rw [e] at this
    exact this
theorem log_of {i : Nat} {a : Nat} (h : i < 2 ^ a) (h0 : 0 < a) : (i : Int).natAbs.log2 < a := PySem.Flt.log2_lt_of h0 (by rw [Int.natAbs_natCast]; exact h)
theorem mulW_of {i j n : Nat} (hi : i < 2 ^ 200) (hj : j < 2 ^ (300 * n)) (hn : n ≤ 20) : CMulW (i : Int) (j : Int) := by
  have h1 := log_of hi (by decide)
  have h2 : (j : Int).natAbs.log2 < 300 * n + 1 := log_of (Nat.lt_of_lt_of_le hj (Nat.pow_le_pow_right (by decide) (by omega))) (by omega)
  unfold CMulW
  omega
theorem ok_lengthOf {f fp : Addr} {fd fdp : FuncData} (Flength_of : Fun K "length_of" "length_of" sLengthOf f fd) (blength_of : Binds K fd ["great"] []) (glength_of : mg "length_of" = some (.ref f)) (Fparts_in : Fun K "parts_in" "parts_in" sPartsIn fp fdp) (bparts_in : Binds K fdp ["great"] []) (gparts_in : mg "parts_in" = some (.ref fp)) (mlist : mg "list" = none) (mlen : mg "len" = none) (msum : mg "sum" = none) : ∀ (n k : Nat), FnOk P w K mg base CX0 (k + n + 1) f fd ["great"] (spLen os ls qs n)
  | 0, k => fn_no fun vs H Q E ⟨_, _, _, h, _⟩ => h
  | n + 1, k => by
    have nd := scLengthOf.nd
    have Glength_of : FnOk P w K mg base CX0 (k + n + 1) f fd ["great"] (spLen os ls qs n) := ok_lengthOf Flength_of blength_of glength_of Fparts_in bparts_in gparts_in mlist mlen msum n k
    have Gparts_in : FnOk P w K mg base CX0 (k + n + 1) fp fdp ["great"] (spParts os ls qs) := ok_partsIn Fparts_in mlist
    refine Flength_of.ok scLengthOf (fun vs H Q E h => ?_) (fun cdv A outer s H vs Q E hr h => ?_)
    · obtain ⟨v, W, rfl, _⟩ := h
      rfl
    · obtain ⟨v, W, rfl, hG, hn, q⟩ := h
      refine ⟨_, (pss_cons (ps_if (pt_cmpR op_eq (pe_ix ix_tup (pv 0) pe_int (fun _ _ => rfl)) pe_str (nomark _)) (pss_one (ps_ret (pe_callB call_len_seq (by rfl) mlen PySem.boot_len (pa_cons (pe_ix ix_tup (pv 0) pe_int (fun _ _ => rfl)) pa_nil)))) pss_nil)
      (pss_cons (ps_set (i := 1) nd rfl (.inl rfl) (pe_callB (cr_sum rfl) (by rfl) msum (by decide +kernel) (pa_cons (pe_lc (own := [("part", 2)]) (g := gName 2) (tt := tYes) (te := (tCall (spLen os ls qs n) [] E0 (tCons (tVar 2) tNil))) rfl nd (pi_list (pe_call Gparts_in hr (by rfl) gparts_in Fparts_in.kp bparts_in .nil pass0 (pa_cons (pv 0) pa_nil))) (blkOk_by (own := [("part", 2)]) (N := nLengthOf) (sc := defScope sLengthOf) (by decide +kernel)) (fun _ _ _ _ _ => pg_name (i := 2) nd rfl (.inl rfl)) (fun _ _ _ _ _ => pts_nil) (fun _ _ _ _ _ => (pe_call Glength_of hr (by rfl) glength_of Flength_of.kp blength_of .nil pass0 (pa_cons (pv 2) pa_nil)))) pa_nil)))
      (pss_cons (ps_if (pt_cmpR op_eq (pe_ix ix_tup (pv 0) pe_int (fun _ _ => rfl)) pe_str (nomark _)) (pss_one (ps_ret (pe_op op_mulW (pe_ix ix_tup (pv 0) pe_int (fun _ _ => rfl)) (pv 1)))) pss_nil)
      (pss_cons (ps_if (pt_cmpR op_eq (pe_ix ix_tup (pv 0) pe_int (fun _ _ => rfl)) pe_str (nomark _)) (pss_one (ps_ret (pe_op op_add (pe_op op_mulW pe_int (pe_ix ix_tup (pv 0) pe_int (fun _ _ => rfl))) (pv 1)))) pss_nil)
      (pss_one (ps_ret (pv 1))))))), ?_⟩
      obtain ⟨t, xs, ps, Ws, rfl, ht, hg⟩ := hG
      have mid : ∀ {s : Str} {r : List V} (H1 : Hp), xs = .str s :: r → Ex H H1 → _ := fun {s r} H1 hx e1 => ev_within (K := K) (σ := [some (.ref t), none, none]) (show n ≤ 20 by omega) rfl rfl (e1 _ _ ht) (hg.keep (R' := GAt os ls qs H1 n) (Kt.ex e1) fun v W z => z.ex e1)
      cases hg with
      | word hu hl hm hb =>
        refine q_when (ev_tag rfl ht) (fun _ H1 e1 => ?_) (fun h => absurd h (by decide))
        refine ev_it (i := 1) rfl (e1 _ _ ht) rfl H1 (Ex.refl _) _ fun H2 e2 => ⟨_, _, rfl, .inr ((hu.ex e1).ex e2).st, ?_⟩
        rw [List.length_map]
        exact q.go (e1.trans e2)
      | row hu hr hl =>
        refine q_when (ev_tag rfl ht) (fun h => absurd h (by decide)) fun _ H1 e1 => q_asg (mid H1 rfl e1) fun H2 e2 => ?_
        have e12 := e1.trans e2
        refine q_when (ev_tag rfl (e12 _ _ ht)) (fun h => absurd h (by decide)) fun _ H3 e3 => q_when (ev_tag rfl ((e12.trans e3) _ _ ht)) (fun h => absurd h (by decide)) fun _ H4 e4 => s_ret (ev_var rfl) fun H5 e5 => ?_
        rw [← flat_len]
        exact q.go (((e12.trans e3).trans e4).trans e5)
      | again hk hr =>
        rename_i k' p W
        refine q_when (ev_tag rfl ht) (fun h => absurd h (by decide)) fun _ H1 e1 => q_asg (mid H1 rfl e1) fun H2 e2 => ?_
        have e12 := e1.trans e2
        refine q_when (ev_tag rfl (e12 _ _ ht)) (fun _ H3 e3 => ?_) (fun h => absurd h (by decide))
        refine s_ret (ev_op (ev_it (i := 1) rfl ((e12.trans e3) _ _ ht) rfl) (ev_var rfl) (rv_I (mulW_of hk ?_ (show n ≤ 20 by omega)))) fun H4 e4 => ?_
        · show W.length + 0 < _
          exact GAt.bits _ _ _ hr
        · have e : ((k' : Int) * (((([W] : List (List Str)).map List.length).sum : Nat) : Int)) = ((List.replicate k' W).flatten.length : Nat) := by
            rw [rep_len, Int.natCast_mul]
            rfl
          show Q (.int ((k' : Int) * (((([W] : List (List Str)).map List.length).sum : Nat) : Int))) H4
          rw [e]
          exact q.go ((e12.trans e3).trans e4)
      | wrap hk ha hc hr =>
        rename_i k' a c p W
        refine q_when (ev_tag rfl ht) (fun h => absurd h (by decide)) fun _ H1 e1 => q_asg (mid H1 rfl e1) fun H2 e2 => ?_
        have e12 := e1.trans e2
        refine q_when (ev_tag rfl (e12 _ _ ht)) (fun h => absurd h (by decide)) fun _ H3 e3 => ?_
        have e13 := e12.trans e3
        refine q_when (ev_tag rfl (e13 _ _ ht)) (fun _ H4 e4 => ?_) (fun h => absurd h (by decide))
        refine s_ret (ev_op (ev_op ev_c (ev_it (i := 1) rfl ((e13.trans e4) _ _ ht) rfl) (rv_I (mulW_of (i := 2) (n := 1) (by decide) (Nat.lt_trans hk (Nat.pow_lt_pow_right (by decide) (by decide))) (by decide)))) (ev_var rfl) rv_I0) fun H5 e5 => ?_
        have e : (2 * (k' : Int) + (((([W] : List (List Str)).map List.length).sum : Nat) : Int)) = ((List.replicate k' a ++ W ++ List.replicate k' c).length : Nat) := by
          rw [List.length_append, List.length_append, List.length_replicate, List.length_replicate]
          show 2 * (k' : Int) + ((W.length + 0 : Nat) : Int) = _
          omega
        show Q (.int (2 * (k' : Int) + (((([W] : List (List Str)).map List.length).sum : Nat) : Int))) H5
        rw [e]
        exact q.go ((e13.trans e4).trans e5)
end
end Eh
set_option Elab.async false
set_option linter.all false
set_option maxRecDepth 100000
set_option maxHeartbeats 4000000
namespace Eh
open PySem PySem.Spec PyProof.Rows L2 Evl
abbrev nSize : List Str := ["great", "part"]
theorem scSize : FnScope nSize ["great"] (defScope sSize) := ⟨rfl, rfl, rfl, by decide +kernel, rfl, by decide +kernel, by decide +kernel⟩
abbrev nLawWrite : List Str := ["great", "found", "part", "inner"]
theorem scLawWrite : FnScope nLawWrite ["great"] (defScope sLawWrite) := ⟨rfl, rfl, rfl, by decide +kernel, rfl, by decide +kernel, by decide +kernel⟩
theorem flat_le {Ws : List (List Str)} {W : List Str} (h : W ∈ Ws) : W.length ≤ Ws.flatten.length := by
  rw [flat_len]
  induction Ws with
  | nil => exact (List.not_mem_nil h).elim
  | cons x r ih =>
    rw [List.map_cons, List.sum_cons]
    rcases List.mem_cons.mp h with e | e
    · rw [e]; omega
    · have := ih e; omega
/-- each part of what isn't empty is no longer -/
theorem GS.le {os ls qs : List Str} {H : Hp} {R : V → List Str → Prop} {xs ps : List V} {Ws : List (List Str)} {W : List Str} (h : GS os ls qs H R xs ps Ws W) (h0 : W.length ≠ 0) : Ws.flatten.length ≤ W.length := by
  cases h with
  | word => exact Nat.zero_le _
  | row hu hr hl => exact Nat.le_refl _
  | again hk hr =>
    rename_i k p W
    rw [rep_len] at h0 ⊢
    rw [show [W].flatten = W by simp]
    have : k ≠ 0 := fun z => h0 (by rw [z, Nat.zero_mul])
    have := Nat.mul_le_mul_right W.length (show 1 ≤ k by omega)
    omega
  | wrap hk ha hc hr =>
    rename_i k a c p W
    rw [show [W].flatten = W by simp, List.length_append, List.length_append]
    omega
theorem k63 {k : Nat} (h : k < 2 ^ 60) : (k : Int) < 2 ^ 63 := by
  have : (2 : Nat) ^ 60 = 1152921504606846976 := by decide
  omega
theorem rep_V (k : Nat) (W : List Str) : (List.replicate k (W.map V.str)).flatten = (List.replicate k W).flatten.map V.str := by
  rw [List.map_flatten, List.map_replicate]
theorem rep_1 (k : Nat) (a : Str) : (List.replicate k [V.str a]).flatten = (List.replicate k a).map V.str := by
  rw [flat_rep, List.map_replicate]
theorem decN {s z : Nat} : decide (V.int (s : Int) = V.int (z : Int)) = decide (s = z) := by
  by_cases e : s = z
  · rw [e, decide_eq_true rfl, decide_eq_true rfl]
  · rw [decide_eq_false e, decide_eq_false (fun h => e (by have := V.int.inj h; omega))]
theorem tk_succ {Ws : List (List Str)} {i : Nat} {W : List Str} (h : Ws[i]? = some W) : (Ws.take (i + 1)).flatten = (Ws.take i).flatten ++ W := by
  rw [List.take_add_one, h, List.flatten_append]
  show _ ++ (W ++ []) = _
  rw [List.append_nil]
theorem tk_le (Ws : List (List Str)) (i : Nat) : (Ws.take i).flatten.length ≤ Ws.flatten.length := by
  conv => rhs; rw [← List.take_append_drop i Ws, List.flatten_append, List.length_append]
  omega
section
variable {P : Program} {w : World} {K : PySem.W.Frag} {mg : Str → Option Value} {base : Heap} {os ls qs : List Str}
/-- a * k .. of lists of texts, and what wraps them -/
theorem el_rep {σ : L2.St} {H : Hp} {ta tb : TE} {xs : List V} {k : Nat} (ha : EvL ta σ H xs) (hb : Ev tb σ H (.int (k : Int))) (hk : xs.length * k ≤ 10000) (hk2 : k < 2 ^ 60) : EvL (tOp rRep ta tb) σ H (List.replicate k xs).flatten := fun H1 e Q q =>
  ha H1 e _ fun p H2 hp e2 h2 => hb H2 (e.trans e2) _ fun H3 e3 => ⟨p, (k : Int), xs, rfl, rfl, e3 _ _ h2, by omega, k63 hk2, sz_of (by rw [Int.toNat_natCast]; omega), fun r nr => q r _ (fresh_back (e2.trans e3) nr) ((e2.trans e3).trans (Ex.new nr)) (by rw [upd_same, Int.toNat_natCast])⟩
theorem el_repV {σ : L2.St} {H : Hp} {ta tb : TE} {xs : List V} {l : Addr} {k : Nat} (ha : Ev ta σ H (.ref l)) (hl : H l = some (.lst xs)) (hb : Ev tb σ H (.int (k : Int))) (hk : xs.length * k ≤ 10000) (hk2 : k < 2 ^ 60) : EvL (tOp rRep ta tb) σ H (List.replicate k xs).flatten := fun H1 e Q q =>
  ha H1 e _ fun H2 e2 => hb H2 (e.trans e2) _ fun H3 e3 => ⟨l, (k : Int), xs, rfl, rfl, e3 _ _ (e2 _ _ (e _ _ hl)), by omega, k63 hk2, sz_of (by rw [Int.toNat_natCast]; omega), fun r nr => q r _ (fresh_back (e2.trans e3) nr) ((e2.trans e3).trans (Ex.new nr)) (by rw [upd_same, Int.toNat_natCast])⟩
theorem el_cat {σ : L2.St} {H : Hp} {ta tb : TE} {xs ys : List V} (ha : EvL ta σ H xs) (hb : EvL tb σ H ys) (hk : xs.length + ys.length ≤ 10000) : EvL (tOp rCat ta tb) σ H (xs ++ ys) := fun H1 e Q q =>
  ha H1 e _ fun p H2 hp e2 h2 => hb H2 (e.trans e2) _ fun r H3 hr e3 h3 => ⟨p, r, xs, ys, rfl, rfl, e3 _ _ h2, h3, sz_of (by omega), fun z nz => q z _ (fresh_back (e2.trans e3) nz) ((e2.trans e3).trans (Ex.new nz)) upd_same⟩
theorem el_catV {σ : L2.St} {H : Hp} {ta tb : TE} {xs ys : List V} {l : Addr} (ha : EvL ta σ H xs) (hb : Ev tb σ H (.ref l)) (hl : H l = some (.lst ys)) (hk : xs.length + ys.length ≤ 10000) : EvL (tOp rCat ta tb) σ H (xs ++ ys) := fun H1 e Q q =>
  ha H1 e _ fun p H2 hp e2 h2 => hb H2 (e.trans e2) _ fun H3 e3 => ⟨p, l, xs, ys, rfl, rfl, e3 _ _ h2, e3 _ _ (e2 _ _ (e _ _ hl)), sz_of (by omega), fun z nz => q z _ (fresh_back (e2.trans e3) nz) ((e2.trans e3).trans (Ex.new nz)) upd_same⟩
/-- [a] * k + within + [c] * k -/
theorem el_wrap {σ : L2.St} {H : Hp} {t l : Addr} {j k : Nat} {a c : Str} {p : V} {W : List Str} (h0 : σ[0]? = some (some (.ref t))) (hj : σ[j]? = some (some (.ref l))) (ht : H t = some (.tup [.str "wrap", .int (k : Int), .str a, p, .str c])) (hl : H l = some (.lst (W.map V.str))) (hk : (List.replicate k a ++ W ++ List.replicate k c).length ≤ 400) :
    EvL (tOp rCat (tOp rCat (tOp rRep (tLst (tCons (tOp (rIxT K) (tVar 0) (tC (.int 2))) tNil)) (tOp (rIxT K) (tVar 0) (tC (.int 1)))) (tVar j)) (tOp rRep (tLst (tCons (tOp (rIxT K) (tVar 0) (tC (.int 4))) tNil)) (tOp (rIxT K) (tVar 0) (tC (.int 1))))) σ H ((List.replicate k a ++ W ++ List.replicate k c).map V.str) := by
  rw [List.length_append, List.length_append, List.length_replicate, List.length_replicate] at hk
  have k60 : k < 2 ^ 60 := Nat.lt_of_le_of_lt (show k ≤ 400 by omega) (by decide)
  have h1 : EvL (tOp rRep (tLst (tCons (tOp (rIxT K) (tVar 0) (tC (.int 2))) tNil)) (tOp (rIxT K) (tVar 0) (tC (.int 1)))) σ H ((List.replicate k a).map V.str) := by
    rw [← rep_1]
    exact el_rep (el_lst (ea_cons (ev_it (i := 2) h0 ht rfl) ea_nil) (by show 1 ≤ 100000; decide)) (ev_it (i := 1) h0 ht rfl) (by show 1 * k ≤ 10000; omega) k60
  have h2 : EvL (tOp rRep (tLst (tCons (tOp (rIxT K) (tVar 0) (tC (.int 4))) tNil)) (tOp (rIxT K) (tVar 0) (tC (.int 1)))) σ H ((List.replicate k c).map V.str) := by
    rw [← rep_1]
    exact el_rep (el_lst (ea_cons (ev_it (i := 4) h0 ht rfl) ea_nil) (by show 1 ≤ 100000; decide)) (ev_it (i := 1) h0 ht rfl) (by show 1 * k ≤ 10000; omega) k60
  rw [List.map_append, List.map_append]
  exact el_cat (el_catV h1 (ev_var hj) hl (by rw [List.length_map, List.length_map, List.length_replicate]; omega)) h2 (by rw [List.length_append, List.length_map, List.length_map, List.length_map, List.length_replicate, List.length_replicate]; omega)
end
end Eh
set_option Elab.async false
set_option linter.all false
set_option maxRecDepth 100000
set_option maxHeartbeats 4000000
namespace Eh
open PySem PySem.Spec PyProof.Rows L2 Evl
section
variable {P : Program} {w : World} {K : PySem.W.Frag} {mg : Str → Option Value} {base : Heap} {os ls qs : List Str}
theorem el_lcT {σ : L2.St} {H : Hp} {t : TT} {te : TE} {a : Addr} {xs : List V} {tl : TE} {j : Nat} {vs : List Nat} (f : Nat → Bool) (v : Nat → V) (h : Ev tl σ H (.ref a)) (hx : SqT K H a xs) (hz : xs.length ≤ 40000) (hw : ∀ x, wipe ((wipe σ vs).set j (some x)) vs = wipe σ vs)
    (ht : ∀ (i : Nat) (x : V) H1, Ex H H1 → xs[i]? = some x → EvT t ((wipe σ vs).set j (some x)) H1 (f i)) (he : ∀ (i : Nat) (x : V) H1, Ex H H1 → xs[i]? = some x → f i = true → Ev te ((wipe σ vs).set j (some x)) H1 (v i)) :
    EvL (tLc (iTup K tl) (gName j) t te vs) σ H (given xs.length f v) := fun H0 e Q q => h H0 e _ fun H1 e1 => ⟨a, rfl, ⟨xs, ex_t (e.trans e1) hx⟩, fun Dl hD =>
  lc_tup (xs := xs) (Cw H1 f v Dl) ⟨hD, Ex.new hD, upd_same⟩ (fun i H' _ p => ex_t ((e.trans e1).trans p.2.1) hx) (fun i x H' hi p => ⟨hw x, cw_turn p (by have := (List.getElem?_eq_some_iff.mp hi).1; omega) (ht i x H1 (e.trans e1) hi) (fun hf => he i x H1 (e.trans e1) hi hf)⟩)
    (fun H' p => q Dl H' (fresh_back e1 p.1) (e1.trans p.2.1) p.2.2)⟩
def spSize (os ls qs : List Str) (n : Nat) : Sp := fun vs H Q _ => ∃ (v : V) (W : List Str), vs = [v] ∧ GAt os ls qs H n v W ∧ n ≤ 20 ∧ RetV (.int (W.length : Int)) H Q
theorem ok_size {f : Addr} {fd : FuncData} (Fsize : Fun K "_law_size" "_law_size" sSize f fd) (bsize : Binds K fd ["great"] []) (gsize : mg "_law_size" = some (.ref f)) (mlen : mg "len" = none) (msum : mg "sum" = none) : ∀ (n k : Nat), FnOk P w K mg base CX0 (k + n + 1) f fd ["great"] (spSize os ls qs n)
  | 0, k => fn_no fun vs H Q E ⟨_, _, _, h, _⟩ => h
  | n + 1, k => by
    have nd := scSize.nd
    have Gsize : FnOk P w K mg base CX0 (k + n + 1) f fd ["great"] (spSize os ls qs n) := ok_size Fsize bsize gsize mlen msum n k
    refine Fsize.ok scSize (fun vs H Q E h => ?_) (fun cdv A outer s H vs Q E hr h => ?_)
    · obtain ⟨v, W, rfl, _⟩ := h
      rfl
    · obtain ⟨v, W, rfl, hG, hn, q⟩ := h
      refine ⟨_, (pss_cons (ps_if (pt_cmpR op_eq (pe_ix ix_tup (pv 0) pe_int (fun _ _ => rfl)) pe_str (nomark _)) (pss_one (ps_ret (pe_callB call_len_seq (by rfl) mlen PySem.boot_len (pa_cons (pe_ix ix_tup (pv 0) pe_int (fun _ _ => rfl)) pa_nil)))) pss_nil)
      (pss_cons (ps_if (pt_cmpR op_eq (pe_ix ix_tup (pv 0) pe_int (fun _ _ => rfl)) pe_str (nomark _)) (pss_one (ps_ret (pe_callB (cr_sum rfl) (by rfl) msum (by decide +kernel) (pa_cons (pe_lc (own := [("part", 1)]) (g := gName 1) (tt := tYes) (te := (tCall (spSize os ls qs n) [] E0 (tCons (tVar 1) tNil))) rfl nd (pi_tup (pe_ix ix_tup (pv 0) pe_int (fun _ _ => rfl))) (blkOk_by (own := [("part", 1)]) (N := nSize) (sc := defScope sSize) (by decide +kernel)) (fun _ _ _ _ _ => pg_name (i := 1) nd rfl (.inl rfl)) (fun _ _ _ _ _ => pts_nil) (fun _ _ _ _ _ => (pe_call Gsize hr (by rfl) gsize Fsize.kp bsize .nil pass0 (pa_cons (pv 1) pa_nil)))) pa_nil)))) pss_nil)
      (pss_cons (ps_if (pt_cmpR op_eq (pe_ix ix_tup (pv 0) pe_int (fun _ _ => rfl)) pe_str (nomark _)) (pss_one (ps_ret (pe_op op_mulW (pe_ix ix_tup (pv 0) pe_int (fun _ _ => rfl)) (pe_call Gsize hr (by rfl) gsize Fsize.kp bsize .nil pass0 (pa_cons (pe_ix ix_tup (pv 0) pe_int (fun _ _ => rfl)) pa_nil))))) pss_nil)
      (pss_one (ps_ret (pe_op op_add (pe_op op_add (pe_ix ix_tup (pv 0) pe_int (fun _ _ => rfl)) (pe_call Gsize hr (by rfl) gsize Fsize.kp bsize .nil pass0 (pa_cons (pe_ix ix_tup (pv 0) pe_int (fun _ _ => rfl)) pa_nil))) (pe_ix ix_tup (pv 0) pe_int (fun _ _ => rfl)))))))), ?_⟩
      obtain ⟨t, xs, ps, Ws, rfl, ht, hg⟩ := hG
      have call : ∀ {σ : L2.St} {te : TE} {x : V} {W' : List Str} (H1 : Hp), Ex H H1 → Ev te σ H1 x → GAt os ls qs H n x W' → Ev (tCall (spSize os ls qs n) [] E0 (tCons te tNil)) σ H1 (.int (W'.length : Int)) := fun {σ te x W'} H1 e1 hx hR => ev_call (ea_cons hx ea_nil) fun H2 e2 Q q E => ⟨x, W', rfl, hR.ex (e1.trans e2), by omega, fun H3 e3 => q H3 e3⟩
      cases hg with
      | word hu hl hm hb =>
        refine q_when (ev_tag rfl ht) (fun _ H1 e1 => ?_) (fun h => absurd h (by decide))
        refine ev_it (i := 1) rfl (e1 _ _ ht) rfl H1 (Ex.refl _) _ fun H2 e2 => ⟨_, _, rfl, .inr ((hu.ex e1).ex e2).st, ?_⟩
        rw [List.length_map]
        exact q.go (e1.trans e2)
      | @row u ps Ws hu hr hl =>
        refine q_when (ev_tag rfl ht) (fun h => absurd h (by decide)) fun _ H1 e1 => q_when (ev_tag rfl (e1 _ _ ht)) (fun _ H2 e2 => ?_) (fun h => absurd h (by decide))
        have e12 := e1.trans e2
        have hln := All2.len _ _ hr
        have key := el_lcT (K := K) (σ := [some (.ref t), none]) (t := tYes) (te := tCall (spSize os ls qs n) [] E0 (tCons (tVar 1) tNil)) (j := 1) (vs := [1]) (fun _ => true) (fun i => .int ((Ws.getD i []).length : Int)) (ev_it (K := K) (i := 1) rfl (e12 _ _ ht) rfl) (st_of (e12 _ _ hu)) (by omega) (fun x => rfl) (fun i x H1 e1 hi => ev_yes) (fun i x H3 e3 hi _ => by
          obtain ⟨W', hW, hR⟩ := All2.at _ _ hr i x hi
          have e : Ws.getD i [] = W' := by rw [List.getD_eq_getElem?_getD, hW]; rfl
          rw [e]
          exact call H3 (e12.trans e3) (ev_var rfl) hR)
        have k2 := ev_sumN (K := K) (ns := Ws.map fun W => (W.length : Int)) key (by rw [given_true, hln, range_get Ws fun W => V.int (W.length : Int), List.map_map]; rfl)
        rw [sumsI, ← flat_len] at k2
        exact s_ret k2 fun H3 e3 => q.go (e12.trans e3)
      | @again k' p W hk hr =>
        refine q_when (ev_tag rfl ht) (fun h => absurd h (by decide)) fun _ H1 e1 => q_when (ev_tag rfl (e1 _ _ ht)) (fun h => absurd h (by decide)) fun _ H2 e2 => ?_
        have e12 := e1.trans e2
        refine q_when (ev_tag rfl (e12 _ _ ht)) (fun _ H3 e3 => ?_) (fun h => absurd h (by decide))
        have e13 := e12.trans e3
        refine s_ret (ev_is (ev_op (ev_it (i := 1) rfl (e13 _ _ ht) rfl) (call H3 e13 (ev_it (i := 2) rfl (e13 _ _ ht) rfl) hr) (rv_I (mulW_of hk (GAt.bits _ _ _ hr) (show n ≤ 20 by omega)))) ?_) fun H4 e4 => q.go (e13.trans e4)
        rw [rep_len, Int.natCast_mul]
      | @wrap k' a c p W hk ha hc hr =>
        refine q_when (ev_tag rfl ht) (fun h => absurd h (by decide)) fun _ H1 e1 => q_when (ev_tag rfl (e1 _ _ ht)) (fun h => absurd h (by decide)) fun _ H2 e2 => ?_
        have e12 := e1.trans e2
        refine q_when (ev_tag rfl (e12 _ _ ht)) (fun h => absurd h (by decide)) fun _ H3 e3 => ?_
        have e13 := e12.trans e3
        refine s_ret (ev_is (ev_op (ev_op (ev_it (i := 1) rfl (e13 _ _ ht) rfl) (call H3 e13 (ev_it (i := 3) rfl (e13 _ _ ht) rfl) hr) rv_I0) (ev_it (i := 1) rfl (e13 _ _ ht) rfl) rv_I0) ?_) fun H4 e4 => q.go (e13.trans e4)
        rw [List.length_append, List.length_append, List.length_replicate, List.length_replicate, Int.natCast_add, Int.natCast_add]
def spWrite (os ls qs : List Str) (n : Nat) : Sp := fun vs H Q _ => ∃ (v : V) (W : List Str), vs = [v] ∧ GAt os ls qs H n v W ∧ n ≤ 20 ∧ W.length ≤ 400 ∧ RetL (W.map V.str) H Q
theorem ok_write {f fs : Addr} {fd fds : FuncData} (Fwrite : Fun K "_law_write" "_law_write" sLawWrite f fd) (bwrite : Binds K fd ["great"] []) (gwrite : mg "_law_write" = some (.ref f)) (Fsize : Fun K "_law_size" "_law_size" sSize fs fds) (bsize : Binds K fds ["great"] []) (gsize : mg "_law_size" = some (.ref fs)) (mlen : mg "len" = none) (msum : mg "sum" = none) (mlist : mg "list" = none) : ∀ (n k : Nat), FnOk P w K mg base CX0 (k + n + 2) f fd ["great"] (spWrite os ls qs n)
  | 0, k => fn_no fun vs H Q E ⟨_, _, _, h, _⟩ => h
  | n + 1, k => by
    have nd := scLawWrite.nd
    have Gwrite : FnOk P w K mg base CX0 (k + n + 2) f fd ["great"] (spWrite os ls qs n) := ok_write Fwrite bwrite gwrite Fsize bsize gsize mlen msum mlist n k
    have Gsize : FnOk P w K mg base CX0 (k + n + 2) fs fds ["great"] (spSize os ls qs (n + 1)) := ok_size Fsize bsize gsize mlen msum (n + 1) k
    refine Fwrite.ok scLawWrite (fun vs H Q E h => ?_) (fun cdv A outer s H vs Q E hr h => ?_)
    · obtain ⟨v, W, rfl, _⟩ := h
      rfl
    · obtain ⟨v, W, rfl, hG, hn, h400, q⟩ := h
      refine ⟨_, (pss_cons (ps_if (pt_cmpR op_eq (pe_ix ix_tup (pv 0) pe_int (fun _ _ => rfl)) pe_str (nomark _)) (pss_one (ps_ret (pe_callTy call_list_of (by rfl) mlist (by decide +kernel) (pa_cons (pe_ix ix_tup (pv 0) pe_int (fun _ _ => rfl)) pa_nil)))) pss_nil)
      (pss_cons (ps_if (pt_cmpR op_eq (pe_call Gsize hr (by rfl) gsize Fsize.kp bsize .nil pass0 (pa_cons (pv 0) pa_nil)) pe_int (nomark _)) (pss_one (ps_ret (pe_lst pa_nil))) pss_nil)
      (pss_cons (ps_set (i := 1) nd rfl (.inl rfl) (pe_lst pa_nil))
      (pss_cons (ps_if (pt_cmpR op_eq (pe_ix ix_tup (pv 0) pe_int (fun _ _ => rfl)) pe_str (nomark _)) (pss_cons (ps_for PassesOwn.never rfl (pi_tup (pe_ix ix_tup (pv 0) pe_int (fun _ _ => rfl))) (pg_name (i := 2) nd rfl (.inl rfl)) (pss_one (ps_set (i := 1) nd rfl (.inl rfl) (pe_op op_cat (pv 1) (pe_call Gwrite hr (by rfl) gwrite Fwrite.kp bwrite .nil pass0 (pa_cons (pv 2) pa_nil))))))
      (pss_one (ps_ret (pv 1)))) pss_nil)
      (pss_cons (ps_if (pt_cmpR op_eq (pe_ix ix_tup (pv 0) pe_int (fun _ _ => rfl)) pe_str (nomark _)) (pss_one (ps_ret (pe_op op_rep (pe_call Gwrite hr (by rfl) gwrite Fwrite.kp bwrite .nil pass0 (pa_cons (pe_ix ix_tup (pv 0) pe_int (fun _ _ => rfl)) pa_nil)) (pe_ix ix_tup (pv 0) pe_int (fun _ _ => rfl))))) pss_nil)
      (pss_cons (ps_set (i := 3) nd rfl (.inl rfl) (pe_call Gwrite hr (by rfl) gwrite Fwrite.kp bwrite .nil pass0 (pa_cons (pe_ix ix_tup (pv 0) pe_int (fun _ _ => rfl)) pa_nil)))
      (pss_one (ps_ret (pe_op op_cat (pe_op op_cat (pe_op op_rep (pe_lst (pa_cons (pe_ix ix_tup (pv 0) pe_int (fun _ _ => rfl)) pa_nil)) (pe_ix ix_tup (pv 0) pe_int (fun _ _ => rfl))) (pv 3)) (pe_op op_rep (pe_lst (pa_cons (pe_ix ix_tup (pv 0) pe_int (fun _ _ => rfl)) pa_nil)) (pe_ix ix_tup (pv 0) pe_int (fun _ _ => rfl)))))))))))), ?_⟩
      have hG' := hG
      obtain ⟨t, xs, ps, Ws, rfl, ht, hg⟩ := hG
      have szt : ∀ H1, Ex H H1 → EvT (tTest (tOp rEq (tCall (spSize os ls qs (n + 1)) [] E0 (tCons (tVar 0) tNil)) (tC (.int 0)))) [some (.ref t), none, none, none] H1 (decide (W.length = 0)) := fun H1 e1 => et_test (ev_is (ev_op (ev_call (ea_cons (ev_var rfl) ea_nil) fun H2 e2 Q q E => ⟨_, W, rfl, hG'.ex (e1.trans e2), hn, fun H3 e3 => q H3 e3⟩) ev_c (rv_eq rfl)) (congrArg V.bl (decN (s := W.length) (z := 0))))
      have zero : ∀ H1, Ex H H1 → decide (W.length = 0) = true → ∀ D : Ends, D.rt = Q → tRet (tLst tNil) D [some (.ref t), none, none, none] H1 := fun H1 e1 h0 D hD => by
        have h0 := of_decide_eq_true h0
        rw [List.eq_nil_of_length_eq_zero h0] at q
        exact s_retL (el_lst ea_nil (by decide)) fun p H2 hp e2 h2 => by rw [hD]; exact q.go e1 hp e2 h2
      have call : ∀ {σ : L2.St} {te : TE} {x : V} {W' : List Str} (H1 : Hp), Ex H H1 → W'.length ≤ 400 → Ev te σ H1 x → GAt os ls qs H n x W' → EvL (tCall (spWrite os ls qs n) [] E0 (tCons te tNil)) σ H1 (W'.map V.str) := fun {σ te x W'} H1 e1 hl hx hR => el_call (ea_cons hx ea_nil) fun H2 e2 Q q E => ⟨x, W', rfl, hR.ex (e1.trans e2), by omega, hl, fun p H3 hp e3 h3 => q p H3 hp e3 h3⟩
      cases hg with
      | word hu hl hm hb =>
        refine q_when (ev_tag rfl ht) (fun _ H2 e2 => ?_) (fun h => absurd h (by decide))
        exact ev_it (i := 1) rfl (e2 _ _ ht) rfl H2 (Ex.refl _) _ fun H3 e3 => ⟨_, _, rfl, .inr ((hu.ex e2).ex e3).st, fun l nl => q.go (e2.trans e3) nl (Ex.new nl) upd_same⟩
      | @row u ps Ws hu hr hl =>
        refine q_when (ev_tag rfl ht) (fun h => absurd h (by decide)) fun _ H1 e1 => q_when (szt H1 e1) (fun h0 H2 e2 => zero H2 (e1.trans e2) h0 _ rfl) fun h0 H2 e2 => ?_
        have e12 := e1.trans e2
        refine q_asgL (el_lst ea_nil (by decide)) fun l H3 nl e3 hl3 => ?_
        have e13 := e12.trans e3
        refine q_when (ev_tag rfl (e13 _ _ ht)) (fun _ H4 e4 => ?_) (fun h => absurd h (by decide))
        have e14 := e13.trans e4
        refine q_forT (ev_it (i := 1) rfl (e14 _ _ ht) rfl) (st_of (e14 _ _ hu)) (fun i σ' H' => ∃ l', H l' = none ∧ (∃ y2, σ' = [some (.ref t), some (.ref l'), y2, none]) ∧ Ex H H' ∧ H' l' = some (.lst ((Ws.take i).flatten.map V.str))) (fun H5 e5 => ⟨l, fresh_back e12 nl, ⟨_, rfl⟩, e14.trans e5, e5 _ _ (e4 _ _ hl3)⟩) ?_ ?_ ?_
        · rintro i σ' H' _ ⟨l', _, _, eH, _⟩
          exact st_of (eH _ _ hu)
        · rintro i x σ' H' hi ⟨l', nl', ⟨y2, rfl⟩, eH, hl'⟩
          obtain ⟨W', hW, hR⟩ := All2.at _ _ hr i x hi
          have hle' := flat_le (List.mem_of_getElem? hW)
          have hle2 := tk_le Ws i
          refine s_asgL (xs := (Ws.take i).flatten.map V.str ++ W'.map V.str) (fun H5 e5 Q q => ⟨_, rfl, call H5 (eH.trans e5) (by omega) (ev_var rfl) hR H5 (Ex.refl _) _ fun r H6 nr e6 hr6 => ⟨l', r, _, _, rfl, rfl, e6 _ _ (e5 _ _ hl'), hr6, ?_, fun z nz => q z _ (fresh_back e6 nz) (e6.trans (Ex.new nz)) upd_same⟩⟩) fun p H5 np e5 hp => ⟨p, fresh_back eH np, ⟨_, rfl⟩, eH.trans e5, ?_⟩
          · rw [List.length_map, List.length_map]
            exact sz_of (by omega)
          · rw [tk_succ hW, List.map_append]
            exact hp
        · rintro σ' H' ⟨l', nl', ⟨y2, rfl⟩, eH, hl'⟩
          rw [All2.len _ _ hr, List.take_length] at hl'
          exact s_ret (ev_var rfl) fun H5 e5 => q l' H5 nl' (eH.trans e5) (e5 _ _ hl')
      | @again k' p W hk hr =>
        refine q_when (ev_tag rfl ht) (fun h => absurd h (by decide)) fun _ H1 e1 => q_when (szt H1 e1) (fun h0 H2 e2 => zero H2 (e1.trans e2) h0 _ rfl) fun h0 H2 e2 => ?_
        have h0 := of_decide_eq_false h0
        have e12 := e1.trans e2
        refine q_asgL (el_lst ea_nil (by decide)) fun l H3 nl e3 hl3 => ?_
        have e13 := e12.trans e3
        refine q_when (ev_tag rfl (e13 _ _ ht)) (fun h => absurd h (by decide)) fun _ H4 e4 => ?_
        have e14 := e13.trans e4
        refine q_when (ev_tag rfl (e14 _ _ ht)) (fun _ H5 e5 => ?_) (fun h => absurd h (by decide))
        have e15 := e14.trans e5
        rw [rep_len] at h400 h0
        have w1 : 1 ≤ W.length := by
          rcases Nat.eq_zero_or_pos W.length with z | z
          · exact absurd (by rw [z, Nat.mul_zero]) h0
          · exact z
        have k0 : 1 ≤ k' := by
          rcases Nat.eq_zero_or_pos k' with z | z
          · exact absurd (by rw [z, Nat.zero_mul]) h0
          · exact z
        have k4 : k' ≤ 400 := Nat.le_trans (by have := Nat.mul_le_mul_left k' w1; omega) h400
        have w4 : W.length ≤ 400 := Nat.le_trans (by have := Nat.mul_le_mul_right W.length k0; omega) h400
        refine s_retL (el_rep (call H5 e15 w4 (ev_it (i := 2) rfl (e15 _ _ ht) rfl) hr) (ev_it (i := 1) rfl (e15 _ _ ht) rfl) (by rw [List.length_map, Nat.mul_comm]; omega) (Nat.lt_of_le_of_lt k4 (by decide))) fun p H6 hp e6 h6 => ?_
        rw [rep_V] at h6
        exact q.go e15 hp e6 h6
      | @wrap k' a c p W hk ha hc hr =>
        refine q_when (ev_tag rfl ht) (fun h => absurd h (by decide)) fun _ H1 e1 => q_when (szt H1 e1) (fun h0 H2 e2 => zero H2 (e1.trans e2) h0 _ rfl) fun h0 H2 e2 => ?_
        have e12 := e1.trans e2
        refine q_asgL (el_lst ea_nil (by decide)) fun l H3 nl e3 hl3 => ?_
        have e13 := e12.trans e3
        refine q_when (ev_tag rfl (e13 _ _ ht)) (fun h => absurd h (by decide)) fun _ H4 e4 => ?_
        have e14 := e13.trans e4
        refine q_when (ev_tag rfl (e14 _ _ ht)) (fun h => absurd h (by decide)) fun _ H5 e5 => ?_
        have e15 := e14.trans e5
        have w4 : W.length ≤ 400 := by
          rw [List.length_append, List.length_append] at h400
          omega
        refine q_asgL (call H5 e15 w4 (ev_it (i := 3) rfl (e15 _ _ ht) rfl) hr) fun r H6 nr e6 hr6 => ?_
        exact s_retL (el_wrap (j := 3) rfl rfl ((e15.trans e6) _ _ ht) hr6 h400) fun p H7 hp e7 h7 => q.go (e15.trans e6) hp e7 h7
end
end Eh
set_option Elab.async false
set_option linter.all false
set_option maxRecDepth 100000
set_option maxHeartbeats 4000000
namespace Eh
open PySem PySem.Spec PyProof.Rows L2 Evl
theorem ev_tagS {K : PySem.W.Frag} {σ : L2.St} {H : Hp} {t : Addr} {i : Nat} {s z : Str} {r : List V} (h0 : σ[i]? = some (some (.ref t))) (ht : H t = some (.tup (.str s :: r))) : EvT (tTest (tOp rEq (tOp (rIxT K) (tVar i) (tC (.int 0))) (tC (.str z)))) σ H (decide (V.str s = .str z)) :=
  et_test (ev_op (ev_op (ev_var h0) ev_c (rv_ixT (st_of ht) (show atI (V.str s :: r) ((0 : Nat) : Int) = some (V.str s) from atI_nat rfl))) ev_c (rv_eq rfl))
theorem ev_itS {K : PySem.W.Frag} {σ : L2.St} {H : Hp} {t : Addr} {xs : List V} {j i : Nat} {v : V} (h0 : σ[j]? = some (some (.ref t))) (ht : H t = some (.tup xs)) (hv : xs[i]? = some v) : Ev (tOp (rIxT K) (tVar j) (tC (.int (i : Int)))) σ H v :=
  ev_op (ev_var h0) ev_c (rv_ixT (st_of ht) (atI_nat hv))
theorem el_Vcat {σ : L2.St} {H : Hp} {ta tb : TE} {xs ys : List V} {l : Addr} (ha : Ev ta σ H (.ref l)) (hl : H l = some (.lst xs)) (hb : EvL tb σ H ys) (hk : xs.length + ys.length ≤ 100000) : EvL (tOp rCat ta tb) σ H (xs ++ ys) := fun H1 e Q q =>
  ha H1 e _ fun H2 e2 => hb H2 (e.trans e2) _ fun p H3 np e3 hp => ⟨l, p, xs, ys, rfl, rfl, ((e.trans e2).trans e3) _ _ hl, hp, sz_of hk, fun z nz => q z _ (fresh_back (e2.trans e3) nz) ((e2.trans e3).trans (Ex.new nz)) upd_same⟩
def rInt1 : List V → Hp → VK → Prop := fun xs H Q => (∃ i, xs = [.int i] ∧ Q (.int i) H) ∨ (∃ b : Bool, xs = [.bl b] ∧ Q (.int (if b = true then 1 else 0)) H)
theorem ev_intB {σ : L2.St} {H : Hp} {ta : TE} {b : Bool} (h : Ev ta σ H (.bl b)) : Ev (tCB rInt1 (tCons ta tNil)) σ H (.int (if b = true then 1 else 0)) := fun H1 e Q q => h H1 e _ fun H2 e2 => .inr ⟨b, rfl, q H2 e2⟩
end Eh
set_option Elab.async false
set_option linter.all false
set_option maxRecDepth 100000
set_option maxHeartbeats 4000000
namespace Eh
open PySem PySem.Spec PyProof.Rows L2 Evl
abbrev nDepthOf : List Str := ["sheet", "word", "depth", "waiting", "letter"]
theorem scDepthOf : FnScope nDepthOf ["sheet", "word"] (defScope sDepthOf) := ⟨rfl, rfl, rfl, by decide +kernel, rfl, by decide +kernel, by decide +kernel⟩
abbrev nLawDepth : List Str := ["sheet", "word", "deep", "most", "letter"]
theorem scLawDepth : FnScope nLawDepth ["sheet", "word"] (defScope sLawDepth) := ⟨rfl, rfl, rfl, by decide +kernel, rfl, by decide +kernel, by decide +kernel⟩
abbrev nDeepestOf : List Str := ["sheet", "great", "within", "part"]
theorem scDeepestOf : FnScope nDeepestOf ["sheet", "great"] (defScope sDeepestOf) := ⟨rfl, rfl, rfl, by decide +kernel, rfl, by decide +kernel, by decide +kernel⟩
abbrev nManyOf : List Str := ["great", "letter", "within", "part"]
theorem scManyOf : FnScope nManyOf ["great", "letter"] (defScope sManyOf) := ⟨rfl, rfl, rfl, by decide +kernel, rfl, by decide +kernel, by decide +kernel⟩
def spDepthOf (K : PySem.W.Frag) : Sp := fun vs H Q _ => ∃ (s l : Addr) (os ps qs ws : List Str), vs = [.ref s, .ref l] ∧ Sht os ps qs ∧ SheetAt H s os ps qs ∧ SqL K H l (ws.map V.str) ∧ (∀ x ∈ ws, x ∈ os ++ ps ++ qs) ∧ ws.length ≤ 10000 ∧ bal os qs ws 0 = some 0 ∧ RetV (.int (dpt os qs ws : Int)) H Q
def spDeepest (os ls qs : List Str) (n : Nat) : Sp := fun vs H Q _ => ∃ (s : Addr) (v : V) (W : List Str), vs = [.ref s, v] ∧ Sht os ls qs ∧ SheetAt H s os ls qs ∧ GAt os ls qs H n v W ∧ n ≤ 20 ∧ RetV (.int (dpt os qs W : Int)) H Q
def spMany (os ls qs : List Str) (n : Nat) : Sp := fun vs H Q _ => ∃ (v : V) (x : Str) (W : List Str), vs = [v, .str x] ∧ GAt os ls qs H n v W ∧ n ≤ 20 ∧ RetV (.int (W.count x : Nat)) H Q
theorem fold_le {os qs : List Str} : ∀ (W : List Str) (w d : Nat), w ≤ d → (W.foldl (stp os qs) (w, d)).1 ≤ (W.foldl (stp os qs) (w, d)).2
  | [], w, d, h => h
  | x :: r, w, d, h => by
    rw [List.foldl_cons]
    cases hk : kdOf os qs x with
    | op => rw [stp_op hk]; exact fold_le r _ _ (by omega)
    | pl => rw [stp_pl hk]; exact fold_le r _ _ h
    | cl => rw [stp_cl hk]; exact fold_le r _ _ (by omega)
theorem take_fold {os qs : List Str} {W : List Str} {i : Nat} {x : Str} (h : W[i]? = some x) (p : Nat × Nat) : (W.take (i + 1)).foldl (stp os qs) p = stp os qs ((W.take i).foldl (stp os qs) p) x := by
  rw [List.take_succ, h, List.foldl_append]
  rfl
theorem pre_bal {os qs : List Str} {W : List Str} (hb : bal os qs W 0 = some 0) {i : Nat} {x : Str} (hx : W[i]? = some x) (hc : kdOf os qs x = .cl) : 1 ≤ ((W.take i).foldl (stp os qs) (0, 0)).1 := by
  have hi := (List.getElem?_eq_some_iff.mp hx).1
  have h1 := bal_take hb i (by omega)
  have h2 := bal_take hb (i + 1) (by omega)
  have h3 := (stp_shift (W.take i) 0 _ h1 0 0 0).2
  rw [h3]
  rw [List.take_succ, hx, bal_app, h1] at h2
  rcases Nat.eq_zero_or_pos (run (kfOf os qs W) W.length i).2.length with z | z
  · rw [z] at h2
    replace h2 : bal os qs [x] 0 = _ := h2
    unfold bal at h2
    rw [hc] at h2
    cases h2
  · exact z
theorem GAt.shut {os ls qs : List Str} (hS : Sht os ls qs) {H : Hp} : ∀ (n : Nat) (v : V) (W : List Str), GAt os ls qs H n v W → bal os qs W 0 = some 0
  | 0, _, _, h => h.elim
  | n + 1, v, W, ⟨t, xs, ps, Ws, e, ht, hg⟩ => by
    cases hg with
    | word hu hl hm hb => exact hb
    | row hu hr hl =>
      refine bal_flat _ fun W hW => ?_
      obtain ⟨v, hv⟩ := All2.mem _ _ hr W hW
      exact GAt.shut hS n v W hv
    | again hk hr =>
      refine bal_flat _ fun W hW => ?_
      rw [List.eq_of_mem_replicate hW]
      exact GAt.shut hS n _ _ hr
    | wrap hk ha hc hr => exact bal_wrap hS ha hc (GAt.shut hS n _ _ hr) _
theorem mxI_nat : ∀ (ys : List Nat) (y : Nat), mxI (y : Int) (ys.map fun n : Nat => (n : Int)) = ((ys.foldl max y : Nat) : Int)
  | [], y => rfl
  | z :: r, y => by
    show mxI (if (y : Int) < (z : Int) then (z : Int) else (y : Int)) (r.map fun n : Nat => (n : Int)) = ((r.foldl max (max y z) : Nat) : Int)
    rw [show (if (y : Int) < (z : Int) then (z : Int) else (y : Int)) = ((max y z : Nat) : Int) by split <;> omega]
    exact mxI_nat r (max y z)
theorem mx_def (ns : List Nat) : mxV (.int 0) (ns.map (fun n : Nat => (n : Int))) = .int (mxN ns : Int) := by
  cases ns with
  | nil => rfl
  | cons y ys =>
    show V.int (mxI (y : Int) (ys.map fun n : Nat => (n : Int))) = _
    rw [mxI_nat, mxN_cons, mx_from]
theorem ev_maxDef {K : PySem.W.Frag} {σ : L2.St} {H : Hp} {ta : TE} {xs : List V} {ns : List Nat} (h : EvL ta σ H xs) (hx : xs = ns.map fun n : Nat => V.int (n : Int)) : Ev (tCKw (rMaxDef K) (tCons ta tNil) (tCons (tC (.int 0)) tNil)) σ H (.int (mxN ns : Int)) := fun H1 e Q q =>
  h H1 e _ fun p H2 np e2 h2 => ⟨p, ns.map (fun n : Nat => (n : Int)), .int 0, rfl, rfl, sq_of (by rw [h2, hx, List.map_map]; rfl), by rw [mx_def]; exact q H2 e2⟩
theorem in_op {K : PySem.W.Frag} {σ : L2.St} {H : Hp} {s ad : Addr} {xs : List V} {ys : List Str} {i j : Nat} {z : Int} {x : Str} (hi : σ[i]? = some (some (.str x))) (hj : σ[j]? = some (some (.ref s))) (hs : H s = some (.tup xs)) (ha : atI xs z = some (.ref ad)) (hy : H ad = some (.tup (ys.map V.str))) : Ev (tOp (rIn K false) (tVar i) (tOp (rIxT K) (tVar j) (tC (.int z)))) σ H (.bl (decide (x ∈ ys))) :=
  ev_is (ev_op (ev_var hi) (ev_op (ev_var hj) ev_c (rv_ixT (st_of hs) ha)) (rv_isT (st_of hy) rfl (flat_str ys))) (by rw [inV_str])
section
variable {P : Program} {w : World} {K : PySem.W.Frag} {mg : Str → Option Value} {base : Heap} {os ls qs : List Str}
theorem ok_depthOf {f fneed_word : Addr} {fd dneed_word : FuncData} {k : Nat} (F : Fun K "depth_of" "depth_of" sDepthOf f fd) (Fneed_word : Fun K "need_word" "need_word" sNeedWord fneed_word dneed_word) (Gneed_word : FnOk P w K mg base CX0 (k + 1) fneed_word dneed_word ["sheet", "word"] (spNeedWord K)) (bneed_word : Binds K dneed_word ["sheet", "word"] []) (gneed_word : mg "need_word" = some (.ref fneed_word)) (mmax : mg "max" = none) : FnOk P w K mg base CX0 (k + 2) f fd ["sheet", "word"] (spDepthOf K) := by
  have nd := scDepthOf.nd
  refine F.ok scDepthOf (fun vs H Q E h => ?_) (fun cdv A outer s H vs Q E hr h => ?_)
  · obtain ⟨s, l, os, ps, qs, ws, rfl, _⟩ := h
    rfl
  · obtain ⟨s, l, os, ps, qs, ws, rfl, hS, hs, hl, hm, hlen, hb, q⟩ := h
    refine ⟨_, (pss_cons (ps_expr (pe_call Gneed_word hr (by rfl) gneed_word Fneed_word.kp bneed_word .nil pass0 (pa_cons (pv 0) (pa_cons (pv 1) pa_nil))))
      (pss_cons (ps_set (i := 2) nd rfl (.inl rfl) pe_int)
      (pss_cons (ps_set (i := 3) nd rfl (.inl rfl) pe_int)
      (pss_cons (ps_for PassesOwn.never rfl (pi_list (pv 1)) (pg_name (i := 4) nd rfl (.inl rfl)) (pss_one (ps_if (pt_cmpR op_in_seq (pv 4) (pe_ix ix_tup (pv 0) pe_int (fun _ _ => rfl)) (by rfl)) (pss_cons (ps_aug (i := 3) nd rfl (.inl rfl) pe_int ip_add)
      (pss_one (ps_set (i := 2) nd rfl (.inl rfl) (pe_callB (call_max2 rfl) (by rfl) mmax (by decide +kernel) (pa_cons (pv 2) (pa_cons (pv 3) pa_nil)))))) (pss_one (ps_if (PW.pt (pw_and (pt_cmpR op_in_seq (pv 4) (pe_ix ix_tup (pv 0) pe_int (fun _ _ => rfl)) (by rfl)) (pw_and1 (pt_cmpR op_gt (pv 3) pe_int (nomark _))))) (pss_one (ps_aug (i := 3) nd rfl (.inl rfl) pe_int ip_sub)) pss_nil)))))
      (pss_one (ps_ret (pv 2))))))), ?_⟩
    refine q_drop (ev_call (ea_cons (ev_var rfl) (ea_cons (ev_var rfl) ea_nil)) fun H2 e2 Q q E => ⟨s, l, os, ps, qs, ws, rfl, hS, hs.ex e2, ex_l e2 hl, hm, fun H3 e3 => q H3 e3⟩) fun H1 e1 => q_asg ev_c fun H2 e2 => q_asg ev_c fun H3 e3 => ?_
    have e13 := (e1.trans e2).trans e3
    refine q_forLn (ev_var rfl) (ex_l e13 hl) (fun i σ H' => (∃ y4, σ = [some (.ref s), some (.ref l), some (.int (((ws.take i).foldl (stp os qs) (0, 0)).2 : Int)), some (.int (((ws.take i).foldl (stp os qs) (0, 0)).1 : Int)), y4]) ∧ Ex H H') (fun H4 e4 => ⟨⟨_, rfl⟩, e13.trans e4⟩) (fun i σ H' _ hh => ex_l hh.2 hl) ?_ ?_
    · rintro i v σ H' hi ⟨⟨y4, rfl⟩, eH⟩
      obtain ⟨x, hx, rfl⟩ : ∃ x, ws[i]? = some x ∧ v = .str x := by
        rw [List.getElem?_map] at hi
        cases e : ws[i]? with
        | none => rw [e] at hi; cases hi
        | some z => rw [e] at hi; exact ⟨z, rfl, (Option.some.inj hi).symm⟩
      obtain ⟨ao, ap, ac, g0, g1, g2, g3⟩ := hs.ex eH
      have tf := take_fold (os := os) (qs := qs) hx (0, 0)
      generalize (ws.take i).foldl (stp os qs) (0, 0) = p at tf ⊢
      obtain ⟨wt, dp⟩ := p
      rw [tf]
      refine s_if (et_test (in_op rfl rfl g0 (show atI [V.ref ao, .ref ap, .ref ac] 0 = some (.ref ao) from rfl) g1)) (fun h1 H4 e4 => ?_) (fun h1 H4 e4 => ?_)
      · have hk := kd_op (qs := qs).mpr (of_decide_eq_true h1)
        rw [stp_op hk]
        refine q_aug rfl ev_c fun H5 e5 => s_asg (ev_max2 (ev_var rfl) (ev_var rfl)) fun H6 e6 => ⟨⟨some (.str x), ?_⟩, ((eH.trans e4).trans e5).trans e6⟩
        show [some (V.ref s), some (.ref l), some (.int (if (wt : Int) + 1 > (dp : Int) then (wt : Int) + 1 else (dp : Int))), some (.int ((wt : Int) + 1)), some (.str x)] = [some (V.ref s), some (.ref l), some (.int ((max dp (wt + 1) : Nat) : Int)), some (.int ((wt + 1 : Nat) : Int)), some (.str x)]
        rw [show (if (wt : Int) + 1 > (dp : Int) then (wt : Int) + 1 else (dp : Int)) = ((max dp (wt + 1) : Nat) : Int) by split <;> omega]
        rfl
      · have no := of_decide_eq_false h1
        refine s_when (et_and (et_test (in_op rfl rfl (e4 _ _ g0) (show atI [V.ref ao, .ref ap, .ref ac] 2 = some (.ref ac) from rfl) (e4 _ _ g3))) fun _ => et_test (ev_op (ev_var rfl) ev_c rv_I0)) (fun h2 H5 e5 => ?_) (fun h2 H5 e5 => ?_)
        · have h2' := Bool.and_eq_true_iff.mp h2
          have hk := (kd_cl hS).mpr (of_decide_eq_true h2'.1)
          have hw : (0 : Int) < (wt : Int) := of_decide_eq_true h2'.2
          rw [stp_cl hk]
          refine s_aug rfl ev_c fun H6 e6 => ⟨⟨some (.str x), ?_⟩, ((eH.trans e4).trans e5).trans e6⟩
          show [some (V.ref s), some (.ref l), some (.int (dp : Int)), some (.int ((wt : Int) - 1)), some (.str x)] = [some (V.ref s), some (.ref l), some (.int (dp : Int)), some (.int ((wt - 1 : Nat) : Int)), some (.str x)]
          rw [show ((wt - 1 : Nat) : Int) = (wt : Int) - 1 by omega]
        · by_cases hq : x ∈ qs
          · have hk := (kd_cl hS).mpr hq
            rw [decide_eq_true hq, Bool.true_and] at h2
            have hw : ¬ (0 : Int) < (wt : Int) := of_decide_eq_false h2
            rw [stp_cl hk, show wt - 1 = wt by omega]
            exact ⟨⟨_, rfl⟩, (eH.trans e4).trans e5⟩
          · have hk : kdOf os qs x = .pl := by
              unfold kdOf
              rw [if_neg no, if_neg hq]
            rw [stp_pl hk]
            exact ⟨⟨_, rfl⟩, (eH.trans e4).trans e5⟩
    · rintro σ H' ⟨⟨y4, rfl⟩, eH⟩
      rw [List.length_map, List.take_length]
      exact s_ret (ev_var rfl) fun H4 e4 => q.go (eH.trans e4)
theorem ok_lawDepth {f : Addr} {fd : FuncData} {k : Nat} (F : Fun K "_law_depth" "_law_depth" sLawDepth f fd) (mmax : mg "max" = none) (mint : mg "int" = none) : FnOk P w K mg base CX0 (k + 1) f fd ["sheet", "word"] (spDepthOf K) := by
  have nd := scLawDepth.nd
  refine F.ok scLawDepth (fun vs H Q E h => ?_) (fun cdv A outer s H vs Q E hr h => ?_)
  · obtain ⟨s, l, os, ps, qs, ws, rfl, _⟩ := h
    rfl
  · obtain ⟨s, l, os, ps, qs, ws, rfl, hS, hs, hl, hm, hlen, hb, q⟩ := h
    refine ⟨_, (pss_cons (ps_set (i := 2) nd rfl (.inl rfl) pe_int)
      (pss_cons (ps_set (i := 3) nd rfl (.inl rfl) pe_int)
      (pss_cons (ps_for PassesOwn.never rfl (pi_list (pv 1)) (pg_name (i := 4) nd rfl (.inl rfl)) (pss_cons (ps_set (i := 2) nd rfl (.inl rfl) (pe_op op_sub (pe_op op_add (pv 2) (pe_callTy call_int1 (by rfl) mint (by decide +kernel) (pa_cons (pe_cmpR op_in_seq (pv 4) (pe_ix ix_tup (pv 0) pe_int (fun _ _ => rfl)) (by rfl)) pa_nil))) (pe_callTy call_int1 (by rfl) mint (by decide +kernel) (pa_cons (pe_cmpR op_in_seq (pv 4) (pe_ix ix_tup (pv 0) pe_int (fun _ _ => rfl)) (by rfl)) pa_nil))))
      (pss_one (ps_set (i := 3) nd rfl (.inl rfl) (pe_callB (call_max2 rfl) (by rfl) mmax (by decide +kernel) (pa_cons (pv 3) (pa_cons (pv 2) pa_nil)))))))
      (pss_one (ps_ret (pv 3)))))), ?_⟩
    refine q_asg ev_c fun H2 e2 => q_asg ev_c fun H3 e3 => ?_
    have e13 := e2.trans e3
    refine q_forLn (ev_var rfl) (ex_l e13 hl) (fun i σ H' => (∃ y4, σ = [some (.ref s), some (.ref l), some (.int (((ws.take i).foldl (stp os qs) (0, 0)).1 : Int)), some (.int (((ws.take i).foldl (stp os qs) (0, 0)).2 : Int)), y4]) ∧ Ex H H') (fun H4 e4 => ⟨⟨_, rfl⟩, e13.trans e4⟩) (fun i σ H' _ hh => ex_l hh.2 hl) ?_ ?_
    · rintro i v σ H' hi ⟨⟨y4, rfl⟩, eH⟩
      obtain ⟨x, hx, rfl⟩ : ∃ x, ws[i]? = some x ∧ v = .str x := by
        rw [List.getElem?_map] at hi
        cases e : ws[i]? with
        | none => rw [e] at hi; cases hi
        | some z => rw [e] at hi; exact ⟨z, rfl, (Option.some.inj hi).symm⟩
      obtain ⟨ao, ap, ac, g0, g1, g2, g3⟩ := hs.ex eH
      have tf := take_fold (os := os) (qs := qs) hx (0, 0)
      have hpb : kdOf os qs x = .cl → 1 ≤ ((ws.take i).foldl (stp os qs) (0, 0)).1 := fun hc => pre_bal hb hx hc
      have hle := fold_le (os := os) (qs := qs) (ws.take i) 0 0 (Nat.le_refl _)
      generalize (ws.take i).foldl (stp os qs) (0, 0) = p at tf hpb hle ⊢
      obtain ⟨wt, dp⟩ := p
      replace hle : wt ≤ dp := hle
      rw [tf]
      refine q_asg (ev_op (ev_op (ev_var rfl) (ev_intB (in_op rfl rfl g0 (show atI [V.ref ao, .ref ap, .ref ac] 0 = some (.ref ao) from rfl) g1)) rv_I0) (ev_intB (in_op rfl rfl g0 (show atI [V.ref ao, .ref ap, .ref ac] 2 = some (.ref ac) from rfl) g3)) rv_I0) fun H4 e4 => s_asg (ev_max2 (ev_var rfl) (ev_var rfl)) fun H5 e5 => ⟨⟨some (.str x), ?_⟩, (eH.trans e4).trans e5⟩
      show [some (V.ref s), some (.ref l), some (.int ((wt : Int) + (if decide (x ∈ os) = true then 1 else 0) - (if decide (x ∈ qs) = true then 1 else 0))), some (.int (if (wt : Int) + (if decide (x ∈ os) = true then 1 else 0) - (if decide (x ∈ qs) = true then 1 else 0) > (dp : Int) then (wt : Int) + (if decide (x ∈ os) = true then 1 else 0) - (if decide (x ∈ qs) = true then 1 else 0) else (dp : Int))), some (.str x)] = [some (V.ref s), some (.ref l), some (.int ((stp os qs (wt, dp) x).1 : Int)), some (.int ((stp os qs (wt, dp) x).2 : Int)), some (.str x)]
      by_cases h1 : x ∈ os
      · have h2 : ¬ x ∈ qs := fun z => hS.apart h1 z
        rw [stp_op (kd_op.mpr h1), decide_eq_true h1, decide_eq_false h2, if_pos rfl, if_neg (by decide), show (wt : Int) + 1 - 0 = ((wt + 1 : Nat) : Int) by omega, show (if ((wt + 1 : Nat) : Int) > (dp : Int) then ((wt + 1 : Nat) : Int) else (dp : Int)) = ((max dp (wt + 1) : Nat) : Int) by split <;> omega]
      · by_cases h2 : x ∈ qs
        · have hk := (kd_cl hS).mpr h2
          have := hpb hk
          replace this : 1 ≤ wt := this
          rw [stp_cl hk, decide_eq_false h1, decide_eq_true h2, if_neg (by decide), if_pos rfl, show (wt : Int) + 0 - 1 = ((wt - 1 : Nat) : Int) by omega, if_neg (by omega)]
        · have hk : kdOf os qs x = .pl := by
            unfold kdOf
            rw [if_neg h1, if_neg h2]
          rw [stp_pl hk, decide_eq_false h1, decide_eq_false h2, if_neg (by decide), show (wt : Int) + 0 - 0 = (wt : Int) by omega, if_neg (by omega)]
    · rintro σ H' ⟨⟨y4, rfl⟩, eH⟩
      rw [List.length_map, List.take_length]
      exact s_ret (ev_var rfl) fun H4 e4 => q.go (eH.trans e4)
theorem ok_deepest {f fp fo : Addr} {fd dp do_ : FuncData} (Fdeepest_of : Fun K "deepest_of" "deepest_of" sDeepestOf f fd) (bdeepest_of : Binds K fd ["sheet", "great"] []) (gdeepest_of : mg "deepest_of" = some (.ref f)) (Fparts_in : Fun K "parts_in" "parts_in" sPartsIn fp dp) (bparts_in : Binds K dp ["great"] []) (gparts_in : mg "parts_in" = some (.ref fp)) (Fdepth_of : Fun K "depth_of" "depth_of" sDepthOf fo do_) (GD : ∀ k, FnOk P w K mg base CX0 (k + 4) fo do_ ["sheet", "word"] (spDepthOf K)) (bdepth_of : Binds K do_ ["sheet", "word"] []) (gdepth_of : mg "depth_of" = some (.ref fo)) (mlist : mg "list" = none) (mmax : mg "max" = none) : ∀ (n k : Nat), FnOk P w K mg base CX0 (k + n + 4) f fd ["sheet", "great"] (spDeepest os ls qs n)
  | 0, k => fn_no fun vs H Q E ⟨_, _, _, _, _, _, h, _⟩ => h
  | n + 1, k => by
    have nd := scDeepestOf.nd
    have Gdeepest_of : FnOk P w K mg base CX0 (k + n + 4) f fd ["sheet", "great"] (spDeepest os ls qs n) := ok_deepest Fdeepest_of bdeepest_of gdeepest_of Fparts_in bparts_in gparts_in Fdepth_of GD bdepth_of gdepth_of mlist mmax n k
    have Gparts_in : FnOk P w K mg base CX0 (k + n + 4) fp dp ["great"] (spParts os ls qs) := ok_partsIn Fparts_in mlist
    have Gdepth_of := GD (k + n)
    refine Fdeepest_of.ok scDeepestOf (fun vs H Q E h => ?_) (fun cdv A outer s H vs Q E hr h => ?_)
    · obtain ⟨s, v, W, rfl, _⟩ := h
      rfl
    · obtain ⟨s, v, W, rfl, hS, hs, hG, hn, q⟩ := h
      refine ⟨_, (pss_cons (ps_if (pt_cmpR op_eq (pe_ix ix_tup (pv 1) pe_int (fun _ _ => rfl)) pe_str (nomark _)) (pss_one (ps_ret (pe_call Gdepth_of hr (by rfl) gdepth_of Fdepth_of.kp bdepth_of .nil pass0 (pa_cons (pv 0) (pa_cons (pe_callTy call_list_of (by rfl) mlist (by decide +kernel) (pa_cons (pe_ix ix_tup (pv 1) pe_int (fun _ _ => rfl)) pa_nil)) pa_nil))))) pss_nil)
      (pss_cons (ps_set (i := 2) nd rfl (.inl rfl) (pe_callBK (cr_maxDef rfl hr.units) (by rfl) mmax (by decide +kernel) (pa_cons (pe_lc (own := [("part", 3)]) (g := gName 3) (tt := tYes) (te := (tCall (spDeepest os ls qs n) [] E0 (tCons (tVar 0) (tCons (tVar 3) tNil)))) rfl nd (pi_list (pe_call Gparts_in hr (by rfl) gparts_in Fparts_in.kp bparts_in .nil pass0 (pa_cons (pv 1) pa_nil))) (blkOk_by (own := [("part", 3)]) (N := nDeepestOf) (sc := defScope sDeepestOf) (by decide +kernel)) (fun _ _ _ _ _ => pg_name (i := 3) nd rfl (.inl rfl)) (fun _ _ _ _ _ => pts_nil) (fun _ _ _ _ _ => (pe_call Gdeepest_of hr (by rfl) gdeepest_of Fdeepest_of.kp bdeepest_of .nil pass0 (pa_cons (pv 0) (pa_cons (pv 3) pa_nil))))) pa_nil) (pk_cons pe_int pk_nil)))
      (pss_cons (ps_if (PW.pt (pw_and (pt_cmpR op_eq (pe_ix ix_tup (pv 1) pe_int (fun _ _ => rfl)) pe_str (nomark _)) (pw_and1 (pt_cmpR op_eq (pe_ix ix_tup (pv 1) pe_int (fun _ _ => rfl)) pe_int (nomark _))))) (pss_one (ps_ret pe_int)) pss_nil)
      (pss_cons (ps_if (pt_cmpR op_eq (pe_ix ix_tup (pv 1) pe_int (fun _ _ => rfl)) pe_str (nomark _)) (pss_one (ps_ret (pe_op op_add (pe_ix ix_tup (pv 1) pe_int (fun _ _ => rfl)) (pv 2)))) pss_nil)
      (pss_one (ps_ret (pv 2))))))), ?_⟩
      obtain ⟨t, xs, ps, Ws, rfl, ht, hg⟩ := hG
      have hp := hg.parts
      have hl := All2.len _ _ hp.1
      have mid : ∀ (H1 : Hp), Ex H H1 → Ev (tCKw (rMaxDef K) (tCons (tLc (iList K (tCall (spParts os ls qs) [] E0 (tCons (tVar 1) tNil))) (gName 3) tYes (tCall (spDeepest os ls qs n) [] E0 (tCons (tVar 0) (tCons (tVar 3) tNil))) [3]) tNil) (tCons (tC (.int 0)) tNil)) [some (.ref s), some (.ref t), none, none] H1 (.int (mxN (Ws.map (dpt os qs)) : Int)) := fun H1 e1 => by
        have hg1 : GS os ls qs H1 (GAt os ls qs H1 n) xs ps Ws W := hg.keep (Kt.ex e1) fun v W z => z.ex e1
        have pr : EvL (tCall (spParts os ls qs) [] E0 (tCons (tVar 1) tNil)) [some (.ref s), some (.ref t), none, none] H1 ps := el_call (ea_cons (ev_var rfl) ea_nil) fun H2 e2 Q q E => ⟨GAt os ls qs H1 n, t, xs, ps, Ws, W, rfl, e2 _ _ (e1 _ _ ht), hg1.keep (Kt.ex e2) fun _ _ z => z, fun p H2 hp e2 h2 => q p H2 hp e2 h2⟩
        have key := el_lcNL (K := K) (t := tYes) (te := tCall (spDeepest os ls qs n) [] E0 (tCons (tVar 0) (tCons (tVar 3) tNil))) (j := 3) (vs := [3]) (fun _ => true) (fun i => .int (dpt os qs (Ws.getD i []) : Int)) pr (by omega) (fun x => rfl) (fun i x H2 e2 hi => ev_yes) (fun i x H2 e2 hi _ => ?_)
        · refine ev_maxDef key ?_
          rw [given_true, hl, range_get Ws fun W => V.int (dpt os qs W : Int), List.map_map]
          rfl
        · obtain ⟨W', hW, hR⟩ := All2.at _ _ hp.1 i x hi
          have hgd : Ws.getD i [] = W' := by rw [List.getD_eq_getElem?_getD, hW]; rfl
          refine ev_call (ea_cons (ev_var rfl) (ea_cons (ev_var rfl) ea_nil)) fun H3 e3 Q q E => ⟨s, x, W', rfl, hS, hs.ex ((e1.trans e2).trans e3), hR.ex ((e1.trans e2).trans e3), by omega, fun H4 e4 => ?_⟩
          rw [hgd] at q
          exact q H4 e4
      cases hg with
      | word hu hl' hm hb =>
        refine q_when (ev_tagS rfl ht) (fun _ H1 e1 => ?_) (fun h => absurd h (by decide))
        refine ⟨_, rfl, ev_itS (i := 1) rfl (e1 _ _ ht) rfl H1 (Ex.refl _) _ fun H2 e2 => ⟨_, _, rfl, .inr ((hu.ex e1).ex e2).st, fun l nl => ⟨s, l, os, ls, qs, W, rfl, hS, (hs.ex (e1.trans e2)).ex (Ex.new nl), sq_of upd_same, hm, by omega, hb, fun H3 e3 => q.go (((e1.trans e2).trans (Ex.new nl)).trans e3)⟩⟩⟩
      | row hu hr' hl' =>
        refine q_when (ev_tagS rfl ht) (fun h => absurd h (by decide)) fun _ H1 e1 => q_asg (mid H1 e1) fun H2 e2 => ?_
        have e12 := e1.trans e2
        refine q_when (et_and (b := false) (ev_tagS rfl (e12 _ _ ht)) (fun h => absurd h (by decide))) (fun h => absurd h (by decide)) fun _ H3 e3 => q_when (ev_tagS rfl ((e12.trans e3) _ _ ht)) (fun h => absurd h (by decide)) fun _ H4 e4 => s_ret (ev_var rfl) fun H5 e5 => ?_
        rw [← dpt_flat Ws fun W hW => by
          obtain ⟨v, hv⟩ := All2.mem _ _ hr' W hW
          exact GAt.shut hS n v W hv]
        exact q.go (((e12.trans e3).trans e4).trans e5)
      | @again k' p W' hk hr' =>
        refine q_when (ev_tagS rfl ht) (fun h => absurd h (by decide)) fun _ H1 e1 => q_asg (mid H1 e1) fun H2 e2 => ?_
        have e12 := e1.trans e2
        rw [dpt_again (GAt.shut hS _ _ _ hr')] at q
        have hmx : mxN ([W'].map (dpt os qs)) = dpt os qs W' := by show mxN [dpt os qs W'] = _; rw [mxN_cons]; show max _ 0 = _; omega
        refine q_when (et_and (ev_tagS rfl (e12 _ _ ht)) fun _ => et_test (ev_op (ev_itS (i := 1) rfl (e12 _ _ ht) rfl) ev_c (rv_eq rfl))) (fun hb H3 e3 => ?_) (fun hb H3 e3 => ?_)
        · have h0 : k' = 0 := by
            have := of_decide_eq_true (Bool.and_eq_true_iff.mp hb).2
            have := V.int.inj this
            omega
          rw [if_pos h0] at q
          exact s_ret ev_c fun H4 e4 => q.go ((e12.trans e3).trans e4)
        · have h0 : k' ≠ 0 := fun z => by
            subst z
            exact absurd hb (by decide)
          rw [if_neg h0] at q
          refine q_when (ev_tagS rfl ((e12.trans e3) _ _ ht)) (fun h => absurd h (by decide)) fun _ H4 e4 => s_ret (ev_var rfl) fun H5 e5 => ?_
          rw [hmx]
          exact q.go (((e12.trans e3).trans e4).trans e5)
      | @wrap k' a c p W' hk ha hc hr' =>
        refine q_when (ev_tagS rfl ht) (fun h => absurd h (by decide)) fun _ H1 e1 => q_asg (mid H1 e1) fun H2 e2 => ?_
        have e12 := e1.trans e2
        rw [dpt_wrap hS ha hc (GAt.shut hS _ _ _ hr')] at q
        have hmx : mxN ([W'].map (dpt os qs)) = dpt os qs W' := by show mxN [dpt os qs W'] = _; rw [mxN_cons]; show max _ 0 = _; omega
        refine q_when (et_and (b := false) (ev_tagS rfl (e12 _ _ ht)) (fun h => absurd h (by decide))) (fun h => absurd h (by decide)) fun _ H3 e3 => q_when (ev_tagS rfl ((e12.trans e3) _ _ ht)) (fun _ H4 e4 => ?_) (fun h => absurd h (by decide))
        have e14 := (e12.trans e3).trans e4
        refine s_ret (ev_op (ev_itS (i := 1) rfl (e14 _ _ ht) rfl) (ev_var rfl) rv_I0) fun H5 e5 => ?_
        rw [hmx, ← Int.natCast_add]
        exact q.go (e14.trans e5)
theorem ok_many {f fp : Addr} {fd dp : FuncData} (Fmany_of : Fun K "many_of" "many_of" sManyOf f fd) (bmany_of : Binds K fd ["great", "letter"] []) (gmany_of : mg "many_of" = some (.ref f)) (Fparts_in : Fun K "parts_in" "parts_in" sPartsIn fp dp) (bparts_in : Binds K dp ["great"] []) (gparts_in : mg "parts_in" = some (.ref fp)) (mlist : mg "list" = none) (msum : mg "sum" = none) : ∀ (n k : Nat), FnOk P w K mg base CX0 (k + n + 1) f fd ["great", "letter"] (spMany os ls qs n)
  | 0, k => fn_no fun vs H Q E ⟨_, _, _, _, h, _⟩ => h
  | n + 1, k => by
    have nd := scManyOf.nd
    have Gmany_of : FnOk P w K mg base CX0 (k + n + 1) f fd ["great", "letter"] (spMany os ls qs n) := ok_many Fmany_of bmany_of gmany_of Fparts_in bparts_in gparts_in mlist msum n k
    have Gparts_in : FnOk P w K mg base CX0 (k + n + 1) fp dp ["great"] (spParts os ls qs) := ok_partsIn Fparts_in mlist
    refine Fmany_of.ok scManyOf (fun vs H Q E h => ?_) (fun cdv A outer s H vs Q E hr h => ?_)
    · obtain ⟨v, x, W, rfl, _⟩ := h
      rfl
    · obtain ⟨v, x, W, rfl, hG, hn, q⟩ := h
      refine ⟨_, (pss_cons (ps_if (pt_cmpR op_eq (pe_ix ix_tup (pv 0) pe_int (fun _ _ => rfl)) pe_str (nomark _)) (pss_one (ps_ret (pe_bmF PySem.F.plainAttrs_tuple PySem.F.slot_tuple_count PySem.F.type_tuple_count (mt_cntT hr.units) (pe_ix ix_tup (pv 0) pe_int (fun _ _ => rfl)) (pa_cons (pv 1) pa_nil)))) pss_nil)
      (pss_cons (ps_set (i := 2) nd rfl (.inl rfl) (pe_callB (cr_sum rfl) (by rfl) msum (by decide +kernel) (pa_cons (pe_lc (own := [("part", 3)]) (g := gName 3) (tt := tYes) (te := (tCall (spMany os ls qs n) [] E0 (tCons (tVar 3) (tCons (tVar 1) tNil)))) rfl nd (pi_list (pe_call Gparts_in hr (by rfl) gparts_in Fparts_in.kp bparts_in .nil pass0 (pa_cons (pv 0) pa_nil))) (blkOk_by (own := [("part", 3)]) (N := nManyOf) (sc := defScope sManyOf) (by decide +kernel)) (fun _ _ _ _ _ => pg_name (i := 3) nd rfl (.inl rfl)) (fun _ _ _ _ _ => pts_nil) (fun _ _ _ _ _ => (pe_call Gmany_of hr (by rfl) gmany_of Fmany_of.kp bmany_of .nil pass0 (pa_cons (pv 3) (pa_cons (pv 1) pa_nil))))) pa_nil)))
      (pss_cons (ps_if (pt_cmpR op_eq (pe_ix ix_tup (pv 0) pe_int (fun _ _ => rfl)) pe_str (nomark _)) (pss_one (ps_ret (pe_op op_mulW (pe_ix ix_tup (pv 0) pe_int (fun _ _ => rfl)) (pv 2)))) pss_nil)
      (pss_cons (ps_if (pt_cmpR op_eq (pe_ix ix_tup (pv 0) pe_int (fun _ _ => rfl)) pe_str (nomark _)) (pss_one (ps_ret (pe_op op_add (pe_op op_mulW (pe_ix ix_tup (pv 0) pe_int (fun _ _ => rfl)) (pe_bm PySem.F.plainAttrs_list PySem.F.slot_list_count PySem.F.type_list_count (mt_cntS hr.units) (pe_lst (pa_cons (pe_ix ix_tup (pv 0) pe_int (fun _ _ => rfl)) (pa_cons (pe_ix ix_tup (pv 0) pe_int (fun _ _ => rfl)) pa_nil))) (pa_cons (pv 1) pa_nil))) (pv 2)))) pss_nil)
      (pss_one (ps_ret (pv 2))))))), ?_⟩
      obtain ⟨t, xs, ps, Ws, rfl, ht, hg⟩ := hG
      have hp := hg.parts
      have hl := All2.len _ _ hp.1
      have mid : ∀ (H1 : Hp), Ex H H1 → Ev (tCB (rSum K) (tCons (tLc (iList K (tCall (spParts os ls qs) [] E0 (tCons (tVar 0) tNil))) (gName 3) tYes (tCall (spMany os ls qs n) [] E0 (tCons (tVar 3) (tCons (tVar 1) tNil))) [3]) tNil)) [some (.ref t), some (.str x), none, none] H1 (.int ((Ws.map (List.count x)).sum : Nat)) := fun H1 e1 => by
        have hg1 : GS os ls qs H1 (GAt os ls qs H1 n) xs ps Ws W := hg.keep (Kt.ex e1) fun v W z => z.ex e1
        have pr : EvL (tCall (spParts os ls qs) [] E0 (tCons (tVar 0) tNil)) [some (.ref t), some (.str x), none, none] H1 ps := el_call (ea_cons (ev_var rfl) ea_nil) fun H2 e2 Q q E => ⟨GAt os ls qs H1 n, t, xs, ps, Ws, W, rfl, e2 _ _ (e1 _ _ ht), hg1.keep (Kt.ex e2) fun _ _ z => z, fun p H2 hp e2 h2 => q p H2 hp e2 h2⟩
        have key := el_lcNL (K := K) (t := tYes) (te := tCall (spMany os ls qs n) [] E0 (tCons (tVar 3) (tCons (tVar 1) tNil))) (j := 3) (vs := [3]) (fun _ => true) (fun i => .int ((Ws.getD i []).count x : Nat)) pr (by omega) (fun x => rfl) (fun i y H2 e2 hi => ev_yes) (fun i y H2 e2 hi _ => ?_)
        · have := ev_sumN (K := K) (ns := Ws.map fun W => ((W.count x : Nat) : Int)) key (by rw [given_true, hl, range_get Ws fun W => V.int ((W.count x : Nat) : Int), List.map_map]; rfl)
          rw [show (Ws.map fun W => ((W.count x : Nat) : Int)).sum = (((Ws.map (List.count x)).sum : Nat) : Int) by
            clear this key pr hg1 hl hp hg
            induction Ws with
            | nil => rfl
            | cons y r ih => rw [List.map_cons, List.map_cons, List.sum_cons, List.sum_cons, ih]; omega] at this
          exact this
        · obtain ⟨W', hW, hR⟩ := All2.at _ _ hp.1 i y hi
          have hgd : Ws.getD i [] = W' := by rw [List.getD_eq_getElem?_getD, hW]; rfl
          refine ev_call (ea_cons (ev_var rfl) (ea_cons (ev_var rfl) ea_nil)) fun H3 e3 Q q E => ⟨y, x, W', rfl, hR.ex ((e1.trans e2).trans e3), by omega, fun H4 e4 => ?_⟩
          rw [hgd] at q
          exact q H4 e4
      cases hg with
      | word hu hl' hm hb =>
        refine q_when (ev_tagS rfl ht) (fun _ H1 e1 => ?_) (fun h => absurd h (by decide))
        exact ev_itS (i := 1) rfl (e1 _ _ ht) rfl H1 (Ex.refl _) _ fun H2 e2 => ⟨⟨_, _, rfl, (hu.ex e1).ex e2⟩, _, rfl, _, W, x, rfl, rfl, ((hu.ex e1).ex e2).st, q.go (e1.trans e2)⟩
      | row hu hr' hl' =>
        refine q_when (ev_tagS rfl ht) (fun h => absurd h (by decide)) fun _ H1 e1 => q_asg (mid H1 e1) fun H2 e2 => ?_
        have e12 := e1.trans e2
        refine q_when (ev_tagS rfl (e12 _ _ ht)) (fun h => absurd h (by decide)) fun _ H3 e3 => q_when (ev_tagS rfl ((e12.trans e3) _ _ ht)) (fun h => absurd h (by decide)) fun _ H4 e4 => s_ret (ev_var rfl) fun H5 e5 => ?_
        rw [← count_flat]
        exact q.go (((e12.trans e3).trans e4).trans e5)
      | @again k' p W' hk hr' =>
        refine q_when (ev_tagS rfl ht) (fun h => absurd h (by decide)) fun _ H1 e1 => q_asg (mid H1 e1) fun H2 e2 => ?_
        have e12 := e1.trans e2
        rw [count_again] at q
        have hb := GAt.bits _ _ _ hr'
        have hc := count_le_len x W'
        refine q_when (ev_tagS rfl (e12 _ _ ht)) (fun _ H3 e3 => ?_) (fun h => absurd h (by decide))
        refine s_ret (ev_op (ev_itS (i := 1) rfl ((e12.trans e3) _ _ ht) rfl) (ev_var rfl) (rv_I (mulW_of (n := n) hk (by show W'.count x + 0 < _; omega) (by omega)))) fun H4 e4 => ?_
        show Q (.int ((k' : Int) * ((W'.count x + 0 : Nat) : Int))) H4
        rw [Nat.add_zero, ← Int.natCast_mul]
        exact q.go ((e12.trans e3).trans e4)
      | @wrap k' a c p W' hk ha hc' hr' =>
        refine q_when (ev_tagS rfl ht) (fun h => absurd h (by decide)) fun _ H1 e1 => q_asg (mid H1 e1) fun H2 e2 => ?_
        have e12 := e1.trans e2
        rw [count_wrap] at q
        refine q_when (ev_tagS rfl (e12 _ _ ht)) (fun h => absurd h (by decide)) fun _ H3 e3 => q_when (ev_tagS rfl ((e12.trans e3) _ _ ht)) (fun _ H4 e4 => ?_) (fun h => absurd h (by decide))
        have e14 := (e12.trans e3).trans e4
        have h2 : [a, c].count x ≤ 2 := List.count_le_length
        refine s_ret (ev_op (ev_op (ev_itS (i := 1) rfl (e14 _ _ ht) rfl) (fun H5 e5 Q q => el_lst (ea_cons (ev_itS (i := 2) rfl (e14 _ _ ht) rfl) (ea_cons (ev_itS (i := 4) rfl (e14 _ _ ht) rfl) ea_nil)) (by show 2 ≤ 100000; decide) H5 e5 _ fun l H6 nl e6 hl6 => ⟨.inl ⟨rfl, _, sq_of hl6⟩, _, rfl, l, [a, c], x, rfl, rfl, sq_of hl6, q H6 e6⟩) (rv_I (mulW_of (n := 1) hk (by
          have : (2 : Nat) ^ 2 ≤ 2 ^ (300 * 1) := Nat.pow_le_pow_right (by decide) (by decide)
          omega) (by decide)))) (ev_var rfl) rv_I0) fun H5 e5 => ?_
        show Q (.int ((k' : Int) * (([a, c].count x : Nat) : Int) + ((W'.count x + 0 : Nat) : Int))) H5
        rw [Nat.add_zero, ← Int.natCast_mul, ← Int.natCast_add]
        exact q.go (e14.trans e5)
end
end Eh
set_option Elab.async false
set_option linter.all false
set_option maxRecDepth 100000
set_option maxHeartbeats 4000000
namespace Eh
open PySem PySem.Spec PyProof.Rows L2 Evl
abbrev nLawCount : List Str := ["pot", "big", "some"]
theorem scLawCount : FnScope nLawCount ["pot", "big"] (defScope sLawCount) := ⟨rfl, rfl, rfl, by decide +kernel, rfl, by decide +kernel, by decide +kernel⟩
abbrev nLawGreat : List Str := ["pot", "sheet", "deep", "big", "way", "often", "part", "a", "k"]
theorem scLawGreat : FnScope nLawGreat ["pot", "sheet", "deep", "big"] (defScope sLawGreat) := ⟨rfl, rfl, rfl, by decide +kernel, rfl, by decide +kernel, by decide +kernel⟩
theorem ten60 : (10 : Int) ^ (60 : Int).toNat = 1000000000000000000000000000000000000000000000000000000000000 := by decide +kernel
theorem ten30 : (10 : Int) ^ (30 : Int).toNat = 1000000000000000000000000000000 := by decide +kernel
theorem two200 : (2 : Nat) ^ 200 = 1606938044258990275541962092341162602522202993782792835301376 := by decide +kernel
def spCount : Sp := fun vs H Q _ => ∃ (p c : Addr) (ns : List Int) (big : Bool), vs = [.ref p, .bl big] ∧ Pot p c ns H ∧ ∀ (k : Nat) H', k < 2 ^ 200 → (big = false → k ≤ 3) → Keep p H H' → Pot p c ns H' → Q (.int (k : Int)) H'
def spGreat (n : Nat) : Sp := fun vs H Q _ => ∃ (p c s : Addr) (ns : List Int) (os ls qs : List Str) (deep : Nat) (big : Bool), vs = [.ref p, .ref s, .int (deep : Int), .bl big] ∧ deep < n ∧ Pot p c ns H ∧ Sht os ls qs ∧ SheetAt H s os ls qs ∧
  ∀ (v : V) (W : List Str) H', GAt os ls qs H' (deep + 1) v W → (big = false → W.length ≤ 6 * 3 ^ deep) → Keep p H H' → Pot p c ns H' → Q v H'
theorem keep_lst {H : Hp} {a : Addr} {xs : List V} {o : HO} (h : H a = some (.lst xs)) : Kt H (upd H a o) := Kt.lst h
section
variable {P : Program} {w : World} {K : PySem.W.Frag} {mg : Str → Option Value} {base : Heap}
theorem ok_count {f fP : Addr} {fd fdP : FuncData} {k : Nat} (F : Fun K "_law_count" "_law_count" sLawCount f fd) (Fpick : Fun K "_law_pick" "_law_pick" sPick fP fdP) (GP : ∀ k, FnOk P w K mg base CX0 (k + 2) fP fdP ["pot", "many"] spPick) (GW : ∀ k, FnOk P w K mg base CX0 (k + 2) fP fdP ["pot", "many"] spPickW) (bpick : Binds K fdP ["pot", "many"] []) (gpick : mg "_law_pick" = some (.ref fP)) (mlen : mg "len" = none) : FnOk P w K mg base CX0 (k + 3) f fd ["pot", "big"] spCount := by
  have nd := scLawCount.nd
  have Gpick := GP k
  have GpickW := GW k
  refine F.ok scLawCount (fun vs H Q E h => ?_) (fun cdv A outer s H vs Q E hr h => ?_)
  · obtain ⟨p, c, ns, big, rfl, _⟩ := h
    rfl
  · obtain ⟨p, c, ns, big, rfl, hP, q⟩ := h
    refine ⟨_, (pss_cons (ps_set (i := 2) nd rfl (.inl rfl) (pe_lst (pa_cons pe_int (pa_cons pe_int (pa_cons pe_int (pa_cons (pe_call Gpick hr (by rfl) gpick Fpick.kp bpick .nil pass0 (pa_cons (pv 0) (pa_cons pe_int pa_nil))) pa_nil))))))
      (pss_cut (ps_if (pt_val (pv 1)) (pss_one (ps_set (i := 2) nd rfl (.inl rfl) (pe_op op_cat (pv 2) (pe_lst (pa_cons (pe_call Gpick hr (by rfl) gpick Fpick.kp bpick .nil pass0 (pa_cons (pv 0) (pa_cons pe_int pa_nil))) (pa_cons (pe_call GpickW hr (by rfl) gpick Fpick.kp bpick .nil pass0 (pa_cons (pv 0) (pa_cons (pe_op op_pow pe_int pe_int) pa_nil))) (pa_cons (pe_op op_sub (pe_op op_pow pe_int pe_int) (pe_call Gpick hr (by rfl) gpick Fpick.kp bpick .nil pass0 (pa_cons (pv 0) (pa_cons pe_int pa_nil)))) pa_nil))))))) pss_nil)
      (pss_one (ps_ret (pe_ix ix_list (pv 2) (pe_call Gpick hr (by rfl) gpick Fpick.kp bpick .nil pass0 (pa_cons (pv 0) (pa_cons (pe_callB call_len_seq (by rfl) mlen PySem.boot_len (pa_cons (pv 2) pa_nil)) pa_nil))) (fun _ _ => rfl)))))), ?_⟩
    refine ⟨_, rfl, p, c, ns, 4, rfl, by decide, by decide, hP, fun v H1 hv kp1 hP1 => ⟨by show 4 ≤ sizeLine; decide, fun l nl => ?_⟩⟩
    have e1 : Ex H1 _ := Ex.new (o := .lst [.int 0, .int 1, .int 2, .int (v : Int)]) nl
    refine ⟨fun σ' H' => ∃ (l' : Addr) (cs : List Nat), σ' = [some (.ref p), some (.bl big), some (.ref l')] ∧ l' ≠ p ∧ H' l' = some (.lst (cs.map fun k : Nat => V.int (k : Int))) ∧ 4 ≤ cs.length ∧ cs.length ≤ 7 ∧ (∀ x ∈ cs, x < 2 ^ 200 ∧ (big = false → x ≤ 3)) ∧ Keep p H H' ∧ Pot p c ns H', ⟨_, rfl, big, rfl, ?_⟩, ?_⟩
    · have h200 : ∀ x : Nat, x ≤ 3 → x < 2 ^ 200 := fun x h => by rw [two200]; omega
      cases big with
      | false =>
        refine iteF ⟨l, [0, 1, 2, v], rfl, (hP1.ne_new nl).1.symm, upd_same, by show 4 ≤ 4; decide, by show 4 ≤ 7; decide, fun x hx => ?_, kp1.trans (Keep.ofEx e1), hP1.ex e1⟩
        have : x ≤ 3 := by
          simp only [List.mem_cons, List.not_mem_nil, or_false] at hx
          omega
        exact ⟨h200 x this, fun _ => this⟩
      | true =>
        have hP2 := hP1.ex e1
        refine iteT ⟨_, rfl, _, rfl, p, c, ns, 1000, rfl, by decide, by decide, hP2, fun v1 H3 hv1 kp3 hP3 => ⟨_, rfl, 10, 30, rfl, rfl, ⟨by decide, by decide, by decide⟩, p, c, ns, 10 ^ (30 : Int).toNat, rfl, by rw [ten30]; decide, by rw [ten30]; decide +kernel, hP3, fun v2 H4 hv2 kp4 hP4 => ⟨10, 60, rfl, rfl, ⟨by decide, by decide, by decide⟩, _, rfl, p, c, ns, 3, rfl, by decide, by decide, hP4, fun v3 H5 hv3 kp5 hP5 => ⟨_, _, rfl, rfl, by show 3 ≤ sizeLine; decide, fun l2 nl2 => ?_⟩⟩⟩⟩
        have lp := (hP1.ne_new nl).1.symm
        have hl5 : H5 l = _ := kp5 _ _ lp (kp4 _ _ lp (kp3 _ _ lp upd_same))
        have e5 : Ex H5 _ := Ex.new (o := .lst [.int (v1 : Int), .int (v2 : Int), .int ((10 : Int) ^ (60 : Int).toNat - (v3 : Int))]) nl2
        refine ⟨l, l2, _, _, rfl, rfl, e5 _ _ hl5, upd_same, by show 4 + 3 ≤ sizeLine; decide, fun r nr => ?_⟩
        have e6 := e5.trans (Ex.new (o := .lst ([.int 0, .int 1, .int 2, .int (v : Int)] ++ [.int (v1 : Int), .int (v2 : Int), .int ((10 : Int) ^ (60 : Int).toNat - (v3 : Int))])) nr)
        have kp6 := (((kp1.trans (Keep.ofEx e1)).trans kp3).trans kp4).trans (kp5.trans (Keep.ofEx e6))
        rw [ten30] at hv2
        have e60 : (10 : Int) ^ (60 : Int).toNat - (v3 : Int) = ((1000000000000000000000000000000000000000000000000000000000000 - v3 : Nat) : Int) := by
          rw [ten60]
          omega
        refine ⟨r, [0, 1, 2, v, v1, v2, 1000000000000000000000000000000000000000000000000000000000000 - v3], rfl, ((hP5.ex e5).ne_new nr).1.symm, ?_, by show 4 ≤ 7; decide, by show 7 ≤ 7; decide, fun x hx => ⟨?_, fun z => nomatch z⟩, kp6, hP5.ex e6⟩
        · rw [upd_same]
          dsimp only
          rw [e60]
          rfl
        · rw [two200]
          simp only [List.mem_cons, List.not_mem_nil, or_false] at hx
          omega
    · rintro σ' H' ⟨l', cs, rfl, lp, hl', c4, c7, hcs, kp', hP'⟩
      refine ⟨_, rfl, _, rfl, _, rfl, l', _, rfl, .inl (sq_of hl'), p, c, ns, _, rfl, by rw [List.length_map]; omega, by rw [List.length_map]; omega, hP', fun v H3 hv kp3 hP3 => ?_⟩
      rw [List.length_map] at hv
      have hv' : v < cs.length := by omega
      refine ⟨l', _, _, .int (cs[v] : Nat), rfl, rfl, sq_of (kp3 _ _ lp hl'), atI_nat ?_, q _ H3 (hcs _ (List.getElem_mem hv')).1 (hcs _ (List.getElem_mem hv')).2 (kp'.trans kp3) hP3⟩
      rw [List.getElem?_map, List.getElem?_eq_getElem hv']
      rfl
theorem ok_great {f fP fS fC : Addr} {fd fdP fdS fdC : FuncData} (Fgreat : Fun K "_law_great" "_law_great" sLawGreat f fd) (bgreat : Binds K fd ["pot", "sheet", "deep", "big"] []) (ggreat : mg "_law_great" = some (.ref f)) (Fpick : Fun K "_law_pick" "_law_pick" sPick fP fdP) (GP : ∀ k, FnOk P w K mg base CX0 (k + 2) fP fdP ["pot", "many"] spPick) (bpick : Binds K fdP ["pot", "many"] []) (gpick : mg "_law_pick" = some (.ref fP)) (Fshut : Fun K "_law_shut" "_law_shut" sShut fS fdS) (GS : ∀ k, FnOk P w K mg base CX0 (k + 3) fS fdS ["pot", "sheet", "most"] spShut) (bshut : Binds K fdS ["pot", "sheet", "most"] []) (gshut : mg "_law_shut" = some (.ref fS)) (Fcount : Fun K "_law_count" "_law_count" sLawCount fC fdC) (GC : ∀ k, FnOk P w K mg base CX0 (k + 3) fC fdC ["pot", "big"] spCount) (bcount : Binds K fdC ["pot", "big"] []) (gcount : mg "_law_count" = some (.ref fC)) (mint : mg "int" = none) (mlen : mg "len" = none) (mrange : mg "range" = none) (mtuple : mg "tuple" = none) : ∀ (n k : Nat), FnOk P w K mg base CX0 (k + n + 3) f fd ["pot", "sheet", "deep", "big"] (spGreat n)
  | 0, k => fn_no fun vs H Q E ⟨_, _, _, _, _, _, _, _, _, _, h, _⟩ => Nat.not_lt_zero _ h
  | n + 1, k => by
    have nd := scLawGreat.nd
    have Ggreat : FnOk P w K mg base CX0 (k + n + 3) f fd ["pot", "sheet", "deep", "big"] (spGreat n) := ok_great Fgreat bgreat ggreat Fpick GP bpick gpick Fshut GS bshut gshut Fcount GC bcount gcount mint mlen mrange mtuple n k
    have Gpick := GP (k + n + 1)
    have Gshut := GS (k + n)
    have Gcount := GC (k + n)
    refine Fgreat.ok scLawGreat (fun vs H Q E h => ?_) (fun cdv A outer s H vs Q E hr h => ?_)
    · obtain ⟨p, c, s, ns, os, ls, qs, deep, big, rfl, _⟩ := h
      rfl
    · obtain ⟨p, c, s, ns, os, ls, qs, deep, big, rfl, hd, hP, hS, hs, q⟩ := h
      refine ⟨_, (pss_cons (ps_set (i := 4) nd rfl (.inl rfl) (pe_op op_mul (pe_call Gpick hr (by rfl) gpick Fpick.kp bpick .nil pass0 (pa_cons (pv 0) (pa_cons pe_int pa_nil))) (pe_callTy call_int1 (by rfl) mint (by decide +kernel) (pa_cons (pe_cmpR op_gt (pv 2) pe_int (nomark _)) pa_nil))))
      (pss_cons (ps_if (pt_cmpR op_eq (pv 4) pe_int (nomark _)) (pss_one (ps_ret (pe_tup (pa_cons pe_str (pa_cons (pe_callTy call_tuple_F (by rfl) mtuple (by decide +kernel) (pa_cons (pe_call Gshut hr (by rfl) gshut Fshut.kp bshut .nil pass0 (pa_cons (pv 0) (pa_cons (pv 1) (pa_cons pe_int pa_nil)))) pa_nil)) pa_nil))))) pss_nil)
      (pss_cons (ps_if (pt_cmpR op_eq (pv 4) pe_int (nomark _)) (pss_one (ps_ret (pe_tup (pa_cons pe_str (pa_cons (pe_callTy call_tuple_of (by rfl) mtuple (by decide +kernel) (pa_cons (pe_lc (own := [("k", 8)]) (g := gName 8) (tt := tYes) (te := (tCall (spGreat n) [] E0 (tCons (tVar 0) (tCons (tVar 1) (tCons (tOp (rI0 fun i j => .int (i - j)) (tVar 2) (tC (.int 1))) (tCons (tVar 3) tNil)))))) rfl nd (pi_range1 (by rfl) mrange (pa_cons (pe_call Gpick hr (by rfl) gpick Fpick.kp bpick .nil pass0 (pa_cons (pv 0) (pa_cons pe_int pa_nil))) pa_nil)) (blkOk_by (own := [("k", 8)]) (N := nLawGreat) (sc := defScope sLawGreat) (by decide +kernel)) (fun _ _ _ _ _ => pg_name (i := 8) nd rfl (.inl rfl)) (fun _ _ _ _ _ => pts_nil) (fun _ _ _ _ _ => (pe_call Ggreat hr (by rfl) ggreat Fgreat.kp bgreat .nil pass0 (pa_cons (pv 0) (pa_cons (pv 1) (pa_cons (pe_op op_sub (pv 2) pe_int) (pa_cons (pv 3) pa_nil))))))) pa_nil)) pa_nil))))) pss_nil)
      (pss_cons (ps_set (i := 5) nd rfl (.inl rfl) (pe_call Gcount hr (by rfl) gcount Fcount.kp bcount .nil pass0 (pa_cons (pv 0) (pa_cons (pv 3) pa_nil))))
      (pss_cons (ps_set (i := 6) nd rfl (.inl rfl) (pe_call Ggreat hr (by rfl) ggreat Fgreat.kp bgreat .nil pass0 (pa_cons (pv 0) (pa_cons (pv 1) (pa_cons (pe_op op_sub (pv 2) pe_int) (pa_cons (pv 3) pa_nil))))))
      (pss_cons (ps_if (pt_cmpR op_eq (pv 4) pe_int (nomark _)) (pss_one (ps_ret (pe_tup (pa_cons pe_str (pa_cons (pv 5) (pa_cons (pv 6) pa_nil)))))) pss_nil)
      (pss_cons (ps_set (i := 7) nd rfl (.inl rfl) (pe_ix ix_tup (pe_ix ix_tup (pv 1) pe_int (fun _ _ => rfl)) (pe_call Gpick hr (by rfl) gpick Fpick.kp bpick .nil pass0 (pa_cons (pv 0) (pa_cons (pe_callB call_len_seq (by rfl) mlen PySem.boot_len (pa_cons (pe_ix ix_tup (pv 1) pe_int (fun _ _ => rfl)) pa_nil)) pa_nil))) (fun _ _ => rfl)))
      (pss_one (ps_ret (pe_tup (pa_cons pe_str (pa_cons (pv 5) (pa_cons (pv 7) (pa_cons (pv 6) (pa_cons (pe_ix ix_tup (pe_ix ix_tup (pv 1) pe_int (fun _ _ => rfl)) (pe_call Gpick hr (by rfl) gpick Fpick.kp bpick .nil pass0 (pa_cons (pv 0) (pa_cons (pe_callB call_len_seq (by rfl) mlen PySem.boot_len (pa_cons (pe_ix ix_tup (pv 1) pe_int (fun _ _ => rfl)) pa_nil)) pa_nil))) (fun _ _ => rfl)) pa_nil))))))))))))))), ?_⟩
      refine ⟨_, rfl, p, c, ns, 4, rfl, by decide, by decide, hP, fun v H1 hv kp1 hP1 => ⟨_, rfl, _, _, rfl, rfl, .inr ⟨_, rfl, _, _, rfl, rfl, .inr ?_, ?_⟩⟩⟩
      · by_cases h0 : (0 : Int) < (deep : Int)
        · rw [decide_eq_true h0]; exact ⟨by decide, by decide⟩
        · rw [decide_eq_false h0]; exact ⟨by decide, by decide⟩
      have hw : ∃ way : Nat, (v : Int) * (if decide ((0 : Int) < (deep : Int)) = true then 1 else 0) = (way : Int) ∧ way < 4 ∧ (deep = 0 → way = 0) := by
        by_cases h0 : (0 : Int) < (deep : Int)
        · rw [decide_eq_true h0]
          exact ⟨v, by simp, by omega, fun z => by omega⟩
        · rw [decide_eq_false h0]
          exact ⟨0, by simp, by omega, fun _ => rfl⟩
      obtain ⟨way, hway, w4, wd⟩ := hw
      show tSeq _ _ _ [some (.ref p), some (.ref s), some (.int (deep : Int)), some (.bl big), some (.int ((v : Int) * (if decide ((0 : Int) < (deep : Int)) = true then 1 else 0))), none, none, none, none] H1
      rw [hway]
      have hs1 := hs.keep hP kp1
      refine ⟨_, rfl, rfl, _, rfl, ite2 (fun h0 => ?_) (fun h0 => ?_)⟩
      · refine ⟨_, rfl, _, rfl, p, c, s, ns, os, ls, qs, 3, rfl, by decide, hP1, hS, hs1, fun ws l H2 hm hl hb kp2 hP2 nl hl2 => ⟨l, _, rfl, sq_of hl2, fun u uo nu tf => ⟨by show 2 ≤ sizeLine; decide, fun t nt => ?_⟩⟩⟩
        have e2 := Ex.new (o := .frz uo (.tup (ws.map V.str))) nu
        have e3 := e2.trans (Ex.new (o := .tup [.str "word", .ref u]) nt)
        refine q (.ref t) ws _ ⟨t, _, [], [], rfl, upd_same, .word ((TupF.new tf).ex (Ex.new nt)) (by omega) hm hb⟩ (fun _ => ?_) ((kp1.trans kp2).trans (Keep.ofEx e3)) (hP2.ex e3)
        have := Nat.pow_le_pow_right (n := 3) (by decide) (Nat.zero_le deep)
        omega
      have w0 : way ≠ 0 := fun z => h0 (by rw [z]; exact decide_eq_true rfl)
      obtain ⟨d, rfl⟩ : ∃ d, deep = d + 1 := ⟨deep - 1, by have : deep ≠ 0 := fun z => w0 (wd z); omega⟩
      have ed : ((d + 1 : Nat) : Int) - 1 = (d : Int) := by omega
      have p3 : 3 ^ (d + 1) = 3 * 3 ^ d := by rw [Nat.pow_succ, Nat.mul_comm]
      -- a call of itself
      have call : ∀ {σ : L2.St} {Q : VK} (H' : Hp), σ[0]? = some (some (.ref p)) → σ[1]? = some (some (.ref s)) → σ[2]? = some (some (.int ((d + 1 : Nat) : Int))) → σ[3]? = some (some (.bl big)) → Keep p H H' → Pot p c ns H' → (∀ (v : V) (W : List Str) H2, GAt os ls qs H2 (d + 1) v W → (big = false → W.length ≤ 6 * 3 ^ d) → Keep p H' H2 → Pot p c ns H2 → Q v H2) → tCall (spGreat n) [] E0 (tCons (tVar 0) (tCons (tVar 1) (tCons (tOp (rI0 fun i j => .int (i - j)) (tVar 2) (tC (.int 1))) (tCons (tVar 3) tNil)))) σ H' Q := fun {σ Q} H' h0 h1 h2 h3 kp' hP' kk => by
        refine ⟨_, h0, _, h1, _, h2, _, _, rfl, rfl, _, h3, p, c, s, ns, os, ls, qs, d, big, ?_, by omega, hP', hS, hs.keep hP kp', kk⟩
        dsimp only
        rw [ed]
        rfl
      refine ⟨_, rfl, rfl, _, rfl, ite2 (fun h1 => ?_) (fun h1 => ?_)⟩
      · refine ⟨_, rfl, p, c, ns, 4, rfl, by decide, by decide, hP1, fun v H2 hv kp2 hP2 => ⟨(v : Int), rfl, by omega, by omega, fun D nD => ?_⟩⟩
        have kp02 := kp1.trans kp2
        have pD := hP2.ne_new nD
        refine lc_range (lo := 0) (n := ((v : Int)).toNat) (fun i H' => ∃ (ps : List V) (Ws : List (List Str)), ps.length = i ∧ H' D = some (.lst ps) ∧ All2 (GAt os ls qs H' (d + 1)) ps Ws ∧ (big = false → ∀ W ∈ Ws, W.length ≤ 6 * 3 ^ d) ∧ Keep p H2 H' ∧ Pot p c ns H') ?_ ?_ ?_
        · exact ⟨[], [], rfl, upd_same, trivial, fun _ W h => (List.not_mem_nil h).elim, (Keep.refl p H2).new nD, hP2.new pD.1 pD.2⟩
        · rintro i H' hi ⟨ps, Ws, hl, hD, hA, hW, kp', hP'⟩
          refine ⟨rfl, yesT (call H' rfl rfl rfl rfl (kp02.trans kp') hP' fun x W H3 hx hw kp3 hP3 => ?_)⟩
          have hD3 := kp3 _ _ pD.1.symm hD
          have kt : Kt H3 (upd H3 D (.lst (ps ++ [x]))) := keep_lst hD3
          refine ⟨_, hD3, sz_lt (by omega), ps ++ [x], Ws ++ [W], by rw [List.length_append, hl]; rfl, upd_same, All2.snoc (GAt.keep kt _ _ _ hx) _ _ (All2.mono (fun v W h => GAt.keep kt _ _ _ (h.kp hP' kp3)) _ _ hA), fun hb W' hm => ?_, (kp'.trans kp3).new nD, hP3.new pD.1 pD.2⟩
          rcases List.mem_append.mp hm with z | z
          · exact hW hb W' z
          · rw [List.mem_singleton.mp z]
            exact hw hb
        · rintro H3 ⟨ps, Ws, hl, hD, hA, hW, kp3, hP3⟩
          rw [Int.toNat_natCast] at hl
          refine ⟨D, _, rfl, .inl ⟨sq_of hD, fun u nu => ⟨by show 2 ≤ sizeLine; decide, fun t nt => ?_⟩⟩⟩
          have e3 := (Ex.new (o := .tup ps) nu).trans (Ex.new (o := .tup [.str "row", .ref u]) nt)
          refine q (.ref t) Ws.flatten _ ⟨t, _, ps, Ws, rfl, upd_same, .row (Ex.new nt _ _ upd_same) (All2.mono (fun v W h => h.ex e3) _ _ hA) (by omega)⟩ (fun hb => ?_) ((kp02.trans kp3).trans (Keep.ofEx e3)) (hP3.ex e3)
          have h1 := sum_lt Ws (hW hb)
          rw [flat_len, p3]
          rw [← All2.len _ _ hA] at h1
          have h2 := Nat.mul_le_mul_right (6 * 3 ^ d) (show ps.length ≤ 3 by omega)
          omega
      refine ⟨_, rfl, _, rfl, p, c, ns, big, rfl, hP1, fun often H2 ho hob kp2 hP2 => ?_⟩
      refine call H2 rfl rfl rfl rfl (kp1.trans kp2) hP2 fun part W H3 hx hw kp3 hP3 => ?_
      have kp03 := (kp1.trans kp2).trans kp3
      refine ⟨_, rfl, rfl, _, rfl, ite2 (fun h2 => ?_) (fun h2 => ?_)⟩
      · refine ⟨_, rfl, _, rfl, by show 3 ≤ sizeLine; decide, fun t nt => ?_⟩
        have e4 := Ex.new (o := .tup [.str "again", .int (often : Int), part]) nt
        refine q (.ref t) _ _ ⟨t, _, [part], [W], rfl, upd_same, .again ho (hx.ex e4)⟩ (fun hb => ?_) (kp03.trans (Keep.ofEx e4)) (hP3.ex e4)
        rw [rep_len, p3]
        have := Nat.mul_le_mul (hob hb) (hw hb)
        omega
      · obtain ⟨ao, ap, ac, g0, g1, g2, g3⟩ := hs.keep hP kp03
        have o0 : os ≠ [] := fun z => by have := hS.o1; rw [z] at this; exact absurd this (by decide)
        have c0 : qs ≠ [] := fun z => by have := hS.c1; rw [z] at this; exact absurd this (by decide)
        refine draw_rd hP3 rfl rfl g0 (show atI [V.ref ao, .ref ap, .ref ac] 0 = some (.ref ao) from rfl) g1 o0 (by have := hS.o4; omega) fun a H4 ha kp4 hP4 => ?_
        refine ⟨_, rfl, _, rfl, _, rfl, draw_rd hP4 rfl rfl (kp4 _ _ (hP3.ne_tup g0) g0) (show atI [V.ref ao, .ref ap, .ref ac] 2 = some (.ref ac) from rfl) (kp4 _ _ (hP3.ne_tup g3) g3) c0 (by have := hS.c4; omega) fun z H5 hz kp5 hP5 => ⟨by show 5 ≤ sizeLine; decide, fun t nt => ?_⟩⟩
        have e6 := Ex.new (o := .tup [.str "wrap", .int (often : Int), .str a, part, .str z]) nt
        refine q (.ref t) _ _ ⟨t, _, [part], [W], rfl, upd_same, .wrap ho ha hz (((hx.kp hP3 kp4).kp hP4 kp5).ex e6)⟩ (fun hb => ?_) (((kp03.trans kp4).trans kp5).trans (Keep.ofEx e6)) (hP5.ex e6)
        rw [List.length_append, List.length_append, List.length_replicate, List.length_replicate, p3]
        have h1 := hob hb
        have h3 := hw hb
        have h4 : 1 ≤ 3 ^ d := Nat.one_le_pow _ _ (by decide)
        omega
end
end Eh
set_option Elab.async false
set_option linter.all false
set_option maxRecDepth 100000
set_option maxHeartbeats 4000000
namespace Eh
open PySem PySem.Spec PyProof.Rows L2 Evl
/-! great words that are made where no letter is drawn -/
def EvG (os ls qs : List Str) (te : TE) (σ : L2.St) (H : Hp) (n : Nat) : Prop := ∀ H1, Ex H H1 → ∀ Q : VK, (∀ v W H2, Ex H1 H2 → GAt os ls qs H2 n v W → Q v H2) → te σ H1 Q
def EvGs (os ls qs : List Str) (ta : TA) (σ : L2.St) (H : Hp) (n m : Nat) : Prop := ∀ H1, Ex H H1 → ∀ Q : List V → Hp → Prop, (∀ vs Ws H2, Ex H1 H2 → All2 (GAt os ls qs H2 n) vs Ws → vs.length = m → Q vs H2) → ta σ H1 Q
section
variable {os ls qs : List Str} {σ : L2.St} {H : Hp} {te ta tc tk : TE} {n m : Nat}
theorem EvG.le (h : EvG os ls qs te σ H n) (hm : n ≤ m) : EvG os ls qs te σ H m := fun H1 e Q q => h H1 e Q fun v W H2 e2 g => q v W H2 e2 (g.le hm)
theorem EvG.mono {H' : Hp} (e : Ex H H') (h : EvG os ls qs te σ H n) : EvG os ls qs te σ H' n := fun H1 e1 Q q => h H1 (e.trans e1) Q q
theorem eg_var {i : Nat} {v : V} {W : List Str} (h : σ[i]? = some (some v)) (g : GAt os ls qs H n v W) : EvG os ls qs (tVar i) σ H n := fun H1 e Q q => ⟨v, h, q v W H1 (Ex.refl _) (g.ex e)⟩
theorem eg_word {tw : TA} {W : List Str} (h : EvA tw σ H (W.map V.str)) (hl : W.length ≤ 60) (hm : ∀ x ∈ W, x ∈ os ++ ls ++ qs) (hb : bal os qs W 0 = some 0) : EvG os ls qs (tTup (tCons (tC (.str "word")) (tCons (tTupF tw) tNil))) σ H 1 := fun H1 e Q q =>
  h H1 e _ fun H2 e2 => ⟨by rw [List.length_map]; exact sz_of (by omega), fun u uo nu tf => ⟨by show 2 ≤ sizeLine; decide, fun t nt => q (.ref t) W _ (e2.trans ((Ex.new nu).trans (Ex.new nt))) ⟨t, _, [], [], rfl, upd_same, .word ((TupF.new tf).ex (Ex.new nt)) hl hm hb⟩⟩⟩
theorem eg_nil : EvG os ls qs (tTup (tCons (tC (.str "word")) (tCons (tTupF tNil) tNil))) σ H 1 := eg_word (W := []) ea_nil (Nat.zero_le _) (fun x h => (List.not_mem_nil h).elim) rfl
theorem eg_two {a c : Str} (hS : Sht os ls qs) (ha : a ∈ os) (hc : c ∈ qs) (h1 : Ev ta σ H (.str a)) (h2 : Ev tc σ H (.str c)) : EvG os ls qs (tTup (tCons (tC (.str "word")) (tCons (tTupF (tCons ta (tCons tc tNil))) tNil))) σ H 1 := eg_word (W := [a, c]) (ea_cons h1 (ea_cons h2 ea_nil)) (by show 2 ≤ 60; decide) (fun x h => by
  rcases List.mem_cons.mp h with e | e
  · rw [e]; exact List.mem_append.mpr (.inl (List.mem_append.mpr (.inl ha)))
  · rw [List.mem_singleton.mp e]; exact List.mem_append.mpr (.inr hc)) (by
  rw [show [a, c] = [a] ++ [c] from rfl, bal_app, bal_one_op ha]
  exact bal_one_cl hS hc 0)
theorem eg_again {k : Nat} (h : EvG os ls qs te σ H n) (h1 : Ev tk σ H (.int (k : Int))) (hk : k < 2 ^ 200) : EvG os ls qs (tTup (tCons (tC (.str "again")) (tCons tk (tCons te tNil)))) σ H (n + 1) := fun H1 e Q q =>
  h1 H1 e _ fun H2 e2 => h H2 (e.trans e2) _ fun v W H3 e3 g => ⟨by show 3 ≤ sizeLine; decide, fun t nt => q (.ref t) _ _ ((e2.trans e3).trans (Ex.new nt)) ⟨t, _, [v], [W], rfl, upd_same, .again hk (g.ex (Ex.new nt))⟩⟩
theorem eg_wrap {k : Nat} {a c : Str} (ha : a ∈ os) (hc : c ∈ qs) (h : EvG os ls qs te σ H n) (h1 : Ev tk σ H (.int (k : Int))) (hk : k < 2 ^ 200) (h2 : Ev ta σ H (.str a)) (h3 : Ev tc σ H (.str c)) : EvG os ls qs (tTup (tCons (tC (.str "wrap")) (tCons tk (tCons ta (tCons te (tCons tc tNil)))))) σ H (n + 1) := fun H1 e Q q =>
  h1 H1 e _ fun H2 e2 => h2 H2 (e.trans e2) _ fun H3 e3 => h H3 ((e.trans e2).trans e3) _ fun v W H4 e4 g => h3 H4 (((e.trans e2).trans e3).trans e4) _ fun H5 e5 => ⟨by show 5 ≤ sizeLine; decide, fun t nt => q (.ref t) _ _ ((((e2.trans e3).trans e4).trans e5).trans (Ex.new nt)) ⟨t, _, [v], [W], rfl, upd_same, .wrap hk ha hc (g.ex (e5.trans (Ex.new nt)))⟩⟩
theorem egs_nil : EvGs os ls qs tNil σ H n 0 := fun H1 e Q q => q [] [] H1 (Ex.refl _) trivial rfl
theorem egs_cons {tr : TA} (h : EvG os ls qs te σ H n) (hr : EvGs os ls qs tr σ H n m) : EvGs os ls qs (tCons te tr) σ H n (m + 1) := fun H1 e Q q =>
  h H1 e _ fun v W H2 e2 g => hr H2 (e.trans e2) _ fun vs Ws H3 e3 gs hl => q (v :: vs) (W :: Ws) H3 (e2.trans e3) ⟨g.ex e3, gs⟩ (by rw [List.length_cons, hl])
theorem eg_row {tr : TA} (h : EvGs os ls qs tr σ H n m) (hm : m ≤ 8) : EvG os ls qs (tTup (tCons (tC (.str "row")) (tCons (tTup tr) tNil))) σ H (n + 1) := fun H1 e Q q =>
  h H1 e _ fun vs Ws H2 e2 gs hl => ⟨sz_of (by omega), fun u nu => ⟨by show 2 ≤ sizeLine; decide, fun t nt => q (.ref t) Ws.flatten _ (e2.trans ((Ex.new nu).trans (Ex.new nt))) ⟨t, _, vs, Ws, rfl, upd_same, .row (Ex.new nt _ _ upd_same) (All2.mono (fun v W g => g.ex ((Ex.new nu).trans (Ex.new nt))) _ _ gs) (by omega)⟩⟩⟩
theorem All2.app {R : V → List Str → Prop} : ∀ (vs us : List V) (Ws Us : List (List Str)), All2 R vs Ws → All2 R us Us → All2 R (vs ++ us) (Ws ++ Us)
  | [], us, [], Us, _, h => h
  | v :: vs, us, W :: Ws, Us, h, h' => ⟨h.1, All2.app vs us Ws Us h.2 h'⟩
  | [], _, _ :: _, _, h, _ => h.elim
  | _ :: _, _, [], _, h, _ => h.elim
end
theorem last_at {xs : List Str} (h : xs ≠ []) : ∃ x ∈ xs, atI (xs.map V.str) (-1) = some (.str x) := by
  obtain ⟨x, hx⟩ : ∃ x, x = xs.getLast h := ⟨_, rfl⟩
  refine ⟨x, hx ▸ List.getLast_mem h, ?_⟩
  rw [← List.dropLast_concat_getLast h, ← hx, List.map_append]
  exact atI_last _ _
section
variable {os ls qs : List Str} {σ : L2.St} {H : Hp} {te tl : TE} {ta tr : TA} {n m i : Nat} {D : Ends} {tz : TS} {Q : VK} {QA : List V → Hp → Prop} {K : PySem.W.Frag}
theorem q_asgG (h : EvG os ls qs te σ H n) (k : ∀ v W H1, Ex H H1 → GAt os ls qs H1 n v W → tz D (σ.set i (some v)) H1) : tSeq (tAsg te (gName i)) tz D σ H := h H (Ex.refl H) _ fun v W H1 e g => k v W H1 e g
theorem g_lst (h : EvGs os ls qs ta σ H n m) (hm : m ≤ 1000) (k : ∀ vs Ws H2 l, Ex H H2 → All2 (GAt os ls qs H2 n) vs Ws → vs.length = m → H2 l = none → Q (.ref l) (upd H2 l (.lst vs))) : tLst ta σ H Q := h H (Ex.refl _) _ fun vs Ws H2 e2 gs hl => ⟨sz_of (by omega), fun l nl => k vs Ws H2 l e2 gs hl nl⟩
theorem q_asgGs (h : EvGs os ls qs ta σ H n m) (hm : m ≤ 1000) (k : ∀ vs Ws H2 l, Ex H H2 → All2 (GAt os ls qs H2 n) vs Ws → vs.length = m → H2 l = none → tz D (σ.set i (some (.ref l))) (upd H2 l (.lst vs))) : tSeq (tAsg (tLst ta) (gName i)) tz D σ H := h H (Ex.refl _) _ fun vs Ws H2 e2 gs hl => ⟨sz_of (by omega), fun l nl => k vs Ws H2 l e2 gs hl nl⟩
theorem q_appG {l : Addr} {xs : List V} (hl : H l = some (.lst xs)) (ha : Ev tl σ H (.ref l)) (h : EvG os ls qs te σ H n) (hz : xs.length < 100000) (k : ∀ v W H1, Ex H H1 → GAt os ls qs H1 n v W → tz D σ (upd H1 l (.lst (xs ++ [v])))) : tSeq (tDrop (tBM K "list" rAppend tl (tCons te tNil))) tz D σ H := ha H (Ex.refl H) _ fun H1 e1 =>
  ⟨Or.inl ⟨rfl, xs, sq_of (e1 l _ hl)⟩, h H1 e1 _ fun v W H2 e2 g => ⟨l, xs, v, rfl, rfl, e2 l _ (e1 l _ hl), sz_lt hz, k v W H2 (e1.trans e2) g⟩⟩
theorem g_cons (h : EvG os ls qs te σ H n) (k : ∀ v W H2, Ex H H2 → GAt os ls qs H2 n v W → tr σ H2 fun xs H3 => QA (v :: xs) H3) : tCons te tr σ H QA := h H (Ex.refl _) _ fun v W H2 e2 g => k v W H2 e2 g
end
theorem k198 {k : Nat} (h : k ≤ 1000) : k < 2 ^ 200 := by rw [two200]; omega
theorem k60 : (1000000000000000000000000000000000000000000000000000000000000 : Nat) < 2 ^ 200 := by rw [two200]; decide
theorem ev_60 {σ : L2.St} {H : Hp} : Ev (tOp (rI CPow fun i j => .int (i ^ j.toNat)) (tC (.int 10)) (tC (.int 60))) σ H (.int ((1000000000000000000000000000000000000000000000000000000000000 : Nat) : Int)) := ev_is (ev_op ev_c ev_c (rv_I ⟨by decide, by decide, by decide⟩)) (by
  show V.int ((10 : Int) ^ (60 : Int).toNat) = _
  rw [ten60]
  rfl)
theorem Sht.o0 {os ls qs : List Str} (hS : Sht os ls qs) : os ≠ [] := fun z => by have := hS.o1; rw [z] at this; exact absurd this (by decide)
theorem Sht.c0 {os ls qs : List Str} (hS : Sht os ls qs) : qs ≠ [] := fun z => by have := hS.c1; rw [z] at this; exact absurd this (by decide)

end Eh
set_option Elab.async false
set_option linter.all false
set_option maxRecDepth 100000
set_option maxHeartbeats 4000000
namespace Eh
open PySem PySem.Spec PyProof.Rows L2 Evl
abbrev nSame : List Str := ["found", "due", "one", "other"]
theorem scSame : FnScope nSame ["found", "due"] (defScope sSame) := ⟨rfl, rfl, rfl, by decide +kernel, rfl, by decide +kernel, by decide +kernel⟩
def atom : V → Bool
  | .non => true
  | .bl _ => true
  | .int _ => true
  | .str _ => true
  | _ => false
def spSame0 : Sp := fun vs H Q _ => ∃ v : V, vs = [v, v] ∧ atom v = true ∧ Q (.bl true) H
def spSame1 : Sp := fun vs H Q _ => ∃ (a b : Addr) (xs : List V), vs = [.ref a, .ref b] ∧ H a = some (.lst xs) ∧ H b = some (.lst xs) ∧ xs.all atom = true ∧ xs.length ≤ 10000 ∧ ∀ H', Ex H H' → Q (.bl true) H'
structure SameK (mg : Str → Option Value) : Prop where
  isi : mg "isinstance" = none
  bool : mg "bool" = none
  str : mg "str" = none
  int : mg "int" = none
  tuple : mg "tuple" = none
  list : mg "list" = none
  len : mg "len" = none
  all : mg "all" = none
  zip : mg "zip" = none
theorem ev_isi {K : PySem.W.Frag} {σ : L2.St} {H : Hp} {te : TE} {x : V} {a S : String} {b : Bool} (he : Ev te σ H x) (ht : ∀ H1, Ex H H1 → TyX K H1 x (.type a)) (hk : kitB a S = some b) : Ev (tCB (rIsi K) (tCons te (tCons (tC (.ty S)) tNil))) σ H (.bl b) := fun H1 e1 Q q =>
  he H1 e1 _ fun H2 e2 => ⟨x, .ty S, .type a, .type S, b, rfl, .ty S, ht H2 (e1.trans e2), kit_ty hk, q H2 e2⟩
theorem lc_zip {K : PySem.W.Frag} {a b : Addr} {xs ys : List V} {tt : TT} {te : TE} {σ : L2.St} {H1 : Hp} {Dd : Addr} {Qd : Hp → Prop} {i1 i2 : Nat} {vs : List Nat} (hl : xs.length = ys.length) (Pv : Nat → Hp → Prop) (h0 : Pv 0 (upd H1 Dd (.lst []))) (hq : ∀ i H, i ≤ xs.length → Pv i H → SqL K H a xs ∧ SqL K H b ys)
    (hs : ∀ i x y H T, xs[i]? = some x → ys[i]? = some y → Pv i H → H T = none → wipe (((wipe σ vs).set i1 (some x)).set i2 (some y)) vs = wipe σ vs ∧ tt (((wipe σ vs).set i1 (some x)).set i2 (some y)) (upd H T (.tup [x, y])) fun b H3 => if b = true then te (((wipe σ vs).set i1 (some x)).set i2 (some y)) H3 fun z H4 => ∃ acc, H4 Dd = some (.lst acc) ∧ acc.length < sizeLine ∧ Pv (i + 1) (upd H4 Dd (.lst (acc ++ [z]))) else Pv (i + 1) H3)
    (hd : ∀ H, Pv xs.length H → Qd H) :
    ∃ W : Nat → Nat → Hp → Prop, (∃ m, W 0 m (upd H1 Dd (.lst []))) ∧ ∀ i m H, W i m H → ((Itz K a b).stop i H ∧ Qd H) ∨ ((Itz K a b).go i H ∧ ∃ Nx : Hp → Prop, (∀ H', Nx H' → ∃ m', m' < m ∧ W (i + 1) m' H') ∧ ∀ x H', (Itz K a b).yld i H x H' → gTup K 2 (gCons (gName i1) (gCons (gName i2) gNil)) x (wipe σ vs) H' fun σ2 H2 => wipe σ2 vs = wipe σ vs ∧ tt σ2 H2 fun b H3 => if b = true then te σ2 H3 fun z H4 => ∃ acc, H4 Dd = some (.lst acc) ∧ acc.length < sizeLine ∧ Nx (upd H4 Dd (.lst (acc ++ [z]))) else Nx H3) := by
  refine ⟨fun i m H => m = xs.length - i ∧ i ≤ xs.length ∧ Pv i H, ⟨xs.length, by omega, Nat.zero_le _, h0⟩, ?_⟩
  rintro i m H ⟨rfl, hi, pp⟩
  obtain ⟨q1, q2⟩ := hq i H hi pp
  by_cases hlt : i < xs.length
  · have g1 : xs[i]? = some xs[i] := List.getElem?_eq_getElem hlt
    have g2 : ys[i]? = some ys[i] := List.getElem?_eq_getElem (by omega)
    refine .inr ⟨⟨xs, ys, _, _, q1, q2, g1, g2⟩, Pv (i + 1), fun H' p' => ⟨xs.length - (i + 1), by omega, rfl, hlt, p'⟩, fun v H' y => ?_⟩
    obtain ⟨T, x, y, rfl, nT, rfl, f1, f2⟩ := y
    exact ⟨T, [x, y], rfl, st_of upd_same, rfl, _, _, rfl, _, _, rfl, rfl, hs i x y H T (f1 xs q1) (f2 ys q2) pp nT⟩
  · have e : i = xs.length := by omega
    subst e
    exact .inl ⟨⟨xs, ys, q1, q2, .inl (Nat.le_refl _)⟩, hd H pp⟩
section
variable {P : Program} {w : World} {K : PySem.W.Frag} {mg : Str → Option Value} {base : Heap}
theorem ok_same0 {f : Addr} {fd : FuncData} {k : Nat} (F : Fun K "_law_same" "_law_same" sSame f fd) (T : SameK mg) : FnOk P w K mg base CX0 (k + 1) f fd ["found", "due"] spSame0 := by
  have nd := scSame.nd
  refine F.ok scSame (fun vs H Q E h => ?_) (fun cdv A outer s H vs Q E hr h => ?_)
  · obtain ⟨v, rfl, _⟩ := h
    rfl
  · obtain ⟨v, rfl, hv, q⟩ := h
    refine ⟨_, pss_cons (ps_if (PW.pt (pw_or (pt_cmpR op_isN (pv 1) pe_non (nomark _)) (pw_or1 (pt_val (pe_callB call_isi (by rfl) T.isi (by decide +kernel) (pa_cons (pv 1) (pa_cons (pe_bltn (v := .ty "bool") (by rfl) T.bool (by decide +kernel) rfl) pa_nil))))))) (pss_one (ps_ret (pe_and (pe_cmpR op_eq (pe_callB call_isi (by rfl) T.isi (by decide +kernel) (pa_cons (pv 0) (pa_cons (pe_bltn (v := .ty "bool") (by rfl) T.bool (by decide +kernel) rfl) pa_nil))) (pe_callB call_isi (by rfl) T.isi (by decide +kernel) (pa_cons (pv 1) (pa_cons (pe_bltn (v := .ty "bool") (by rfl) T.bool (by decide +kernel) rfl) pa_nil))) (nomark _)) (pe_one (pe_cmpR op_eq (pv 0) (pv 1) (nomark _)))))) pss_nil)
      (pss_cons (ps_if (pt_val (pe_callB call_isi (by rfl) T.isi (by decide +kernel) (pa_cons (pv 1) (pa_cons (pe_bltn (v := .ty "str") (by rfl) T.str (by decide +kernel) rfl) pa_nil)))) (pss_one (ps_ret (pe_and (pe_callB call_isi (by rfl) T.isi (by decide +kernel) (pa_cons (pv 0) (pa_cons (pe_bltn (v := .ty "str") (by rfl) T.str (by decide +kernel) rfl) pa_nil))) (pe_one (pe_cmpR op_eq (pv 0) (pv 1) (nomark _)))))) pss_nil)
      (pss_cons (ps_if (pt_val (pe_callB call_isi (by rfl) T.isi (by decide +kernel) (pa_cons (pv 1) (pa_cons (pe_bltn (v := .ty "int") (by rfl) T.int (by decide +kernel) rfl) pa_nil)))) (pss_one (ps_ret (pe_and (pe_callB call_isi (by rfl) T.isi (by decide +kernel) (pa_cons (pv 0) (pa_cons (pe_bltn (v := .ty "int") (by rfl) T.int (by decide +kernel) rfl) pa_nil))) (pe_and (pe_not (pe_callB call_isi (by rfl) T.isi (by decide +kernel) (pa_cons (pv 0) (pa_cons (pe_bltn (v := .ty "bool") (by rfl) T.bool (by decide +kernel) rfl) pa_nil)))) (pe_one (pe_cmpR op_eq (pv 0) (pv 1) (nomark _))))))) pss_nil)
      (pss_never))), ?_⟩
    cases v with
    | non =>
      exact ⟨_, rfl, rfl, _, rfl, iteT ⟨_, rfl, _, _, _, _, false, rfl, .ty _, .base .non, kit_ty (by decide +kernel), _, rfl, _, _, _, _, false, rfl, .ty _, .base .non, kit_ty (by decide +kernel), rfl, _, rfl, iteT ⟨_, rfl, _, rfl, rfl, q⟩⟩⟩
    | bl b =>
      refine ⟨_, rfl, rfl, _, rfl, iteF ⟨_, rfl, _, _, _, _, true, rfl, .ty _, .base (.bl b), kit_ty (by decide +kernel), _, rfl, iteT ⟨_, rfl, _, _, _, _, true, rfl, .ty _, .base (.bl b), kit_ty (by decide +kernel), _, rfl, _, _, _, _, true, rfl, .ty _, .base (.bl b), kit_ty (by decide +kernel), rfl, _, rfl, iteT ⟨_, rfl, _, rfl, rfl, ?_⟩⟩⟩⟩
      rw [decide_eq_true rfl]
      exact q
    | int i =>
      refine ⟨_, rfl, rfl, _, rfl, iteF ⟨_, rfl, _, _, _, _, false, rfl, .ty _, .base (.int i), kit_ty (by decide +kernel), _, rfl, iteF ?_⟩⟩
      refine ⟨_, rfl, _, _, _, _, false, rfl, .ty _, .base (.int i), kit_ty (by decide +kernel), _, rfl, iteF ?_⟩
      refine ⟨_, rfl, _, _, _, _, true, rfl, .ty _, .base (.int i), kit_ty (by decide +kernel), _, rfl, iteT ?_⟩
      refine ⟨_, rfl, _, _, _, _, true, rfl, .ty _, .base (.int i), kit_ty (by decide +kernel), _, rfl, iteT ⟨_, rfl, _, _, _, _, false, rfl, .ty _, .base (.int i), kit_ty (by decide +kernel), _, rfl, _, rfl, iteT ⟨_, rfl, _, rfl, rfl, ?_⟩⟩⟩
      rw [decide_eq_true rfl]
      exact q
    | str z =>
      refine ⟨_, rfl, rfl, _, rfl, iteF ⟨_, rfl, _, _, _, _, false, rfl, .ty _, .base (.str z), kit_ty (by decide +kernel), _, rfl, iteF ?_⟩⟩
      refine ⟨_, rfl, _, _, _, _, true, rfl, .ty _, .base (.str z), kit_ty (by decide +kernel), _, rfl, iteT ⟨_, rfl, _, _, _, _, true, rfl, .ty _, .base (.str z), kit_ty (by decide +kernel), _, rfl, iteT ⟨_, rfl, _, rfl, rfl, ?_⟩⟩⟩
      rw [decide_eq_true rfl]
      exact q
    | _ => exact absurd hv Bool.false_ne_true
theorem ok_same1 {f : Addr} {fd : FuncData} {k : Nat} (F : Fun K "_law_same" "_law_same" sSame f fd) (T : SameK mg) (bS : Binds K fd ["found", "due"] []) (gS : mg "_law_same" = some (.ref f)) : FnOk P w K mg base CX0 (k + 2) f fd ["found", "due"] spSame1 := by
  have nd := scSame.nd
  have G0 : FnOk P w K mg base CX0 (k + 1) f fd ["found", "due"] spSame0 := ok_same0 F T
  refine F.ok scSame (fun vs H Q E h => ?_) (fun cdv A outer s H vs Q E hr h => ?_)
  · obtain ⟨a, b, xs, rfl, _⟩ := h
    rfl
  · obtain ⟨a, b, xs, rfl, ha, hb, hat, hlen, q⟩ := h
    refine ⟨_, pss_cons (ps_if (PW.pt (pw_or (pt_cmpR op_isN (pv 1) pe_non (nomark _)) (pw_or1 (pt_val (pe_callB call_isi (by rfl) T.isi (by decide +kernel) (pa_cons (pv 1) (pa_cons (pe_bltn (v := .ty "bool") (by rfl) T.bool (by decide +kernel) rfl) pa_nil))))))) (pss_one (ps_ret (pe_and (pe_cmpR op_eq (pe_callB call_isi (by rfl) T.isi (by decide +kernel) (pa_cons (pv 0) (pa_cons (pe_bltn (v := .ty "bool") (by rfl) T.bool (by decide +kernel) rfl) pa_nil))) (pe_callB call_isi (by rfl) T.isi (by decide +kernel) (pa_cons (pv 1) (pa_cons (pe_bltn (v := .ty "bool") (by rfl) T.bool (by decide +kernel) rfl) pa_nil))) (nomark _)) (pe_one (pe_cmpR op_eq (pv 0) (pv 1) (nomark _)))))) pss_nil)
      (pss_cons (ps_if (pt_val (pe_callB call_isi (by rfl) T.isi (by decide +kernel) (pa_cons (pv 1) (pa_cons (pe_bltn (v := .ty "str") (by rfl) T.str (by decide +kernel) rfl) pa_nil)))) (pss_one (ps_ret (pe_and (pe_callB call_isi (by rfl) T.isi (by decide +kernel) (pa_cons (pv 0) (pa_cons (pe_bltn (v := .ty "str") (by rfl) T.str (by decide +kernel) rfl) pa_nil))) (pe_one (pe_cmpR op_eq (pv 0) (pv 1) (nomark _)))))) pss_nil)
      (pss_cons (ps_if (pt_val (pe_callB call_isi (by rfl) T.isi (by decide +kernel) (pa_cons (pv 1) (pa_cons (pe_bltn (v := .ty "int") (by rfl) T.int (by decide +kernel) rfl) pa_nil)))) (pss_one (ps_ret (pe_and (pe_callB call_isi (by rfl) T.isi (by decide +kernel) (pa_cons (pv 0) (pa_cons (pe_bltn (v := .ty "int") (by rfl) T.int (by decide +kernel) rfl) pa_nil))) (pe_and (pe_not (pe_callB call_isi (by rfl) T.isi (by decide +kernel) (pa_cons (pv 0) (pa_cons (pe_bltn (v := .ty "bool") (by rfl) T.bool (by decide +kernel) rfl) pa_nil)))) (pe_one (pe_cmpR op_eq (pv 0) (pv 1) (nomark _))))))) pss_nil)
      (pss_cons (ps_if (PW.pt (pw_or (pt_cmpR op_ne (pe_callB call_isi (by rfl) T.isi (by decide +kernel) (pa_cons (pv 1) (pa_cons (pe_bltn (v := .ty "tuple") (by rfl) T.tuple (by decide +kernel) rfl) pa_nil))) (pe_callB call_isi (by rfl) T.isi (by decide +kernel) (pa_cons (pv 0) (pa_cons (pe_bltn (v := .ty "tuple") (by rfl) T.tuple (by decide +kernel) rfl) pa_nil))) (nomark _)) (pw_or1 (pt_cmpR op_ne (pe_callB call_isi (by rfl) T.isi (by decide +kernel) (pa_cons (pv 1) (pa_cons (pe_bltn (v := .ty "list") (by rfl) T.list (by decide +kernel) rfl) pa_nil))) (pe_callB call_isi (by rfl) T.isi (by decide +kernel) (pa_cons (pv 0) (pa_cons (pe_bltn (v := .ty "list") (by rfl) T.list (by decide +kernel) rfl) pa_nil))) (nomark _))))) (pss_one (ps_ret pe_bl)) pss_nil)
      (pss_one (ps_ret (pe_and (pe_cmpR op_eq (pe_callB call_len_seq (by rfl) T.len PySem.boot_len (pa_cons (pv 0) pa_nil)) (pe_callB call_len_seq (by rfl) T.len PySem.boot_len (pa_cons (pv 1) pa_nil)) (nomark _)) (pe_one (pe_callB (cr_all rfl) (by rfl) T.all (by decide +kernel) (pa_cons (pe_lc (own := [("one", 2), ("other", 3)]) (g := gTup K 2 (gCons (gName 2) (gCons (gName 3) gNil))) (tt := tYes) (te := tCall spSame0 [] E0 (tCons (tVar 2) (tCons (tVar 3) tNil))) rfl nd (pi_zip (by rfl) T.zip (pa_cons (pv 0) (pa_cons (pv 1) pa_nil))) (blkOk_by (own := [("one", 2), ("other", 3)]) (N := nSame) (sc := defScope sSame) (by decide +kernel)) (fun _ _ _ _ _ => pg_tup rfl (pgs_cons (pg_name (i := 2) nd rfl (.inl rfl)) (pgs_cons (pg_name (i := 3) nd rfl (.inl rfl)) pgs_nil))) (fun _ _ _ _ _ => pts_nil) (fun _ _ _ _ _ => pe_call G0 hr (by rfl) gS F.kp bS .nil pass0 (pa_cons (pv 2) (pa_cons (pv 3) pa_nil)))) pa_nil))))))))), ?_⟩
    refine ⟨_, rfl, rfl, _, rfl, iteF ⟨_, rfl, _, _, _, _, false, rfl, .ty _, .base (.lst hb), kit_ty (by decide +kernel), _, rfl, iteF ?_⟩⟩
    refine ⟨_, rfl, _, _, _, _, false, rfl, .ty _, .base (.lst hb), kit_ty (by decide +kernel), _, rfl, iteF ?_⟩
    refine ⟨_, rfl, _, _, _, _, false, rfl, .ty _, .base (.lst hb), kit_ty (by decide +kernel), _, rfl, iteF ?_⟩
    refine ⟨_, rfl, _, _, _, _, false, rfl, .ty _, .base (.lst hb), kit_ty (by decide +kernel), _, rfl, _, _, _, _, false, rfl, .ty _, .base (.lst ha), kit_ty (by decide +kernel), rfl, _, rfl, iteF ?_⟩
    refine ⟨_, rfl, _, _, _, _, true, rfl, .ty _, .base (.lst hb), kit_ty (by decide +kernel), _, rfl, _, _, _, _, true, rfl, .ty _, .base (.lst ha), kit_ty (by decide +kernel), rfl, _, rfl, iteF ?_⟩
    refine ⟨_, rfl, a, _, rfl, .inl (sq_of ha), _, rfl, b, _, rfl, .inl (sq_of hb), rfl, _, rfl, ?_⟩
    rw [decide_eq_true rfl]
    refine iteT ⟨_, rfl, _, rfl, a, b, xs, xs, rfl, sq_of ha, sq_of hb, fun D nD => ?_⟩
    have xD := Ex.new (o := .lst []) nD
    refine lc_zip (xs := xs) (ys := xs) rfl (fun i H' => Ex H H' ∧ H' D = some (.lst ((List.replicate i true).map V.bl))) ⟨xD, upd_same⟩ (fun i H' _ hh => ⟨sq_of (hh.1 _ _ ha), sq_of (hh.1 _ _ hb)⟩) ?_ ?_
    · rintro i x y H' Tp hx hy ⟨eH, hD⟩ nT
      have exy : x = y := Option.some.inj (hx.symm.trans hy)
      subst exy
      have hax : atom x = true := List.all_eq_true.mp hat x (List.mem_of_getElem? hx)
      have hi := (List.getElem?_eq_some_iff.mp hx).1
      have eT : Ex H' (upd H' Tp (.tup [x, x])) := Ex.new nT
      refine ⟨rfl, yesT ⟨_, rfl, _, rfl, x, rfl, hax, _, eT _ _ hD, ?_, (eH.trans eT).mut nD, ?_⟩⟩
      · rw [List.length_map, List.length_replicate]
        exact sz_lt (by omega)
      · rw [upd_same, List.replicate_succ', List.map_append]
        rfl
    · rintro H' ⟨eH, hD⟩
      refine ⟨D, List.replicate xs.length true, rfl, sq_of hD, ?_⟩
      rw [show (List.replicate xs.length true).all id = true by
        rw [List.all_eq_true]
        intro z hz
        exact List.eq_of_mem_replicate hz]
      exact q H' eH
end
end Eh
set_option Elab.async false
set_option linter.all false
set_option maxRecDepth 100000
set_option maxHeartbeats 4000000
namespace Eh
open PySem PySem.Spec PyProof.Rows L2 Evl
theorem get_mapnV {ns : List Nat} {i : Nat} {x : V} (h : (ns.map nV)[i]? = some x) : ∃ k, ns[i]? = some k ∧ x = nV k := by
  rw [List.getElem?_map] at h
  cases e : ns[i]? with
  | none => rw [e] at h; cases h
  | some k => rw [e] at h; exact ⟨k, rfl, (Option.some.inj h).symm⟩
theorem range_getS (L : List Str) (g : Str → V) : (List.range L.length).map (fun i => g (L.getD i "")) = L.map g := by
  apply List.ext_getElem
  · rw [List.length_map, List.length_range, List.length_map]
  · intro i h1 h2
    rw [List.length_map] at h2
    rw [List.getElem_map, List.getElem_range, List.getElem_map, List.getD_eq_getElem?_getD, List.getElem?_eq_getElem h2]
    rfl
/-- [.. for a, b in zip(new list, new list)] -/
theorem el_lcZ {K : PySem.W.Frag} {σ : L2.St} {H : Hp} {ta tb te : TE} {xs ys : List V} {i1 i2 : Nat} {vs : List Nat} (v : Nat → V) (ha : EvL ta σ H xs) (hb : EvL tb σ H ys) (hl : xs.length = ys.length) (hz : xs.length ≤ 40000) (hw : ∀ x y, wipe (((wipe σ vs).set i1 (some x)).set i2 (some y)) vs = wipe σ vs)
    (he : ∀ i x y H1, Ex H H1 → xs[i]? = some x → ys[i]? = some y → Ev te (((wipe σ vs).set i1 (some x)).set i2 (some y)) H1 (v i)) : EvL (tLc (iZip K (tCons ta (tCons tb tNil))) (gTup K 2 (gCons (gName i1) (gCons (gName i2) gNil))) tYes te vs) σ H ((List.range xs.length).map v) := fun H0 e Q q =>
  ha H0 e _ fun a H1 na e1 h1 => hb H1 (e.trans e1) _ fun b H2 nb e2 h2 => ⟨a, b, xs, ys, rfl, sq_of (e2 _ _ h1), sq_of h2, fun D nD => lc_zip (a := a) (b := b) hl (Cw H2 (fun _ => true) v D) ⟨nD, Ex.new nD, upd_same⟩ (fun i H' hi p => ⟨sq_of (p.2.1 _ _ (e2 _ _ h1)), sq_of (p.2.1 _ _ h2)⟩) (fun i x y H' T hx hy p nT => by
      refine ⟨hw x y, ?_⟩
      have hi := (List.getElem?_eq_some_iff.mp hx).1
      have p' : Cw H2 (fun _ => true) v D i (upd H' T (.tup [x, y])) := ⟨p.1, Ex.mut p.2.1 (fresh_back p.2.1 nT), Ex.new nT _ _ p.2.2⟩
      exact cw_turn p' (by omega) ev_yes fun _ => he i x y H2 ((e.trans e1).trans e2) hx hy) (fun H' p => by
      have := q D H' (fresh_back (e1.trans e2) p.1) ((e1.trans e2).trans p.2.1) (by rw [p.2.2, given_true])
      exact this)⟩
theorem el_lcZV {K : PySem.W.Frag} {σ : L2.St} {H : Hp} {ta tb te : TE} {xs ys : List V} {b : Addr} {i1 i2 : Nat} {vs : List Nat} (v : Nat → V) (ha : EvL ta σ H xs) (hb : Ev tb σ H (.ref b)) (hy : H b = some (.lst ys)) (hl : xs.length = ys.length) (hz : xs.length ≤ 40000) (hw : ∀ x y, wipe (((wipe σ vs).set i1 (some x)).set i2 (some y)) vs = wipe σ vs)
    (he : ∀ i x y H1, Ex H H1 → xs[i]? = some x → ys[i]? = some y → Ev te (((wipe σ vs).set i1 (some x)).set i2 (some y)) H1 (v i)) : EvL (tLc (iZip K (tCons ta (tCons tb tNil))) (gTup K 2 (gCons (gName i1) (gCons (gName i2) gNil))) tYes te vs) σ H ((List.range xs.length).map v) := fun H0 e Q q =>
  ha H0 e _ fun a H1 na e1 h1 => hb H1 (e.trans e1) _ fun H2 e2 => ⟨a, b, xs, ys, rfl, sq_of (e2 _ _ h1), sq_of (((e.trans e1).trans e2) _ _ hy), fun D nD => lc_zip (a := a) (b := b) hl (Cw H2 (fun _ => true) v D) ⟨nD, Ex.new nD, upd_same⟩ (fun i H' hi p => ⟨sq_of (p.2.1 _ _ (e2 _ _ h1)), sq_of (p.2.1 _ _ (((e.trans e1).trans e2) _ _ hy))⟩) (fun i x y H' T hx hy p nT => by
      refine ⟨hw x y, ?_⟩
      have hi := (List.getElem?_eq_some_iff.mp hx).1
      have p' : Cw H2 (fun _ => true) v D i (upd H' T (.tup [x, y])) := ⟨p.1, Ex.mut p.2.1 (fresh_back p.2.1 nT), Ex.new nT _ _ p.2.2⟩
      exact cw_turn p' (by omega) ev_yes fun _ => he i x y H2 ((e.trans e1).trans e2) hx hy) (fun H' p => by
      have := q D H' (fresh_back (e1.trans e2) p.1) ((e1.trans e2).trans p.2.1) (by rw [p.2.2, given_true])
      exact this)⟩
/-- [.. for x in xs] where each item is a new list -/
def Lsts (H : Hp) (ys : Nat → List V) (rs : List Addr) : Prop := ∀ i r, rs[i]? = some r → H r = some (.lst (ys i))
theorem lcs_turn {H H' : Hp} {ys : Nat → List V} {D : Addr} {i : Nat} {σ2 : L2.St} {te : TE} {rs : List Addr} (nD : H D = none) (ex : Ex H H') (hl : rs.length = i) (hD : H' D = some (.lst (rs.map V.ref))) (hr : Lsts H' ys rs) (hd : ∀ r ∈ rs, r ≠ D) (hz : i < 50000) (he : EvL te σ2 H (ys i)) :
    tYes σ2 H' fun b H3 => if b = true then te σ2 H3 fun y H4 => ∃ acc, H4 D = some (.lst acc) ∧ acc.length < sizeLine ∧ (∃ rs' : List Addr, Ex H (upd H4 D (.lst (acc ++ [y]))) ∧ rs'.length = i + 1 ∧ (upd H4 D (.lst (acc ++ [y]))) D = some (.lst (rs'.map V.ref)) ∧ Lsts (upd H4 D (.lst (acc ++ [y]))) ys rs' ∧ ∀ r ∈ rs', r ≠ D) else (∃ rs' : List Addr, Ex H H3 ∧ rs'.length = i + 1 ∧ H3 D = some (.lst (rs'.map V.ref)) ∧ Lsts H3 ys rs' ∧ ∀ r ∈ rs', r ≠ D) := by
  refine yesT (he H' ex _ fun p H4 np e4 h4 => ?_)
  have pD : p ≠ D := fun z => by rw [z, hD] at np; cases np
  refine ⟨rs.map V.ref, e4 _ _ hD, sz_lt (by rw [List.length_map]; omega), rs ++ [p], Ex.mut (ex.trans e4) nD, by rw [List.length_append, hl]; rfl, by rw [upd_same, List.map_append]; rfl, fun k r hk => ?_, fun r hm => ?_⟩
  · by_cases hki : k < rs.length
    · rw [List.getElem?_append_left hki] at hk
      rw [upd_ne (hd r (List.mem_of_getElem? hk))]
      exact e4 _ _ (hr k r hk)
    · have hlt := (List.getElem?_eq_some_iff.mp hk).1
      rw [List.length_append, List.length_singleton] at hlt
      have ek : k = rs.length := by omega
      rw [ek, List.getElem?_append_right (Nat.le_refl _), Nat.sub_self] at hk
      cases hk
      rw [upd_ne pD, ek, hl]
      exact h4
  · rcases List.mem_append.mp hm with z | z
    · exact hd r z
    · rw [List.mem_singleton.mp z]; exact pD
def EvLs (te : TE) (σ : L2.St) (H : Hp) (n : Nat) (ys : Nat → List V) : Prop := ∀ H1, Ex H H1 → ∀ Q : VK, (∀ p H2 rs, H1 p = none → Ex H1 H2 → H2 p = some (.lst (rs.map V.ref)) → rs.length = n → Lsts H2 ys rs → Q (.ref p) H2) → te σ H1 Q
theorem els_T {K : PySem.W.Frag} {σ : L2.St} {H : Hp} {tl te : TE} {a : Addr} {xs : List V} {j : Nat} {vs : List Nat} (ys : Nat → List V) (h : Ev tl σ H (.ref a)) (hx : SqT K H a xs) (hz : xs.length ≤ 1000) (hw : ∀ x, wipe ((wipe σ vs).set j (some x)) vs = wipe σ vs)
    (he : ∀ i x H1, Ex H H1 → xs[i]? = some x → EvL te ((wipe σ vs).set j (some x)) H1 (ys i)) : EvLs (tLc (iTup K tl) (gName j) tYes te vs) σ H xs.length ys := fun H0 e Q q => h H0 e _ fun H1 e1 => ⟨a, rfl, ⟨xs, ex_t (e.trans e1) hx⟩, fun D nD =>
  lc_tup (xs := xs) (fun i H' => ∃ rs : List Addr, Ex H1 H' ∧ rs.length = i ∧ H' D = some (.lst (rs.map V.ref)) ∧ Lsts H' ys rs ∧ ∀ r ∈ rs, r ≠ D) ⟨[], Ex.new nD, rfl, upd_same, fun i r z => by simp at z, fun r z => (List.not_mem_nil z).elim⟩
    (fun i H' _ ⟨rs, p, _⟩ => ex_t ((e.trans e1).trans p) hx) (fun i x H' hi ⟨rs, p, hl, hD, hr, hd⟩ => ⟨hw x, lcs_turn nD p hl hD hr hd (by have := (List.getElem?_eq_some_iff.mp hi).1; omega) (he i x H1 (e.trans e1) hi)⟩)
    (fun H' ⟨rs, p, hl, hD, hr, hd⟩ => q D H' rs (fresh_back e1 nD) (e1.trans p) hD hl hr)⟩
theorem els_L {K : PySem.W.Frag} {σ : L2.St} {H : Hp} {tl te : TE} {a : Addr} {xs : List V} {j : Nat} {vs : List Nat} (ys : Nat → List V) (h : Ev tl σ H (.ref a)) (hx : SqL K H a xs) (hz : xs.length ≤ 1000) (hw : ∀ x, wipe ((wipe σ vs).set j (some x)) vs = wipe σ vs)
    (he : ∀ i x H1, Ex H H1 → xs[i]? = some x → EvL te ((wipe σ vs).set j (some x)) H1 (ys i)) : EvLs (tLc (iList K tl) (gName j) tYes te vs) σ H xs.length ys := fun H0 e Q q => h H0 e _ fun H1 e1 => ⟨a, rfl, ⟨xs, ex_l (e.trans e1) hx⟩, fun D nD =>
  lc_list (xs := xs) (fun i H' => ∃ rs : List Addr, Ex H1 H' ∧ rs.length = i ∧ H' D = some (.lst (rs.map V.ref)) ∧ Lsts H' ys rs ∧ ∀ r ∈ rs, r ≠ D) ⟨[], Ex.new nD, rfl, upd_same, fun i r z => by simp at z, fun r z => (List.not_mem_nil z).elim⟩
    (fun i H' _ ⟨rs, p, _⟩ => ex_l ((e.trans e1).trans p) hx) (fun i x H' hi ⟨rs, p, hl, hD, hr, hd⟩ => ⟨hw x, lcs_turn nD p hl hD hr hd (by have := (List.getElem?_eq_some_iff.mp hi).1; omega) (he i x H1 (e.trans e1) hi)⟩)
    (fun H' ⟨rs, p, hl, hD, hr, hd⟩ => q D H' rs (fresh_back e1 nD) (e1.trans p) hD hl hr)⟩
/-! the sizes of a word -/
def szs (os ls qs W : List Str) : List Nat := W.length :: dpt os qs W :: (os ++ ls ++ qs).map fun x => W.count x
theorem szs_len (os ls qs W : List Str) : (szs os ls qs W).length = (os ++ ls ++ qs).length + 2 := by
  show ((os ++ ls ++ qs).map _).length + 1 + 1 = _
  rw [List.length_map]
theorem szs_at {os ls qs W : List Str} {i : Nat} {x : V} (h : (((os ++ ls ++ qs).map fun x => W.count x).map nV)[i]? = some x) : x = nV (W.count ((os ++ ls ++ qs).getD i "")) := by
  obtain ⟨k, hk, rfl⟩ := get_mapnV h
  rw [List.getElem?_map] at hk
  cases e : (os ++ ls ++ qs)[i]? with
  | none => rw [e] at hk; cases hk
  | some y =>
    rw [e] at hk
    rw [← Option.some.inj hk, List.getD_eq_getElem?_getD, e]
    rfl
theorem szs_nil (os ls qs : List Str) : (szs os ls qs []).map nV = List.replicate (2 + (os ++ ls ++ qs).length) (nV 0) := by
  show nV 0 :: nV 0 :: ((os ++ ls ++ qs).map fun _ => 0).map nV = _
  rw [Nat.add_comm, List.replicate_succ, List.replicate_succ, List.map_map]
  congr 2
  exact List.map_const' ..
theorem order_rd (os ls qs : List Str) (g : Str → V) : (List.range (os ++ ls ++ qs).length).map (fun i => g ((os ++ ls ++ qs).getD i "")) = (os ++ ls ++ qs).map g := range_getS _ g
end Eh
set_option Elab.async false
set_option linter.all false
set_option maxRecDepth 100000
set_option maxHeartbeats 4000000
namespace Eh
open PySem PySem.Spec PyProof.Rows L2 Evl
section
variable {P : Program} {w : World} {K : PySem.W.Frag} {mg : Str → Option Value} {base : Heap}
def spOrder : Sp := fun vs H Q _ => ∃ (s : Addr) (os ps qs : List Str), vs = [.ref s] ∧ Sht os ps qs ∧ SheetAt H s os ps qs ∧ ∀ l H', Ex H H' → H l = none → H' l = some (lS (os ++ ps ++ qs)) → Q (.ref l) H'
theorem ok_order {f : Addr} {fd : FuncData} {k : Nat} (F : Fun K "_law_order" "_law_order" sOrder f fd) (ml : mg "list" = none) : FnOk P w K mg base CX0 (k + 1) f fd ["sheet"] spOrder := by
  refine F.ok scOrder (fun vs H Q E h => ?_) (fun cdv A outer s H vs Q E hr h => ?_)
  · obtain ⟨s, os, ps, qs, rfl, _⟩ := h
    rfl
  · obtain ⟨s, os, ps, qs, rfl, hS, ⟨ao, ap, ac, h0, h1, h2, h3⟩, q⟩ := h
    refine ⟨_, pss_one (ps_ret (pe_op op_cat (pe_op op_cat (pe_callTy call_list_of (by rfl) ml (by decide +kernel) (pa_cons (pe_ix ix_tup (pv 0) pe_int (fun _ _ => rfl)) pa_nil)) (pe_callTy call_list_of (by rfl) ml (by decide +kernel) (pa_cons (pe_ix ix_tup (pv 0) pe_int (fun _ _ => rfl)) pa_nil))) (pe_callTy call_list_of (by rfl) ml (by decide +kernel) (pa_cons (pe_ix ix_tup (pv 0) pe_int (fun _ _ => rfl)) pa_nil)))), ?_⟩
    have := hS.o4
    have := hS.p4
    have := hS.c4
    refine ⟨_, rfl, s, _, 0, .ref ao, rfl, rfl, st_of h0, rfl, ao, _, rfl, .inr (st_of h1), fun l1 n1 => ?_⟩
    have e1 : Ex H _ := Ex.new (o := lS os) n1
    refine ⟨_, rfl, s, _, 1, .ref ap, rfl, rfl, st_of (e1 _ _ h0), rfl, ap, _, rfl, .inr (st_of (e1 _ _ h2)), fun l2 n2 => ?_⟩
    have e2 : Ex _ _ := Ex.new (o := lS ps) n2
    refine ⟨l1, l2, _, _, rfl, rfl, e2 _ _ upd_same, upd_same, ?_, fun l3 n3 => ?_⟩
    · rw [List.length_map, List.length_map]
      exact sz_of (by omega)
    have e3 : Ex _ _ := Ex.new (o := .lst (os.map V.str ++ ps.map V.str)) n3
    refine ⟨_, rfl, s, _, 2, .ref ac, rfl, rfl, st_of (e3 _ _ (e2 _ _ (e1 _ _ h0))), rfl, ac, _, rfl, .inr (st_of (e3 _ _ (e2 _ _ (e1 _ _ h3)))), fun l4 n4 => ?_⟩
    have e4 : Ex _ _ := Ex.new (o := lS qs) n4
    refine ⟨l3, l4, _, _, rfl, rfl, e4 _ _ upd_same, upd_same, ?_, fun l5 n5 => ?_⟩
    · rw [List.length_append, List.length_map, List.length_map, List.length_map]
      exact sz_of (by omega)
    have ee := ((e1.trans e2).trans e3).trans e4
    refine q l5 _ (ee.trans (Ex.new n5)) (fresh_back ee n5) ?_
    rw [upd_same, ← List.map_append, ← List.map_append]
end
end Eh
set_option Elab.async false
set_option linter.all false
set_option maxRecDepth 100000
set_option maxHeartbeats 4000000
namespace Eh
open PySem PySem.Spec PyProof.Rows L2 Evl
abbrev nLawSizes : List Str := ["sheet", "great", "letters", "word", "parts", "sizes", "total", "one", "more", "part", "letter", "a", "b", "many"]
theorem scLawSizes : FnScope nLawSizes ["sheet", "great"] (defScope sLawSizes) := ⟨rfl, rfl, rfl, by decide +kernel, rfl, by decide +kernel, by decide +kernel⟩
theorem el_is {te : TE} {σ : L2.St} {H : Hp} {xs ys : List V} (h : EvL te σ H xs) (e : xs = ys) : EvL te σ H ys := e ▸ h
theorem el_listT {K : PySem.W.Frag} {te : TE} {σ : L2.St} {H : Hp} {u : Addr} {xs : List V} (h : Ev te σ H (.ref u)) (hu : SqT K H u xs) : EvL (tCB (rListS K) (tCons te tNil)) σ H xs := fun H1 e Q q => h H1 e _ fun H2 e2 => ⟨u, xs, rfl, .inr (ex_t (e.trans e2) hu), fun l nl => q l _ (fresh_back e2 nl) (e2.trans (Ex.new nl)) upd_same⟩
def rMin2 : List V → Hp → VK → Prop := fun xs H Q => ∃ i j, xs = [.int i, .int j] ∧ Q (.int (if j < i then j else i)) H
theorem ev_min2 {ta tb : TE} {σ : L2.St} {H : Hp} {i j : Int} (ha : Ev ta σ H (.int i)) (hb : Ev tb σ H (.int j)) : Ev (tCB rMin2 (tCons ta (tCons tb tNil))) σ H (.int (if j < i then j else i)) := fun H1 e Q q => ha H1 e _ fun H2 e2 => hb H2 (e.trans e2) _ fun H3 e3 => ⟨i, j, rfl, q H3 (e2.trans e3)⟩
theorem el_replst {ta tb : TE} {σ : L2.St} {H : Hp} {xs : List V} {k : Nat} (ha : EvL ta σ H xs) (hb : Ev tb σ H (.int (k : Int))) (hk : xs.length * k ≤ 10000) (hk2 : k < 2 ^ 60) : EvL (tOp rRep ta tb) σ H (List.replicate k xs).flatten := el_rep ha hb hk hk2
def spSizes (K : PySem.W.Frag) (os ls qs : List Str) (n : Nat) : Sp := fun vs H Q _ => ∃ (s : Addr) (v : V) (W : List Str), vs = [.ref s, v] ∧ Sht os ls qs ∧ SheetAt H s os ls qs ∧ GAt os ls qs H n v W ∧ n ≤ 20 ∧ RetL ((szs os ls qs W).map nV) H Q
theorem cons_eq {a b : V} {l m : List V} (h : a = b) (h2 : l = m) : a :: l = b :: m := by rw [h, h2]
theorem word_eq (os ls qs W : List Str) : [V.int ((W.map V.str).length : Int), V.int (dpt os qs W : Int)] ++ given ((os ++ ls ++ qs).map V.str).length (fun _ => true) (fun i => nV (W.count ((os ++ ls ++ qs).getD i ""))) = (szs os ls qs W).map nV := by
  rw [given_true, List.length_map, List.length_map, order_rd os ls qs fun x => nV (W.count x)]
  show V.int (W.length : Int) :: V.int (dpt os qs W : Int) :: _ = nV W.length :: nV (dpt os qs W) :: _
  rw [List.map_map]
  rfl
theorem two_eq (os ls qs A B : List Str) (ha : bal os qs A 0 = some 0) (hb : bal os qs B 0 = some 0) : [V.int ((A.length : Int) + (B.length : Int)), V.int (if (dpt os qs B : Int) > (dpt os qs A : Int) then (dpt os qs B : Int) else (dpt os qs A : Int))] ++ (List.range (((os ++ ls ++ qs).map fun x => A.count x).map nV).length).map (fun i => nV (A.count ((os ++ ls ++ qs).getD i "") + B.count ((os ++ ls ++ qs).getD i ""))) = (szs os ls qs (A ++ B)).map nV := by
  rw [List.length_map, List.length_map, order_rd os ls qs fun x => nV (A.count x + B.count x)]
  show _ = nV (A ++ B).length :: nV (dpt os qs (A ++ B)) :: ((os ++ ls ++ qs).map fun x => (A ++ B).count x).map nV
  rw [dpt_app ha hb, List.length_append, List.map_map]
  show V.int _ :: V.int _ :: _ = V.int ((A.length + B.length : Nat) : Int) :: V.int ((max (dpt os qs A) (dpt os qs B) : Nat) : Int) :: _
  refine cons_eq (congrArg V.int (Int.natCast_add ..).symm) (cons_eq (congrArg V.int ?_) ?_)
  · split <;> omega
  · refine List.map_congr_left fun x _ => ?_
    show nV _ = nV ((A ++ B).count x)
    rw [List.count_append]
theorem again_eq (os ls qs W : List Str) (hb : bal os qs W 0 = some 0) (k : Nat) : [V.int ((k : Int) * (W.length : Int)), V.int ((dpt os qs W : Int) * (if (k : Int) < 1 then (k : Int) else 1))] ++ given (((os ++ ls ++ qs).map fun x => W.count x).map nV).length (fun _ => true) (fun i => .int ((k : Int) * (W.count ((os ++ ls ++ qs).getD i "") : Int))) = (szs os ls qs (List.replicate k W).flatten).map nV := by
  rw [given_true, List.length_map, List.length_map, order_rd os ls qs fun x => .int ((k : Int) * (W.count x : Int))]
  show _ = nV (List.replicate k W).flatten.length :: nV (dpt os qs (List.replicate k W).flatten) :: ((os ++ ls ++ qs).map fun x => (List.replicate k W).flatten.count x).map nV
  rw [dpt_again hb, rep_len, List.map_map]
  show V.int _ :: V.int _ :: _ = V.int ((k * W.length : Nat) : Int) :: V.int ((if k = 0 then 0 else dpt os qs W : Nat) : Int) :: _
  refine cons_eq (congrArg V.int (Int.natCast_mul ..).symm) (cons_eq (congrArg V.int ?_) ?_)
  · by_cases h : k = 0
    · rw [if_pos h, if_pos (by omega), h]
      simp
    · rw [if_neg h, if_neg (by omega), Int.mul_one]
  · refine List.map_congr_left fun x _ => ?_
    show V.int _ = nV ((List.replicate k W).flatten.count x)
    rw [count_again]
    exact congrArg V.int (Int.natCast_mul ..).symm
theorem wrap_eq (os ls qs W : List Str) (hS : Sht os ls qs) {a c : Str} (ha : a ∈ os) (hc : c ∈ qs) (hb : bal os qs W 0 = some 0) (k : Nat) : [V.int (2 * (k : Int) + (W.length : Int)), V.int ((k : Int) + (dpt os qs W : Int))] ++ (List.range (((os ++ ls ++ qs).map fun x => W.count x).map nV).length).map (fun i => V.int ((W.count ((os ++ ls ++ qs).getD i "") : Int) + (k : Int) * (if inV (.str ((os ++ ls ++ qs).getD i "")) [.str a, .str c] = true then 1 else 0))) = (szs os ls qs (List.replicate k a ++ W ++ List.replicate k c)).map nV := by
  rw [List.length_map, List.length_map, order_rd os ls qs fun x => .int ((W.count x : Int) + (k : Int) * (if inV (.str x) [.str a, .str c] = true then 1 else 0))]
  show _ = nV (List.replicate k a ++ W ++ List.replicate k c).length :: nV (dpt os qs (List.replicate k a ++ W ++ List.replicate k c)) :: ((os ++ ls ++ qs).map fun x => (List.replicate k a ++ W ++ List.replicate k c).count x).map nV
  rw [dpt_wrap hS ha hc hb, List.length_append, List.length_append, List.length_replicate, List.length_replicate, List.map_map]
  show V.int _ :: V.int _ :: _ = V.int ((k + W.length + k : Nat) : Int) :: V.int ((k + dpt os qs W : Nat) : Int) :: _
  refine cons_eq (congrArg V.int (by omega)) (cons_eq (congrArg V.int (Int.natCast_add ..).symm) ?_)
  refine List.map_congr_left fun x _ => ?_
  show V.int _ = nV ((List.replicate k a ++ W ++ List.replicate k c).count x)
  rw [count_wrap]
  have hac : a ≠ c := fun z => hS.apart ha (z ▸ hc)
  have e : inV (.str x) [.str a, .str c] = decide (x ∈ [a, c]) := by
    show inV (.str x) ([a, c].map V.str) = _
    exact inV_str ..
  rw [e]
  have cnt : ([a, c].count x : Nat) = if x ∈ [a, c] then 1 else 0 := by
    by_cases h1 : x = a
    · subst h1
      simp [List.count_cons, hac, Ne.symm hac]
    · by_cases h2 : x = c
      · subst h2
        simp [List.count_cons, Ne.symm h1, h1]
      · simp [List.count_cons, h1, h2, Ne.symm h1, Ne.symm h2]
  rw [cnt]
  show V.int _ = V.int _
  congr 1
  by_cases h : x ∈ [a, c]
  · rw [decide_eq_true h, if_pos rfl, if_pos h]
    omega
  · rw [decide_eq_false h, if_neg (by decide), if_neg h]
    omega
abbrev tTot (K : PySem.W.Frag) : TE := tOp rRep (tLst (tCons (tC (.int 0)) tNil)) (tOp (rI0 fun i j => .int (i + j)) (tC (.int 2)) (tCB (rLenS K) (tCons (tVar 2) tNil)))
abbrev tZp (K : PySem.W.Frag) (tb : TE) : TE := tLc (iZip K (tCons (tSl (rSlL K) (tVar 6) (tPart (tC (.int 2))) tNoPart) (tCons tb tNil))) (gTup K 2 (gCons (gName 11) (gCons (gName 12) gNil))) tYes (tOp (rI0 fun i j => .int (i + j)) (tVar 11) (tVar 12)) [11, 12]
abbrev tBody (K : PySem.W.Frag) : TS := tAsg (tOp rCat (tLst (tCons (tOp (rI0 fun i j => .int (i + j)) (tOp (rIxL K) (tVar 6) (tC (.int 0))) (tOp (rIxL K) (tVar 7) (tC (.int 0)))) (tCons (tCB rMax2 (tCons (tOp (rIxL K) (tVar 6) (tC (.int 1))) (tCons (tOp (rIxL K) (tVar 7) (tC (.int 1))) tNil))) tNil))) (tZp K (tSl (rSlL K) (tVar 7) (tPart (tC (.int 2))) tNoPart))) (gName 6)
theorem sht_len {os ls qs : List Str} (hS : Sht os ls qs) : (os ++ ls ++ qs).length ≤ 12 := by
  rw [List.length_append, List.length_append]
  have := hS.o4
  have := hS.p4
  have := hS.c4
  omega
theorem szs_cut {K : PySem.W.Frag} {σ : L2.St} {H : Hp} {os ls qs W : List Str} {i : Nat} {l : Addr} (hi : σ[i]? = some (some (.ref l))) (hl : H l = some (.lst ((szs os ls qs W).map nV))) : EvL (tSl (rSlL K) (tVar i) (tPart (tC (.int 2))) tNoPart) σ H (((os ++ ls ++ qs).map fun x => W.count x).map nV) :=
  el_is (el_sl (ev_var hi) (eo_some ev_c) eo_none (sq_of hl)) (by
    show cutV _ (some ((2 : Nat) : Int)) none = _
    rw [cutF]
    rfl)
theorem q_mid {K : PySem.W.Frag} {te4 : TE} {tz : TS} {D : Ends} {s t L : Addr} {pv : V} {H : Hp} {os ls qs : List Str} {Ws : List (List Str)} (hS : Sht os ls qs) (h4 : EvLs te4 [some (.ref s), some (.ref t), some (.ref L), none, some pv, none, none, none, none, none, none, none, none, none] H Ws.length (fun i => (szs os ls qs (Ws.getD i [])).map nV)) (h8 : Ws.length ≤ 8) (hL : H L = some (lS (os ++ ls ++ qs))) (hb : ∀ W ∈ Ws, bal os qs W 0 = some 0)
    (k : ∀ (l6 rs5 : Addr) (y7 : Option V) (H' : Hp), H l6 = none → Ex H H' → H' l6 = some (.lst ((szs os ls qs Ws.flatten).map nV)) → tz D [some (.ref s), some (.ref t), some (.ref L), none, some pv, some (.ref rs5), some (.ref l6), y7, none, none, none, none, none, none] H') :
    tSeq (tAsg te4 (gName 5)) (tSeq (tAsg (tTot K) (gName 6)) (tSeq (tFor (iList K (tVar 5)) (gName 7) (tBody K)) tz)) D [some (.ref s), some (.ref t), some (.ref L), none, some pv, none, none, none, none, none, none, none, none, none] H := by
  refine h4 H (Ex.refl H) _ fun r5 H1 rs n1 e1 h1 hlen hrs => ?_
  show tSeq _ _ _ [some (.ref s), some (.ref t), some (.ref L), none, some pv, some (.ref r5), none, none, none, none, none, none, none, none] H1
  have hL1 := e1 _ _ hL
  refine q_asgL (xs := (szs os ls qs []).map nV) (el_is (el_replst (k := 2 + (os ++ ls ++ qs).length) (el_lst (ea_cons ev_c ea_nil) (by show 1 ≤ 100000; decide)) (ev_is (ev_op ev_c (ev_len (ev_var rfl) (sq_of hL1)) rv_I0) (by rw [List.length_map, Int.natCast_add]; rfl)) (by have := sht_len hS; show 1 * _ ≤ 10000; omega) (by have := sht_len hS; omega)) (by rw [szs_nil, flat_rep]; rfl)) fun l6 H2 n2 e2 h2 => ?_
  have e12 := e1.trans e2
  refine q_forLn (ev_var rfl) (sq_of (e2 _ _ h1)) (fun i σ H' => ∃ (l : Addr) (y7 : Option V), σ = [some (.ref s), some (.ref t), some (.ref L), none, some pv, some (.ref r5), some (.ref l), y7, none, none, none, none, none, none] ∧ H l = none ∧ Ex H1 H' ∧ H' l = some (.lst ((szs os ls qs (Ws.take i).flatten).map nV))) (fun H3 e3 => ⟨l6, none, rfl, fresh_back e1 n2, e2.trans e3, e3 _ _ h2⟩) (fun i σ H' _ ⟨l, y7, _, _, eH, _⟩ => sq_of (eH _ _ h1)) ?_ ?_
  · rintro i x σ H' hi ⟨l, y7, rfl, nl, eH, hl⟩
    obtain ⟨r, hr, rfl⟩ : ∃ r, rs[i]? = some r ∧ x = .ref r := by
      rw [List.getElem?_map] at hi
      cases e : rs[i]? with
      | none => rw [e] at hi; cases hi
      | some z => rw [e] at hi; exact ⟨z, rfl, (Option.some.inj hi).symm⟩
    have hi8 : i < Ws.length := by rw [← hlen]; exact (List.getElem?_eq_some_iff.mp hr).1
    have hW : Ws[i]? = some Ws[i] := List.getElem?_eq_getElem hi8
    have hgd : Ws.getD i [] = Ws[i] := by rw [List.getD_eq_getElem?_getD, hW]; rfl
    have hr' : H' r = some (.lst ((szs os ls qs (Ws.getD i [])).map nV)) := eH _ _ (hrs i r hr)
    rw [hgd] at hr'
    generalize hWi : Ws[i] = Wi at hr'
    have ba : bal os qs (Ws.take i).flatten 0 = some 0 := bal_flat _ fun W hm => hb W (List.mem_of_mem_take hm)
    have bb : bal os qs Wi 0 = some 0 := hb Wi (hWi ▸ List.getElem_mem hi8)
    have tk : (Ws.take (i + 1)).flatten = (Ws.take i).flatten ++ Wi := by
      rw [List.take_succ, hW, List.flatten_append, ← hWi]
      simp
    rw [tk]
    generalize (Ws.take i).flatten = A at hl ba
    refine s_asgL (xs := (szs os ls qs (A ++ Wi)).map nV) (el_is (el_cat (el_lst (ea_cons (ev_op (ev_op (ev_var rfl) ev_c (rv_ixL (sq_of hl) (atI_nat (j := 0) rfl))) (ev_op (ev_var rfl) ev_c (rv_ixL (sq_of hr') (atI_nat (j := 0) rfl))) rv_I0) (ea_cons (ev_max2 (ev_op (ev_var rfl) ev_c (rv_ixL (sq_of hl) (atI_nat (j := 1) rfl))) (ev_op (ev_var rfl) ev_c (rv_ixL (sq_of hr') (atI_nat (j := 1) rfl)))) ea_nil)) (by show 2 ≤ 100000; decide))
      (el_lcZ (fun i => nV (A.count ((os ++ ls ++ qs).getD i "") + Wi.count ((os ++ ls ++ qs).getD i ""))) (szs_cut rfl hl) (szs_cut rfl hr') (by rw [List.length_map, List.length_map, List.length_map, List.length_map]) (by rw [List.length_map, List.length_map]; have := sht_len hS; omega) (fun x y => rfl) (fun i x y H3 e3 hx hy => ?_)) ?_) (two_eq os ls qs A Wi ba bb)) fun p H3 n3 e3 h3 => ?_
    · rw [szs_at hx, szs_at hy]
      exact ev_is (ev_op (ev_var rfl) (ev_var rfl) rv_I0) (congrArg V.int (Int.natCast_add ..).symm)
    · rw [List.length_map, List.length_range, List.length_map, List.length_map]
      have := sht_len hS
      show 2 + _ ≤ 10000
      omega
    · exact ⟨p, _, rfl, fresh_back (e1.trans eH) n3, eH.trans e3, h3⟩
  · rintro σ H' ⟨l, y7, rfl, nl, eH, hl⟩
    rw [List.length_map, hlen, List.take_length] at hl
    exact k l r5 y7 H' nl (e1.trans eH) hl
section
variable {P : Program} {w : World} {K : PySem.W.Frag} {mg : Str → Option Value} {base : Heap} {os ls qs : List Str}
theorem ok_sizes {f forder fdepth : Addr} {fd dorder ddepth : FuncData} (Fsizes : Fun K "_law_sizes" "_law_sizes" sLawSizes f fd) (bsizes : Binds K fd ["sheet", "great"] []) (gsizes : mg "_law_sizes" = some (.ref f)) (Forder : Fun K "_law_order" "_law_order" sOrder forder dorder) (GO : ∀ k, FnOk P w K mg base CX0 (k + 1) forder dorder ["sheet"] spOrder) (border : Binds K dorder ["sheet"] []) (gorder : mg "_law_order" = some (.ref forder)) (Fdepth : Fun K "_law_depth" "_law_depth" sLawDepth fdepth ddepth) (GD : ∀ k, FnOk P w K mg base CX0 (k + 1) fdepth ddepth ["sheet", "word"] (spDepthOf K)) (bdepth : Binds K ddepth ["sheet", "word"] []) (gdepth : mg "_law_depth" = some (.ref fdepth))
    (mlist : mg "list" = none) (mlen : mg "len" = none) (mint : mg "int" = none) (mmax : mg "max" = none) (mmin : mg "min" = none) (mzip : mg "zip" = none) : ∀ (n k : Nat), FnOk P w K mg base CX0 (k + n + 2) f fd ["sheet", "great"] (spSizes K os ls qs n)
  | 0, k => fn_no fun vs H Q E ⟨_, _, _, _, _, _, h, _⟩ => h
  | n + 1, k => by
    have nd := scLawSizes.nd
    have Gsizes : FnOk P w K mg base CX0 (k + n + 2) f fd ["sheet", "great"] (spSizes K os ls qs n) := ok_sizes Fsizes bsizes gsizes Forder GO border gorder Fdepth GD bdepth gdepth mlist mlen mint mmax mmin mzip n k
    have Gorder := GO (k + n + 1)
    have Gdepth := GD (k + n + 1)
    refine Fsizes.ok scLawSizes (fun vs H Q E h => ?_) (fun cdv A outer s H vs Q E hr h => ?_)
    · obtain ⟨s, v, W, rfl, _⟩ := h
      rfl
    · obtain ⟨s, v, W, rfl, hS, hs, hG, hn, q⟩ := h
      have hWb := GAt.shut hS _ _ _ hG
      have hWl := GAt.bits _ _ _ hG
      obtain ⟨t, xs, ps, Ws, rfl, ht, hg⟩ := hG
      have l12 := sht_len hS
      have ord : ∀ {σ : L2.St} (H1 : Hp), Ex H H1 → σ[0]? = some (some (.ref s)) → EvL (tCall spOrder [] E0 (tCons (tVar 0) tNil)) σ H1 ((os ++ ls ++ qs).map V.str) := fun {σ} H1 e1 h0 => el_call (ea_cons (ev_var h0) ea_nil) fun H2 e2 Q q E => ⟨s, os, ls, qs, rfl, hS, hs.ex (e1.trans e2), fun l H' e n h => q l H' n e h⟩
      have one : ∀ {p : V} {W' : List Str} (H1 : Hp), Ex H H1 → GAt os ls qs H1 n p W' → ∀ {σ : L2.St}, σ[0]? = some (some (.ref s)) → σ[9]? = some (some p) → EvL (tCall (spSizes K os ls qs n) [] E0 (tCons (tVar 0) (tCons (tVar 9) tNil))) σ H1 ((szs os ls qs W').map nV) := fun {p W'} H1 e1 hp {σ} h0 h9 => el_call (ea_cons (ev_var h0) (ea_cons (ev_var h9) ea_nil)) fun H2 e2 Q q E => ⟨s, p, W', rfl, hS, hs.ex (e1.trans e2), hp.ex e2, by omega, fun p2 H3 n3 e3 h3 => q p2 H3 n3 e3 h3⟩
      cases hg with
      | word hu hl hm hb =>
        refine ⟨_, (pss_cons (ps_set (i := 2) nd rfl (.inl rfl) (pe_call Gorder hr (by rfl) gorder Forder.kp border .nil pass0 (pa_cons (pv 0) pa_nil)))
      (pss_cons (ps_if (pt_cmpR op_eq (pe_ix ix_tup (pv 1) pe_int (fun _ _ => rfl)) pe_str (nomark _)) (pss_cons (ps_set (i := 3) nd rfl (.inr rfl) (pe_callTy call_list_of (by rfl) mlist (by decide +kernel) (pa_cons (pe_ix ix_tup (pv 1) pe_int (fun _ _ => rfl)) pa_nil))) (pss_one (ps_ret (pe_op op_cat (pe_lst (pa_cons (pe_callB call_len_seq (by rfl) mlen PySem.boot_len (pa_cons (pv 3) pa_nil)) (pa_cons (pe_call Gdepth hr (by rfl) gdepth Fdepth.kp bdepth .nil pass0 (pa_cons (pv 0) (pa_cons (pv 3) pa_nil))) pa_nil))) (pe_lc (own := [("letter", 10)]) (g := gName 10) (tt := tYes) (te := tBM K "list" (rCntS K) (tVar 3) (tCons (tVar 10) tNil)) rfl nd (pi_list (pv 2)) (blkOk_by (own := [("letter", 10)]) (N := nLawSizes) (sc := defScope sLawSizes) (by decide +kernel)) (fun _ _ _ _ _ => pg_name (i := 10) nd rfl (.inl rfl)) (fun _ _ _ _ _ => pts_nil) (fun _ _ _ _ _ => (pe_bm PySem.F.plainAttrs_list PySem.F.slot_list_count PySem.F.type_list_count (mt_cntS hr.units) (pv 3) (pa_cons (pv 10) pa_nil)))))))) pss_nil)
      pss_never)), ?_⟩
        refine q_asgL (ord H (Ex.refl H) rfl) fun L H1 nL e1 hL => q_when (ev_tagS rfl (e1 _ _ ht)) (fun _ H2 e2 => ?_) (fun h => absurd h (by decide))
        have e12 := e1.trans e2
        refine q_asgL (el_listT (ev_itS (i := 1) rfl (e12 _ _ ht) rfl) (hu.ex e12).st) fun wl H3 n3 e3 hw => ?_
        have e13 := e12.trans e3
        have hL3 := e3 _ _ (e2 _ _ hL)
        refine s_retL (xs := (szs os ls qs W).map nV) (el_is (el_cat (el_lst (ea_cons (ev_len (ev_var rfl) (sq_of hw)) (ea_cons (ev_call (ea_cons (ev_var rfl) (ea_cons (ev_var rfl) ea_nil)) fun H5 e5 Q q E => ⟨s, wl, os, ls, qs, W, rfl, hS, hs.ex (e13.trans e5), sq_of (e5 _ _ hw), hm, by omega, hb, fun H6 e6 => q H6 e6⟩) ea_nil)) (by show 2 ≤ 100000; decide))
          (el_lcL (fun _ => true) (fun i => nV (W.count ((os ++ ls ++ qs).getD i ""))) (ev_var rfl) (sq_of hL3) (by rw [List.length_map]; omega) (fun x => rfl) (fun i x H4 e4 hi => ev_yes) (fun i x H4 e4 hi _ => ?_)) ?_) (word_eq os ls qs W)) fun p H4 n4 e4 h4 => q.go e13 n4 e4 h4
        · obtain ⟨y, hy, rfl⟩ : ∃ y, (os ++ ls ++ qs)[i]? = some y ∧ x = .str y := by
            rw [List.getElem?_map] at hi
            cases e : (os ++ ls ++ qs)[i]? with
            | none => rw [e] at hi; cases hi
            | some z => rw [e] at hi; exact ⟨z, rfl, (Option.some.inj hi).symm⟩
          rw [List.getD_eq_getElem?_getD, hy]
          exact fun H5 e5 Q q => ⟨_, rfl, .inl ⟨rfl, _, sq_of (e5 _ _ (e4 _ _ hw))⟩, _, rfl, wl, W, y, rfl, rfl, sq_of (e5 _ _ (e4 _ _ hw)), q H5 (Ex.refl H5)⟩
        · simp only [given_true, List.length_map, List.length_range]
          show 2 + _ ≤ 10000
          omega
      | @row u ps Ws hu hr' hl' =>
        have hln := All2.len _ _ hr'
        refine ⟨_, (pss_cons (ps_set (i := 2) nd rfl (.inl rfl) (pe_call Gorder hr (by rfl) gorder Forder.kp border .nil pass0 (pa_cons (pv 0) pa_nil)))
      (pss_cons (ps_if (pt_cmpR op_eq (pe_ix ix_tup (pv 1) pe_int (fun _ _ => rfl)) pe_str (nomark _)) pss_never pss_nil)
      (pss_cons (ps_set (i := 4) nd rfl (.inl rfl) (pe_ifExp (pt_cmpR op_eq (pe_ix ix_tup (pv 1) pe_int (fun _ _ => rfl)) pe_str (nomark _)) (pe_ix ix_tup (pv 1) pe_int (fun _ _ => rfl)) (pe_lst (pa_cons (pe_ix ix_tup (pv 1) (pe_op op_add pe_int (pe_callTy call_int1 (by rfl) mint (by decide +kernel) (pa_cons (pe_cmpR op_eq (pe_ix ix_tup (pv 1) pe_int (fun _ _ => rfl)) pe_str (nomark _)) pa_nil))) (fun _ _ => rfl)) pa_nil))))
      (pss_cons (ps_setLc (i := 5) (own := [("part", 9)]) (g := gName 9) (tt := tYes) (te := (tCall (spSizes K os ls qs n) [] E0 (tCons (tVar 0) (tCons (tVar 9) tNil)))) rfl nd rfl rfl (sw_true rfl rfl rfl (by decide +kernel)) (pi_tup (pv 4)) (blkOk_by (own := [("part", 9)]) (N := nLawSizes) (sc := defScope sLawSizes) (by decide +kernel)) (fun _ _ _ _ _ => pg_name (i := 9) nd rfl (.inl rfl)) (fun _ _ _ _ _ => pts_nil) (fun _ _ _ _ _ => (pe_call Gsizes hr (by rfl) gsizes Fsizes.kp bsizes .nil pass0 (pa_cons (pv 0) (pa_cons (pv 9) pa_nil)))))
      (pss_cons (ps_set (i := 6) nd rfl (.inl rfl) (pe_op op_rep (pe_lst (pa_cons pe_int pa_nil)) (pe_op op_add pe_int (pe_callB call_len_seq (by rfl) mlen PySem.boot_len (pa_cons (pv 2) pa_nil)))))
      (pss_cons (ps_for PassesOwn.never rfl (pi_list (pv 5)) (pg_name (i := 7) nd rfl (.inl rfl)) (pss_one (ps_set (i := 6) nd rfl (.inl rfl) (pe_op op_cat (pe_lst (pa_cons (pe_op op_add (pe_ix ix_list (pv 6) pe_int (fun _ _ => rfl)) (pe_ix ix_list (pv 7) pe_int (fun _ _ => rfl))) (pa_cons (pe_callB (call_max2 rfl) (by rfl) mmax (by decide +kernel) (pa_cons (pe_ix ix_list (pv 6) pe_int (fun _ _ => rfl)) (pa_cons (pe_ix ix_list (pv 7) pe_int (fun _ _ => rfl)) pa_nil))) pa_nil))) (pe_lc (own := [("a", 11), ("b", 12)]) (g := gTup K 2 (gCons (gName 11) (gCons (gName 12) gNil))) (tt := tYes) (te := (tOp (rI0 fun i j => .int (i + j)) (tVar 11) (tVar 12))) rfl nd (pi_zip (by rfl) mzip (pa_cons (pe_slice sl_list (pv 6) (po_some pe_int) po_none) (pa_cons (pe_slice sl_list (pv 7) (po_some pe_int) po_none) pa_nil))) (blkOk_by (own := [("a", 11), ("b", 12)]) (N := nLawSizes) (sc := defScope sLawSizes) (by decide +kernel)) (fun _ _ _ _ _ => pg_tup rfl (pgs_cons (pg_name (i := 11) nd rfl (.inl rfl)) (pgs_cons (pg_name (i := 12) nd rfl (.inl rfl)) pgs_nil))) (fun _ _ _ _ _ => pts_nil) (fun _ _ _ _ _ => (pe_op op_add (pv 11) (pv 12))))))))
      (pss_cons (ps_if (pt_cmpR op_eq (pe_ix ix_tup (pv 1) pe_int (fun _ _ => rfl)) pe_str (nomark _)) pss_never pss_nil)
      (pss_cons (ps_if (pt_cmpR op_eq (pe_ix ix_tup (pv 1) pe_int (fun _ _ => rfl)) pe_str (nomark _)) pss_never pss_nil)
      (pss_one (ps_ret (pv 6))))))))))), ?_⟩
        refine q_asgL (ord H (Ex.refl H) rfl) fun L H1 nL e1 hL => q_when (ev_tagS rfl (e1 _ _ ht)) (fun h => absurd h (by decide)) fun _ H2 e2 => ?_
        have e12 := e1.trans e2
        refine q_asg (ev_if (ev_tagS rfl (e12 _ _ ht)) (fun _ => ev_itS (i := 1) rfl (e12 _ _ ht) rfl) (fun h => absurd h (by decide))) fun H3 e3 => ?_
        have e13 := e12.trans e3
        refine q_mid (Ws := Ws) hS (by
          have := els_T (K := K) (te := tCall (spSizes K os ls qs n) [] E0 (tCons (tVar 0) (tCons (tVar 9) tNil))) (j := 9) (vs := [9]) (σ := [some (.ref s), some (.ref t), some (.ref L), none, some (.ref u), none, none, none, none, none, none, none, none, none]) (tl := tVar 4) (fun i => (szs os ls qs (Ws.getD i [])).map nV) (ev_var rfl) (st_of (e13 _ _ hu)) (by omega) (fun x => rfl) (fun i x H4 e4 hi => by
            obtain ⟨W', hW, hR⟩ := All2.at _ _ hr' i x hi
            rw [List.getD_eq_getElem?_getD, hW]
            exact one H4 (e13.trans e4) (hR.ex (e13.trans e4)) rfl rfl)
          rw [hln] at this
          exact this) (by omega) (e3 _ _ (e2 _ _ hL)) (fun W hW => by
          obtain ⟨v, hv⟩ := All2.mem _ _ hr' W hW
          exact GAt.shut hS _ _ _ hv) fun l6 rs5 y7 H4 n4 e4 h4 => ?_
        have e14 := e13.trans e4
        exact q_when (ev_tagS rfl (e14 _ _ ht)) (fun h => absurd h (by decide)) fun _ H5 e5 => q_when (ev_tagS rfl ((e14.trans e5) _ _ ht)) (fun h => absurd h (by decide)) fun _ H6 e6 => s_ret (ev_var rfl) fun H7 e7 => q _ _ (fresh_back e13 n4) (((e14.trans e5).trans e6).trans e7) (((e5.trans e6).trans e7) _ _ h4)
      | @again k' p W' hk hr' =>
        refine ⟨_, (pss_cons (ps_set (i := 2) nd rfl (.inl rfl) (pe_call Gorder hr (by rfl) gorder Forder.kp border .nil pass0 (pa_cons (pv 0) pa_nil)))
      (pss_cons (ps_if (pt_cmpR op_eq (pe_ix ix_tup (pv 1) pe_int (fun _ _ => rfl)) pe_str (nomark _)) pss_never pss_nil)
      (pss_cons (ps_set (i := 4) nd rfl (.inl rfl) (pe_ifExp (pt_cmpR op_eq (pe_ix ix_tup (pv 1) pe_int (fun _ _ => rfl)) pe_str (nomark _)) (pe_ix ix_tup (pv 1) pe_int (fun _ _ => rfl)) (pe_lst (pa_cons (pe_ix ix_tup (pv 1) (pe_op op_add pe_int (pe_callTy call_int1 (by rfl) mint (by decide +kernel) (pa_cons (pe_cmpR op_eq (pe_ix ix_tup (pv 1) pe_int (fun _ _ => rfl)) pe_str (nomark _)) pa_nil))) (fun _ _ => rfl)) pa_nil))))
      (pss_cons (ps_setLc (i := 5) (own := [("part", 9)]) (g := gName 9) (tt := tYes) (te := (tCall (spSizes K os ls qs n) [] E0 (tCons (tVar 0) (tCons (tVar 9) tNil)))) rfl nd rfl rfl (sw_true rfl rfl rfl (by decide +kernel)) (pi_list (pv 4)) (blkOk_by (own := [("part", 9)]) (N := nLawSizes) (sc := defScope sLawSizes) (by decide +kernel)) (fun _ _ _ _ _ => pg_name (i := 9) nd rfl (.inl rfl)) (fun _ _ _ _ _ => pts_nil) (fun _ _ _ _ _ => (pe_call Gsizes hr (by rfl) gsizes Fsizes.kp bsizes .nil pass0 (pa_cons (pv 0) (pa_cons (pv 9) pa_nil)))))
      (pss_cons (ps_set (i := 6) nd rfl (.inl rfl) (pe_op op_rep (pe_lst (pa_cons pe_int pa_nil)) (pe_op op_add pe_int (pe_callB call_len_seq (by rfl) mlen PySem.boot_len (pa_cons (pv 2) pa_nil)))))
      (pss_cons (ps_for PassesOwn.never rfl (pi_list (pv 5)) (pg_name (i := 7) nd rfl (.inl rfl)) (pss_one (ps_set (i := 6) nd rfl (.inl rfl) (pe_op op_cat (pe_lst (pa_cons (pe_op op_add (pe_ix ix_list (pv 6) pe_int (fun _ _ => rfl)) (pe_ix ix_list (pv 7) pe_int (fun _ _ => rfl))) (pa_cons (pe_callB (call_max2 rfl) (by rfl) mmax (by decide +kernel) (pa_cons (pe_ix ix_list (pv 6) pe_int (fun _ _ => rfl)) (pa_cons (pe_ix ix_list (pv 7) pe_int (fun _ _ => rfl)) pa_nil))) pa_nil))) (pe_lc (own := [("a", 11), ("b", 12)]) (g := gTup K 2 (gCons (gName 11) (gCons (gName 12) gNil))) (tt := tYes) (te := (tOp (rI0 fun i j => .int (i + j)) (tVar 11) (tVar 12))) rfl nd (pi_zip (by rfl) mzip (pa_cons (pe_slice sl_list (pv 6) (po_some pe_int) po_none) (pa_cons (pe_slice sl_list (pv 7) (po_some pe_int) po_none) pa_nil))) (blkOk_by (own := [("a", 11), ("b", 12)]) (N := nLawSizes) (sc := defScope sLawSizes) (by decide +kernel)) (fun _ _ _ _ _ => pg_tup rfl (pgs_cons (pg_name (i := 11) nd rfl (.inl rfl)) (pgs_cons (pg_name (i := 12) nd rfl (.inl rfl)) pgs_nil))) (fun _ _ _ _ _ => pts_nil) (fun _ _ _ _ _ => (pe_op op_add (pv 11) (pv 12))))))))
      (pss_cons (ps_if (pt_cmpR op_eq (pe_ix ix_tup (pv 1) pe_int (fun _ _ => rfl)) pe_str (nomark _)) (pss_one (ps_ret (pe_op op_cat (pe_lst (pa_cons (pe_op op_mulW (pe_ix ix_tup (pv 1) pe_int (fun _ _ => rfl)) (pe_ix ix_list (pv 6) pe_int (fun _ _ => rfl))) (pa_cons (pe_op op_mulW (pe_ix ix_list (pv 6) pe_int (fun _ _ => rfl)) (pe_callB (call_min2 rfl) (by rfl) mmin (by decide +kernel) (pa_cons pe_int (pa_cons (pe_ix ix_tup (pv 1) pe_int (fun _ _ => rfl)) pa_nil)))) pa_nil))) (pe_lc (own := [("many", 13)]) (g := gName 13) (tt := tYes) (te := tOp (rI CMulW fun i j => .int (i * j)) (tOp (rIxT K) (tVar 1) (tC (.int 1))) (tVar 13)) rfl nd (pi_list (pe_slice sl_list (pv 6) (po_some pe_int) po_none)) (blkOk_by (own := [("many", 13)]) (N := nLawSizes) (sc := defScope sLawSizes) (by decide +kernel)) (fun _ _ _ _ _ => pg_name (i := 13) nd rfl (.inl rfl)) (fun _ _ _ _ _ => pts_nil) (fun _ _ _ _ _ => (pe_op op_mulW (pe_ix ix_tup (pv 1) pe_int (fun _ _ => rfl)) (pv 13))))))) pss_nil)
      pss_never))))))), ?_⟩
        refine q_asgL (ord H (Ex.refl H) rfl) fun L H1 nL e1 hL => q_when (ev_tagS rfl (e1 _ _ ht)) (fun h => absurd h (by decide)) fun _ H2 e2 => ?_
        have e12 := e1.trans e2
        refine ev_tagS rfl (e12 _ _ ht) H2 (Ex.refl _) _ fun H2' e2' => iteF (el_lst (ea_cons (x := p) (ev_op (ev_var rfl) (ev_is (ev_op ev_c (ev_intB (ev_op (ev_itS (i := 0) rfl ((e12.trans e2') _ _ ht) rfl) ev_c (rv_eq rfl))) rv_I0) (show V.int (2 + (if decide (V.str "again" = V.str "wrap") = true then 1 else 0)) = .int ((2 : Nat) : Int) by rw [decide_eq_false (by decide)]; rfl)) (rv_ixT (st_of ((e12.trans e2') _ _ ht)) (atI_nat (j := 2) rfl))) ea_nil) (by show 1 ≤ 100000; decide) H2' (Ex.refl _) _ fun pl H3 n3 e3 h3 => ?_)
        have e13 := (e12.trans e2').trans e3
        show tSeq _ _ _ [some (.ref s), some (.ref t), some (.ref L), none, some (.ref pl), none, none, none, none, none, none, none, none, none] H3
        refine q_mid (Ws := [W']) hS (els_L (K := K) (te := tCall (spSizes K os ls qs n) [] E0 (tCons (tVar 0) (tCons (tVar 9) tNil))) (j := 9) (vs := [9]) (tl := tVar 4) (xs := [p]) (fun i => (szs os ls qs (([W'] : List (List Str)).getD i [])).map nV) (ev_var rfl) (sq_of h3) (by show 1 ≤ 1000; decide) (fun x => rfl) (fun i x H4 e4 hi => by
            cases i with
            | zero =>
              cases hi
              exact one H4 (e13.trans e4) (hr'.ex (e13.trans e4)) rfl rfl
            | succ i => simp at hi)) (by show 1 ≤ 8; decide) (e3 _ _ (e2' _ _ (e2 _ _ hL))) (fun W hW => by
          rw [List.mem_singleton.mp hW]
          exact GAt.shut hS _ _ _ hr') fun l6 rs5 y7 H4 n4 e4 h4 => ?_
        have e14 := e13.trans e4
        rw [show ([W'] : List (List Str)).flatten = W' by simp] at h4
        have hbW := GAt.shut hS _ _ _ hr'
        have hbits := GAt.bits _ _ _ hr'
        refine q_when (ev_tagS rfl (e14 _ _ ht)) (fun _ H5 e5 => ?_) (fun h => absurd h (by decide))
        have e15 := e14.trans e5
        have h5 := e5 _ _ h4
        refine s_retL (xs := (szs os ls qs (List.replicate k' W').flatten).map nV) (el_is (el_cat (el_lst (ea_cons (ev_op (ev_itS (i := 1) rfl (e15 _ _ ht) rfl) (ev_op (ev_var rfl) ev_c (rv_ixL (sq_of h5) (atI_nat (j := 0) rfl))) (rv_I (mulW_of hk hbits (by omega)))) (ea_cons (ev_op (ev_op (ev_var rfl) ev_c (rv_ixL (sq_of h5) (atI_nat (j := 1) rfl))) (ev_min2 ev_c (ev_itS (i := 1) rfl (e15 _ _ ht) rfl)) (rv_I ?_)) ea_nil)) (by show 2 ≤ 100000; decide))
          (el_lcNL (fun _ => true) (fun i => .int ((k' : Int) * (W'.count ((os ++ ls ++ qs).getD i "") : Int))) (szs_cut rfl h5) (by rw [List.length_map, List.length_map]; omega) (fun x => rfl) (fun i x H6 e6 hi => ev_yes) (fun i x H6 e6 hi _ => ?_)) ?_) (again_eq os ls qs W' hbW k')) fun p H6 n6 e6 h6 => q.go e15 n6 e6 h6
        · have h1 : dpt os qs W' < 2 ^ (300 * n) := Nat.lt_of_le_of_lt (dpt_len os qs W') hbits
          have h2 : ∃ m : Nat, (if (k' : Int) < 1 then (k' : Int) else 1) = (m : Int) ∧ m ≤ 1 := by
            by_cases h : (k' : Int) < 1
            · exact ⟨k', by rw [if_pos h], by omega⟩
            · exact ⟨1, by rw [if_neg h]; rfl, Nat.le_refl 1⟩
          obtain ⟨m, hm, m1⟩ := h2
          rw [hm]
          have := mulW_of (i := m) (j := dpt os qs W') (n := n) (by omega) h1 (by omega)
          unfold CMulW at this ⊢
          show ((dpt os qs W' : Nat) : Int).natAbs.log2 + _ < _
          omega
        · rw [szs_at hi]
          exact ev_op (ev_itS (i := 1) rfl ((e15.trans e6) _ _ ht) rfl) (ev_var rfl) (rv_I (mulW_of hk (Nat.lt_of_le_of_lt (count_le_len _ W') hbits) (by omega)))
        · simp only [given_true, List.length_map, List.length_range]
          show 2 + _ ≤ 10000
          omega
      | @wrap k' a c p W' hk ha hc hr' =>
        refine ⟨_, (pss_cons (ps_set (i := 2) nd rfl (.inl rfl) (pe_call Gorder hr (by rfl) gorder Forder.kp border .nil pass0 (pa_cons (pv 0) pa_nil)))
      (pss_cons (ps_if (pt_cmpR op_eq (pe_ix ix_tup (pv 1) pe_int (fun _ _ => rfl)) pe_str (nomark _)) pss_never pss_nil)
      (pss_cons (ps_set (i := 4) nd rfl (.inl rfl) (pe_ifExp (pt_cmpR op_eq (pe_ix ix_tup (pv 1) pe_int (fun _ _ => rfl)) pe_str (nomark _)) (pe_ix ix_tup (pv 1) pe_int (fun _ _ => rfl)) (pe_lst (pa_cons (pe_ix ix_tup (pv 1) (pe_op op_add pe_int (pe_callTy call_int1 (by rfl) mint (by decide +kernel) (pa_cons (pe_cmpR op_eq (pe_ix ix_tup (pv 1) pe_int (fun _ _ => rfl)) pe_str (nomark _)) pa_nil))) (fun _ _ => rfl)) pa_nil))))
      (pss_cons (ps_setLc (i := 5) (own := [("part", 9)]) (g := gName 9) (tt := tYes) (te := (tCall (spSizes K os ls qs n) [] E0 (tCons (tVar 0) (tCons (tVar 9) tNil)))) rfl nd rfl rfl (sw_true rfl rfl rfl (by decide +kernel)) (pi_list (pv 4)) (blkOk_by (own := [("part", 9)]) (N := nLawSizes) (sc := defScope sLawSizes) (by decide +kernel)) (fun _ _ _ _ _ => pg_name (i := 9) nd rfl (.inl rfl)) (fun _ _ _ _ _ => pts_nil) (fun _ _ _ _ _ => (pe_call Gsizes hr (by rfl) gsizes Fsizes.kp bsizes .nil pass0 (pa_cons (pv 0) (pa_cons (pv 9) pa_nil)))))
      (pss_cons (ps_set (i := 6) nd rfl (.inl rfl) (pe_op op_rep (pe_lst (pa_cons pe_int pa_nil)) (pe_op op_add pe_int (pe_callB call_len_seq (by rfl) mlen PySem.boot_len (pa_cons (pv 2) pa_nil)))))
      (pss_cons (ps_for PassesOwn.never rfl (pi_list (pv 5)) (pg_name (i := 7) nd rfl (.inl rfl)) (pss_one (ps_set (i := 6) nd rfl (.inl rfl) (pe_op op_cat (pe_lst (pa_cons (pe_op op_add (pe_ix ix_list (pv 6) pe_int (fun _ _ => rfl)) (pe_ix ix_list (pv 7) pe_int (fun _ _ => rfl))) (pa_cons (pe_callB (call_max2 rfl) (by rfl) mmax (by decide +kernel) (pa_cons (pe_ix ix_list (pv 6) pe_int (fun _ _ => rfl)) (pa_cons (pe_ix ix_list (pv 7) pe_int (fun _ _ => rfl)) pa_nil))) pa_nil))) (pe_lc (own := [("a", 11), ("b", 12)]) (g := gTup K 2 (gCons (gName 11) (gCons (gName 12) gNil))) (tt := tYes) (te := (tOp (rI0 fun i j => .int (i + j)) (tVar 11) (tVar 12))) rfl nd (pi_zip (by rfl) mzip (pa_cons (pe_slice sl_list (pv 6) (po_some pe_int) po_none) (pa_cons (pe_slice sl_list (pv 7) (po_some pe_int) po_none) pa_nil))) (blkOk_by (own := [("a", 11), ("b", 12)]) (N := nLawSizes) (sc := defScope sLawSizes) (by decide +kernel)) (fun _ _ _ _ _ => pg_tup rfl (pgs_cons (pg_name (i := 11) nd rfl (.inl rfl)) (pgs_cons (pg_name (i := 12) nd rfl (.inl rfl)) pgs_nil))) (fun _ _ _ _ _ => pts_nil) (fun _ _ _ _ _ => (pe_op op_add (pv 11) (pv 12))))))))
      (pss_cons (ps_if (pt_cmpR op_eq (pe_ix ix_tup (pv 1) pe_int (fun _ _ => rfl)) pe_str (nomark _)) pss_never pss_nil)
      (pss_cons (ps_if (pt_cmpR op_eq (pe_ix ix_tup (pv 1) pe_int (fun _ _ => rfl)) pe_str (nomark _)) (pss_cons (ps_setLc (i := 8) (own := [("letter", 10)]) (g := gName 10) (tt := tYes) (te := tOp (rI CMulW fun i j => .int (i * j)) (tOp (rIxT K) (tVar 1) (tC (.int 1))) (tCB rInt1 (tCons (tOp (rIn K false) (tVar 10) (tTup (tCons (tOp (rIxT K) (tVar 1) (tC (.int 2))) (tCons (tOp (rIxT K) (tVar 1) (tC (.int 4))) tNil)))) tNil))) rfl nd rfl rfl (sw_true rfl rfl rfl (by decide +kernel)) (pi_list (pv 2)) (blkOk_by (own := [("letter", 10)]) (N := nLawSizes) (sc := defScope sLawSizes) (by decide +kernel)) (fun _ _ _ _ _ => pg_name (i := 10) nd rfl (.inl rfl)) (fun _ _ _ _ _ => pts_nil) (fun _ _ _ _ _ => (pe_op op_mulW (pe_ix ix_tup (pv 1) pe_int (fun _ _ => rfl)) (pe_callTy call_int1 (by rfl) mint (by decide +kernel) (pa_cons (pe_cmpR op_in_seq (pv 10) (pe_tup (pa_cons (pe_ix ix_tup (pv 1) pe_int (fun _ _ => rfl)) (pa_cons (pe_ix ix_tup (pv 1) pe_int (fun _ _ => rfl)) pa_nil))) (by rfl)) pa_nil))))) (pss_one (ps_ret (pe_op op_cat (pe_lst (pa_cons (pe_op op_add (pe_op op_mulW pe_int (pe_ix ix_tup (pv 1) pe_int (fun _ _ => rfl))) (pe_ix ix_list (pv 6) pe_int (fun _ _ => rfl))) (pa_cons (pe_op op_add (pe_ix ix_tup (pv 1) pe_int (fun _ _ => rfl)) (pe_ix ix_list (pv 6) pe_int (fun _ _ => rfl))) pa_nil))) (pe_lc (own := [("a", 11), ("b", 12)]) (g := gTup K 2 (gCons (gName 11) (gCons (gName 12) gNil))) (tt := tYes) (te := (tOp (rI0 fun i j => .int (i + j)) (tVar 11) (tVar 12))) rfl nd (pi_zip (by rfl) mzip (pa_cons (pe_slice sl_list (pv 6) (po_some pe_int) po_none) (pa_cons (pv 8) pa_nil))) (blkOk_by (own := [("a", 11), ("b", 12)]) (N := nLawSizes) (sc := defScope sLawSizes) (by decide +kernel)) (fun _ _ _ _ _ => pg_tup rfl (pgs_cons (pg_name (i := 11) nd rfl (.inl rfl)) (pgs_cons (pg_name (i := 12) nd rfl (.inl rfl)) pgs_nil))) (fun _ _ _ _ _ => pts_nil) (fun _ _ _ _ _ => (pe_op op_add (pv 11) (pv 12)))))))) pss_nil)
      pss_never)))))))), ?_⟩
        refine q_asgL (ord H (Ex.refl H) rfl) fun L H1 nL e1 hL => q_when (ev_tagS rfl (e1 _ _ ht)) (fun h => absurd h (by decide)) fun _ H2 e2 => ?_
        have e12 := e1.trans e2
        refine ev_tagS rfl (e12 _ _ ht) H2 (Ex.refl _) _ fun H2' e2' => iteF (el_lst (ea_cons (x := p) (ev_op (ev_var rfl) (ev_is (ev_op ev_c (ev_intB (ev_op (ev_itS (i := 0) rfl ((e12.trans e2') _ _ ht) rfl) ev_c (rv_eq rfl))) rv_I0) (show V.int (2 + (if decide (V.str "wrap" = V.str "wrap") = true then 1 else 0)) = .int ((3 : Nat) : Int) by rw [decide_eq_true rfl]; rfl)) (rv_ixT (st_of ((e12.trans e2') _ _ ht)) (atI_nat (j := 3) rfl))) ea_nil) (by show 1 ≤ 100000; decide) H2' (Ex.refl _) _ fun pl H3 n3 e3 h3 => ?_)
        have e13 := (e12.trans e2').trans e3
        show tSeq _ _ _ [some (.ref s), some (.ref t), some (.ref L), none, some (.ref pl), none, none, none, none, none, none, none, none, none] H3
        have hL3 := e3 _ _ (e2' _ _ (e2 _ _ hL))
        refine q_mid (Ws := [W']) hS (els_L (K := K) (te := tCall (spSizes K os ls qs n) [] E0 (tCons (tVar 0) (tCons (tVar 9) tNil))) (j := 9) (vs := [9]) (tl := tVar 4) (xs := [p]) (fun i => (szs os ls qs (([W'] : List (List Str)).getD i [])).map nV) (ev_var rfl) (sq_of h3) (by show 1 ≤ 1000; decide) (fun x => rfl) (fun i x H4 e4 hi => by
            cases i with
            | zero =>
              cases hi
              exact one H4 (e13.trans e4) (hr'.ex (e13.trans e4)) rfl rfl
            | succ i => simp at hi)) (by show 1 ≤ 8; decide) hL3 (fun W hW => by
          rw [List.mem_singleton.mp hW]
          exact GAt.shut hS _ _ _ hr') fun l6 rs5 y7 H4 n4 e4 h4 => ?_
        have e14 := e13.trans e4
        rw [show ([W'] : List (List Str)).flatten = W' by simp] at h4
        have hbW := GAt.shut hS _ _ _ hr'
        refine q_when (ev_tagS rfl (e14 _ _ ht)) (fun h => absurd h (by decide)) fun _ H5 e5 => ?_
        have e15 := e14.trans e5
        refine q_when (ev_tagS rfl (e15 _ _ ht)) (fun _ H6 e6 => ?_) (fun h => absurd h (by decide))
        have e16 := e15.trans e6
        have h46 := e5.trans e6
        have small : ∀ b : Bool, CMulW (k' : Int) (if b = true then 1 else 0) := fun b => by
          have := mulW_of (i := k') (j := if b = true then 1 else 0) (n := 1) hk (by
            have : (2 : Nat) ^ 1 ≤ 2 ^ (300 * 1) := Nat.pow_le_pow_right (by decide) (by decide)
            split <;> omega) (by decide)
          cases b <;> exact this
        refine q_asgL (el_lcL (fun _ => true) (fun i => .int ((k' : Int) * (if inV (.str ((os ++ ls ++ qs).getD i "")) [.str a, .str c] = true then 1 else 0))) (ev_var rfl) (sq_of (h46 _ _ (e4 _ _ hL3))) (by rw [List.length_map]; omega) (fun x => rfl) (fun i x H7 e7 hi => ev_yes) (fun i x H7 e7 hi _ => ?_)) fun l8 H7 n7 e7 h7 => ?_
        · obtain ⟨y, hy, rfl⟩ : ∃ y, (os ++ ls ++ qs)[i]? = some y ∧ x = .str y := by
            rw [List.getElem?_map] at hi
            cases e : (os ++ ls ++ qs)[i]? with
            | none => rw [e] at hi; cases hi
            | some z => rw [e] at hi; exact ⟨z, rfl, (Option.some.inj hi).symm⟩
          rw [List.getD_eq_getElem?_getD, hy]
          exact ev_op (ev_itS (i := 1) rfl ((e16.trans e7) _ _ ht) rfl) (ev_intB (ev_inU (ev_var rfl) (eu_tup (ea_cons (ev_itS (i := 2) rfl ((e16.trans e7) _ _ ht) rfl) (ea_cons (ev_itS (i := 4) rfl ((e16.trans e7) _ _ ht) rfl) ea_nil)) (by show 2 ≤ 100000; decide)) rfl rfl)) (rv_I (small _))
        · rw [given_true, List.length_map] at h7
          have e17 := e16.trans e7
          have h6 := (h46.trans e7) _ _ h4
          refine s_retL (xs := (szs os ls qs (List.replicate k' a ++ W' ++ List.replicate k' c)).map nV) (el_is (el_cat (el_lst (ea_cons (ev_op (ev_op ev_c (ev_itS (i := 1) rfl (e17 _ _ ht) rfl) (rv_I (mulW_of (i := 2) (n := 1) (by decide) (Nat.lt_trans hk (Nat.pow_lt_pow_right (by decide) (by decide))) (by decide)))) (ev_op (ev_var rfl) ev_c (rv_ixL (sq_of h6) (atI_nat (j := 0) rfl))) rv_I0) (ea_cons (ev_op (ev_itS (i := 1) rfl (e17 _ _ ht) rfl) (ev_op (ev_var rfl) ev_c (rv_ixL (sq_of h6) (atI_nat (j := 1) rfl))) rv_I0) ea_nil)) (by show 2 ≤ 100000; decide))
            (el_lcZV (fun i => .int ((W'.count ((os ++ ls ++ qs).getD i "") : Int) + (k' : Int) * (if inV (.str ((os ++ ls ++ qs).getD i "")) [.str a, .str c] = true then 1 else 0))) (szs_cut rfl h6) (ev_var rfl) h7 (by rw [List.length_map, List.length_map, List.length_map, List.length_range]) (by rw [List.length_map, List.length_map]; omega) (fun x y => rfl) (fun i x y H8 e8 hx hy => ?_)) ?_) (wrap_eq os ls qs W' hS ha hc hbW k')) fun p H8 n8 e8 h8 => q.go e17 n8 e8 h8
          · rw [szs_at hx]
            rw [List.getElem?_map] at hy
            cases hi : (List.range (os ++ ls ++ qs).length)[i]? with
            | none => rw [hi] at hy; cases hy
            | some z =>
              rw [hi] at hy
              obtain ⟨h1, h2⟩ := List.getElem?_eq_some_iff.mp hi
              rw [List.getElem_range] at h2
              subst h2
              rw [← Option.some.inj hy]
              exact ev_op (ev_var rfl) (ev_var rfl) rv_I0
          · rw [List.length_map, List.length_range, List.length_map, List.length_map]
            show 2 + _ ≤ 10000
            omega
end
end Eh
set_option Elab.async false
set_option linter.all false
set_option maxRecDepth 100000
set_option maxHeartbeats 4000000
namespace Eh
open PySem PySem.Spec PyProof.Rows L2 Evl
abbrev nLawWideGreat : List Str := ["pot", "sheet", "a", "c", "long", "some", "k"]
theorem scLawWideGreat : FnScope nLawWideGreat ["pot", "sheet"] (defScope sLawWideGreat) := ⟨rfl, rfl, rfl, by decide +kernel, rfl, by decide +kernel, by decide +kernel⟩
abbrev nLawTenDeep : List Str := ["pot", "sheet", "great", "k", "around"]
theorem scLawTenDeep : FnScope nLawTenDeep ["pot", "sheet"] (defScope sLawTenDeep) := ⟨rfl, rfl, rfl, by decide +kernel, rfl, by decide +kernel, by decide +kernel⟩
def spMade (n : Nat) : Sp := fun vs H Q _ => ∃ (p c s : Addr) (ns : List Int) (os ls qs : List Str), vs = [.ref p, .ref s] ∧ Pot p c ns H ∧ Sht os ls qs ∧ SheetAt H s os ls qs ∧ ∀ (v : V) (W : List Str) H', GAt os ls qs H' n v W → Keep p H H' → Pot p c ns H' → Q v H'
section
variable {os ls qs : List Str} {σ : L2.St} {H : Hp} {te ta tb : TE} {n m : Nat} {K : PySem.W.Frag}
theorem eg_wordU {W : List Str} (h : EvF te σ H (W.map V.str)) (hl : W.length ≤ 60) (hm : ∀ x ∈ W, x ∈ os ++ ls ++ qs) (hb : bal os qs W 0 = some 0) : EvG os ls qs (tTup (tCons (tC (.str "word")) (tCons te tNil))) σ H 1 := fun H1 e Q q =>
  h H1 e _ fun u H2 nu e2 hu => ⟨by show 2 ≤ sizeLine; decide, fun t nt => q (.ref t) W _ (e2.trans (Ex.new nt)) ⟨t, _, [], [], rfl, upd_same, .word (hu.ex (Ex.new nt)) hl hm hb⟩⟩
end
theorem rep_in {k : Nat} {x : V} (h : 0 < k) : (List.replicate k [x]).flatten ≠ [] := by
  rw [flat_rep]
  intro z
  have := congrArg List.length z
  rw [List.length_replicate] at this
  exact absurd this (by show ¬ k = 0; omega)
section
variable {P : Program} {w : World} {K : PySem.W.Frag} {mg : Str → Option Value} {base : Heap}
theorem ok_wide {f fpick fcount : Addr} {fd dpick dcount : FuncData} {k : Nat} (F : Fun K "_law_wide_great" "_law_wide_great" sLawWideGreat f fd) (Fpick : Fun K "_law_pick" "_law_pick" sPick fpick dpick) (Gpick : FnOk P w K mg base CX0 (k + 1) fpick dpick ["pot", "many"] spPick) (bpick : Binds K dpick ["pot", "many"] []) (gpick : mg "_law_pick" = some (.ref fpick)) (Fcount : Fun K "_law_count" "_law_count" sLawCount fcount dcount) (Gcount : FnOk P w K mg base CX0 (k + 1) fcount dcount ["pot", "big"] spCount) (bcount : Binds K dcount ["pot", "big"] []) (gcount : mg "_law_count" = some (.ref fcount)) (mlen : mg "len" = none) (mrange : mg "range" = none) (mtuple : mg "tuple" = none) : FnOk P w K mg base CX0 (k + 2) f fd ["pot", "sheet"] (spMade 3) := by
  have nd := scLawWideGreat.nd
  refine F.ok scLawWideGreat (fun vs H Q E h => ?_) (fun cdv A outer s H vs Q E hr h => ?_)
  · obtain ⟨p, c, s, ns, os, ls, qs, rfl, _⟩ := h
    rfl
  · obtain ⟨p, c, s, ns, os, ls, qs, rfl, hP, hS, hs, q⟩ := h
    refine ⟨_, (pss_cons (ps_set (i := 2) nd rfl (.inl rfl) (pe_ix ix_tup (pe_ix ix_tup (pv 1) pe_int (fun _ _ => rfl)) (pe_call Gpick hr (by rfl) gpick Fpick.kp bpick .nil pass0 (pa_cons (pv 0) (pa_cons (pe_callB call_len_seq (by rfl) mlen PySem.boot_len (pa_cons (pe_ix ix_tup (pv 1) pe_int (fun _ _ => rfl)) pa_nil)) pa_nil))) (fun _ _ => rfl)))
      (pss_cons (ps_set (i := 3) nd rfl (.inl rfl) (pe_ix ix_tup (pe_ix ix_tup (pv 1) pe_int (fun _ _ => rfl)) (pe_call Gpick hr (by rfl) gpick Fpick.kp bpick .nil pass0 (pa_cons (pv 0) (pa_cons (pe_callB call_len_seq (by rfl) mlen PySem.boot_len (pa_cons (pe_ix ix_tup (pv 1) pe_int (fun _ _ => rfl)) pa_nil)) pa_nil))) (fun _ _ => rfl)))
      (pss_cons (ps_set (i := 4) nd rfl (.inl rfl) (pe_tup (pa_cons pe_str (pa_cons (pe_op op_catF (pe_op op_repF (pe_tupF (pa_cons (pv 2) pa_nil)) pe_int) (pe_op op_repF (pe_tupF (pa_cons (pv 3) pa_nil)) pe_int)) pa_nil))))
      (pss_cons (ps_set (i := 5) nd rfl (.inr rfl) (pe_lst (pa_cons (pv 4) (pa_cons (pe_tup (pa_cons pe_str (pa_cons (pe_op op_repF (pe_tupF (pa_cons (pv 2) (pa_cons (pv 3) pa_nil))) pe_int) pa_nil))) (pa_cons (pe_tup (pa_cons pe_str (pa_cons (pe_tupF pa_nil) pa_nil))) (pa_cons (pe_tup (pa_cons pe_str (pa_cons (pe_call Gcount hr (by rfl) gcount Fcount.kp bcount .nil pass0 (pa_cons (pv 0) (pa_cons pe_bl pa_nil))) (pa_cons (pv 4) pa_nil)))) pa_nil))))))
      (pss_cons (ps_expr (pe_bm PySem.F.plainAttrs_list PySem.F.slot_list_append PySem.F.type_list_append mt_append (pv 5) (pa_cons (pe_tup (pa_cons pe_str (pa_cons (pe_call Gcount hr (by rfl) gcount Fcount.kp bcount .nil pass0 (pa_cons (pv 0) (pa_cons pe_bl pa_nil))) (pa_cons (pv 2) (pa_cons (pv 4) (pa_cons (pv 3) pa_nil)))))) pa_nil)))
      (pss_one (ps_ret (pe_tup (pa_cons pe_str (pa_cons (pe_callTy call_tuple_of (by rfl) mtuple (by decide +kernel) (pa_cons (pe_lc (own := [("k", 6)]) (g := gName 6) (tt := tYes) (te := (tOp (rIxL K) (tVar 5) (tCall spPick [] E0 (tCons (tVar 0) (tCons (tC (.int 5)) tNil))))) rfl nd (pi_range1 (by rfl) mrange (pa_cons pe_int pa_nil)) (blkOk_by (own := [("k", 6)]) (N := nLawWideGreat) (sc := defScope sLawWideGreat) (by decide +kernel)) (fun _ _ _ _ _ => pg_name (i := 6) nd rfl (.inl rfl)) (fun _ _ _ _ _ => pts_nil) (fun _ _ _ _ _ => (pe_ix ix_list (pv 5) (pe_call Gpick hr (by rfl) gpick Fpick.kp bpick .nil pass0 (pa_cons (pv 0) (pa_cons pe_int pa_nil))) (fun _ _ => rfl)))) pa_nil)) pa_nil)))))))))), ?_⟩
    obtain ⟨ao, ap, ac, g0, g1, g2, g3⟩ := hs
    refine draw_rd hP rfl rfl g0 (show atI [V.ref ao, .ref ap, .ref ac] 0 = some (.ref ao) from rfl) g1 hS.o0 (by have := hS.o4; omega) fun a H1 ha kp1 hP1 => ?_
    have kt1 : ∀ b xs, H b = some (.tup xs) → H1 b = some (.tup xs) := fun b xs z => kp1 _ _ (hP.ne_tup z) z
    refine draw_rd hP1 rfl rfl (kt1 _ _ g0) (show atI [V.ref ao, .ref ap, .ref ac] 2 = some (.ref ac) from rfl) (kt1 _ _ g3) hS.c0 (by have := hS.c4; omega) fun z H2 hz kp2 hP2 => ?_
    have kp02 := kp1.trans kp2
    have ma : a ∈ os ++ ls ++ qs := List.mem_append.mpr (.inl (List.mem_append.mpr (.inl ha)))
    have mz : z ∈ os ++ ls ++ qs := List.mem_append.mpr (.inr hz)
    have long : EvG os ls qs (tTup (tCons (tC (.str "word")) (tCons (tOp (rCatF K) (tOp (rRepF K) (tTupF (tCons (tVar 2) tNil)) (tC (.int 30))) (tOp (rRepF K) (tTupF (tCons (tVar 3) tNil)) (tC (.int 30)))) tNil))) [some (.ref p), some (.ref s), some (.str a), some (.str z), none, none, none] H2 1 := by
      refine eg_wordU (W := List.replicate 30 a ++ List.replicate 30 z) (ef_is (ef_cat (ef_rep (k := 30) (ef_tup (ea_cons (ev_var rfl) ea_nil) (by show 1 ≤ 100000; decide)) (by simp) (by decide) (by decide) (by show 1 ≤ 1000; decide)) (ef_rep (k := 30) (ef_tup (ea_cons (ev_var rfl) ea_nil) (by show 1 ≤ 100000; decide)) (by simp) (by decide) (by decide) (by show 1 ≤ 1000; decide)) (rep_in (by decide)) (rep_in (by decide)) ?_) ?_) ?_ ?_ ?_
      · rw [flat_rep, flat_rep, List.length_replicate, List.length_replicate]
        decide
      · rw [flat_rep, flat_rep, List.map_append, List.map_replicate, List.map_replicate]
      · rw [List.length_append, List.length_replicate, List.length_replicate]
        decide
      · intro x hx
        rcases List.mem_append.mp hx with h | h
        · rw [List.eq_of_mem_replicate h]
          exact ma
        · rw [List.eq_of_mem_replicate h]
          exact mz
      · have := bal_wrap hS ha hz (G := []) rfl 30
        rw [List.append_nil] at this
        exact this
    refine q_asgG (n := 1) long fun lg W1 H3 e3 hlg => ?_
    have hP3 := hP2.ex e3
    have kp03 := kp02.trans (Keep.ofEx e3)
    have two : ∀ {σ : L2.St} (H4 : Hp), σ[2]? = some (some (.str a)) → σ[3]? = some (some (.str z)) → EvG os ls qs (tTup (tCons (tC (.str "word")) (tCons (tOp (rRepF K) (tTupF (tCons (tVar 2) (tCons (tVar 3) tNil))) (tC (.int 30))) tNil))) σ H4 1 := fun {σ} H4 h2 h3 => by
      refine eg_wordU (W := (List.replicate 30 [a, z]).flatten) (ef_is (ef_rep (k := 30) (ef_tup (ea_cons (ev_var h2) (ea_cons (ev_var h3) ea_nil)) (by show 2 ≤ 100000; decide)) (by simp) (by decide) (by decide) (by show 2 ≤ 1000; decide)) (rep_V 30 [a, z])) ?_ ?_ ?_
      · rw [rep_len]
        show 30 * 2 ≤ 60
        decide
      · intro x hx
        obtain ⟨w, hw, hx⟩ := List.mem_flatten.mp hx
        rw [List.eq_of_mem_replicate hw] at hx
        rcases List.mem_cons.mp hx with h | h
        · rw [h]; exact ma
        · rw [List.mem_singleton.mp h]; exact mz
      · refine bal_flat _ fun w hw => ?_
        rw [List.eq_of_mem_replicate hw, show [a, z] = [a] ++ [z] from rfl, bal_app, bal_one_op ha]
        exact bal_one_cl hS hz 0
    refine ⟨_, rfl, two H3 rfl rfl H3 (Ex.refl _) _ fun v2 W2 H4 e4 g4 => eg_nil (os := os) (ls := ls) (qs := qs) H4 (Ex.refl _) _ fun v3 W3 H5 e5 g5 => ?_⟩
    have e45 := e4.trans e5
    refine ⟨_, rfl, p, c, ns, true, rfl, hP3.ex e45, fun k1 H6 hk1 _ kp6 hP6 => ⟨_, rfl, by show 3 ≤ sizeLine; decide, fun t1 nt1 => ⟨by show 4 ≤ sizeLine; decide, fun l nl => ?_⟩⟩⟩
    have e7 := Ex.new (o := .tup [.str "again", .int (k1 : Int), lg]) nt1
    have e8 := Ex.new (o := .lst [lg, v2, v3, .ref t1]) nl
    have kp08 := ((kp03.trans (Keep.ofEx e45)).trans kp6).trans (Keep.ofEx (e7.trans e8))
    have hP8 := hP6.ex (e7.trans e8)
    have lg6 := (hlg.ex e45).kp (hP3.ex e45) kp6
    have lg8 := lg6.ex (e7.trans e8)
    have hA8 : All2 (GAt os ls qs (upd (upd H6 t1 (.tup [.str "again", .int (k1 : Int), lg])) l (.lst [lg, v2, v3, .ref t1])) 2) [lg, v2, v3, .ref t1] [W1, W2, W3, (List.replicate k1 W1).flatten] := ⟨lg8.le (by decide), (((g4.ex e5).kp (hP3.ex e45) kp6).ex (e7.trans e8)).le (by decide), ((g5.kp (hP3.ex e45) kp6).ex (e7.trans e8)).le (by decide), ⟨t1, _, [lg], [W1], rfl, e8 _ _ upd_same, .again hk1 lg8⟩, trivial⟩
    have hl8 : (upd (upd H6 t1 (.tup [.str "again", .int (k1 : Int), lg])) l (.lst [lg, v2, v3, .ref t1])) l = some (.lst [lg, v2, v3, .ref t1]) := upd_same
    have lp := ((hP6.ex e7).ne_new nl).1.symm
    have lc := ((hP6.ex e7).ne_new nl).2
    dsimp only [gName]
    show tSeq _ _ _ [some (.ref p), some (.ref s), some (.str a), some (.str z), some lg, some (.ref l), none] (upd (upd H6 t1 (.tup [.str "again", .int (k1 : Int), lg])) l (.lst [lg, v2, v3, .ref t1]))
    have nlH : H l = none := Keep.fresh ((kp03.trans (Keep.ofEx e45)).trans kp6) lp (fresh_back e7 nl)
    generalize upd (upd H6 t1 (.tup [.str "again", .int (k1 : Int), lg])) l (.lst [lg, v2, v3, .ref t1]) = H8 at kp08 hP8 lg8 hA8 hl8
    refine ⟨_, rfl, .inl ⟨rfl, _, sq_of hl8⟩, _, rfl, p, c, ns, true, rfl, hP8, fun k2 H9 hk2 _ kp9 hP9 => ⟨_, rfl, _, rfl, _, rfl, by show 5 ≤ sizeLine; decide, fun t2 nt2 => ⟨l, _, _, rfl, rfl, Ex.new nt2 _ _ (kp9 _ _ lp hl8), by show 4 < sizeLine; decide, ?_⟩⟩⟩
    have e10 := Ex.new (o := .tup [.str "wrap", .int (k2 : Int), .str a, lg, .str z]) nt2
    have hl10 := e10 _ _ (kp9 _ _ lp hl8)
    have kt : Kt (upd H9 t2 (.tup [.str "wrap", .int (k2 : Int), .str a, lg, .str z])) (upd (upd H9 t2 (.tup [.str "wrap", .int (k2 : Int), .str a, lg, .str z])) l (.lst ([lg, v2, v3, .ref t1] ++ [.ref t2]))) := keep_lst hl10
    have hA11 : All2 (GAt os ls qs (upd (upd H9 t2 (.tup [.str "wrap", .int (k2 : Int), .str a, lg, .str z])) l (.lst ([lg, v2, v3, .ref t1] ++ [.ref t2]))) 2) ([lg, v2, v3, .ref t1] ++ [.ref t2]) ([W1, W2, W3, (List.replicate k1 W1).flatten] ++ [List.replicate k2 a ++ W1 ++ List.replicate k2 z]) := All2.mono (fun v W g => GAt.keep kt _ _ _ g) _ _ (All2.snoc ⟨t2, _, [lg], [W1], rfl, upd_same, .wrap hk2 ha hz ((lg8.kp hP8 kp9).ex e10)⟩ _ _ (All2.mono (fun v W g => (g.kp hP8 kp9).ex e10) _ _ hA8))
    have hl11 : (upd (upd H9 t2 (.tup [.str "wrap", .int (k2 : Int), .str a, lg, .str z])) l (.lst ([lg, v2, v3, .ref t1] ++ [.ref t2]))) l = some (.lst ([lg, v2, v3, .ref t1] ++ [.ref t2])) := upd_same
    have kp11 : Keep p H (upd (upd H9 t2 (.tup [.str "wrap", .int (k2 : Int), .str a, lg, .str z])) l (.lst ([lg, v2, v3, .ref t1] ++ [.ref t2]))) := ((kp08.trans kp9).trans (Keep.ofEx e10)).new nlH
    have hP11 : Pot p c ns (upd (upd H9 t2 (.tup [.str "wrap", .int (k2 : Int), .str a, lg, .str z])) l (.lst ([lg, v2, v3, .ref t1] ++ [.ref t2]))) := (hP9.ex e10).new lp.symm lc
    generalize upd (upd H9 t2 (.tup [.str "wrap", .int (k2 : Int), .str a, lg, .str z])) l (.lst ([lg, v2, v3, .ref t1] ++ [.ref t2])) = HB at hA11 hl11 kp11 hP11
    generalize hus : [lg, v2, v3, V.ref t1] ++ [V.ref t2] = us at hA11 hl11
    have hu5 : us.length = 5 := by rw [← hus]; rfl
    generalize [W1, W2, W3, (List.replicate k1 W1).flatten] ++ [List.replicate k2 a ++ W1 ++ List.replicate k2 z] = Us at hA11
    refine ⟨8, rfl, by decide, by decide, fun D nD => ?_⟩
    have pD := hP11.ne_new nD
    refine lc_range (lo := 0) (n := 8) (fun i H' => ∃ (ps : List V) (Ws : List (List Str)), ps.length = i ∧ H' D = some (.lst ps) ∧ All2 (GAt os ls qs H' 2) ps Ws ∧ Keep p HB H' ∧ Pot p c ns H') ?_ ?_ ?_
    · exact ⟨[], [], rfl, upd_same, trivial, (Keep.refl p HB).new nD, hP11.new pD.1 pD.2⟩
    · rintro i H' hi ⟨ps, Ws, hl, hD, hA, kp', hP'⟩
      refine ⟨rfl, yesT ⟨_, rfl, _, rfl, p, c, ns, 5, rfl, by decide, by decide, hP', fun v H6 hv kp6 hP6 => ?_⟩⟩
      have hv5 : v < us.length := by omega
      have hx : us[v]? = some us[v] := List.getElem?_eq_getElem hv5
      obtain ⟨W, hW, hg⟩ := All2.at _ _ hA11 v us[v] hx
      have hD6 := kp6 _ _ pD.1.symm hD
      have kt6 : Kt (H6) (upd H6 D (.lst (ps ++ [us[v]]))) := keep_lst hD6
      exact ⟨l, _, _, us[v], rfl, rfl, sq_of (kp6 _ _ lp (kp' _ _ lp hl11)), atI_nat hx, _, hD6, sz_lt (by omega), ps ++ [us[v]], Ws ++ [W], by rw [List.length_append, hl]; rfl, upd_same, All2.snoc (GAt.keep kt6 _ _ _ ((hg.kp hP11 kp').kp hP' kp6)) _ _ (All2.mono (fun v W g => GAt.keep kt6 _ _ _ (g.kp hP' kp6)) _ _ hA), (kp'.trans kp6).new nD, hP6.new pD.1 pD.2⟩
    · rintro H6 ⟨ps, Ws, hl, hD, hA, kp6, hP6⟩
      have hl8' : ps.length = 8 := hl
      refine ⟨D, _, rfl, .inl ⟨sq_of hD, fun u nu => ⟨by show 2 ≤ sizeLine; decide, fun t nt => ?_⟩⟩⟩
      have e3 := (Ex.new (o := .tup ps) nu).trans (Ex.new (o := .tup [.str "row", .ref u]) nt)
      exact q (.ref t) Ws.flatten _ ⟨t, _, ps, Ws, rfl, upd_same, .row (Ex.new nt _ _ upd_same) (All2.mono (fun v W h => h.ex e3) _ _ hA) (by omega)⟩ ((kp11.trans kp6).trans (Keep.ofEx e3)) (hP6.ex e3)
theorem ok_ten {f fpick fshut : Addr} {fd dpick dshut : FuncData} {k : Nat} (F : Fun K "_law_ten_deep" "_law_ten_deep" sLawTenDeep f fd) (Fpick : Fun K "_law_pick" "_law_pick" sPick fpick dpick) (Gpick : FnOk P w K mg base CX0 (k + 1) fpick dpick ["pot", "many"] spPick) (bpick : Binds K dpick ["pot", "many"] []) (gpick : mg "_law_pick" = some (.ref fpick)) (Fshut : Fun K "_law_shut" "_law_shut" sShut fshut dshut) (Gshut : FnOk P w K mg base CX0 (k + 1) fshut dshut ["pot", "sheet", "most"] spShut) (bshut : Binds K dshut ["pot", "sheet", "most"] []) (gshut : mg "_law_shut" = some (.ref fshut)) (mrange : mg "range" = none) (mtuple : mg "tuple" = none) : FnOk P w K mg base CX0 (k + 2) f fd ["pot", "sheet"] (spMade 10) := by
  have nd := scLawTenDeep.nd
  refine F.ok scLawTenDeep (fun vs H Q E h => ?_) (fun cdv A outer s H vs Q E hr h => ?_)
  · obtain ⟨p, c, s, ns, os, ls, qs, rfl, _⟩ := h
    rfl
  · obtain ⟨p, c, s, ns, os, ls, qs, rfl, hP, hS, hs, q⟩ := h
    refine ⟨_, (pss_cons (ps_set (i := 2) nd rfl (.inl rfl) (pe_tup (pa_cons pe_str (pa_cons (pe_callTy call_tuple_F (by rfl) mtuple (by decide +kernel) (pa_cons (pe_call Gshut hr (by rfl) gshut Fshut.kp bshut .nil pass0 (pa_cons (pv 0) (pa_cons (pv 1) (pa_cons pe_int pa_nil)))) pa_nil)) pa_nil))))
      (pss_cons (ps_for PassesOwn.never rfl (pi_range1 (by rfl) mrange (pa_cons pe_int pa_nil)) (pg_name (i := 3) nd rfl (.inl rfl)) (pss_cons (ps_set (i := 4) nd rfl (.inl rfl) (pe_lst (pa_cons (pe_tup (pa_cons pe_str (pa_cons (pe_op op_sub (pe_op op_pow pe_int pe_int) (pv 3)) (pa_cons (pv 2) pa_nil)))) (pa_cons (pe_tup (pa_cons pe_str (pa_cons (pe_op op_sub (pe_op op_pow pe_int pe_int) (pv 3)) (pa_cons (pe_ix ix_tup (pe_ix ix_tup (pv 1) pe_int (fun _ _ => rfl)) pe_int (fun _ _ => rfl)) (pa_cons (pv 2) (pa_cons (pe_ix ix_tup (pe_ix ix_tup (pv 1) pe_int (fun _ _ => rfl)) (pe_un un_neg pe_int) (fun _ _ => rfl)) pa_nil)))))) pa_nil))))
      (pss_one (ps_set (i := 2) nd rfl (.inl rfl) (pe_ix ix_list (pe_op op_cat (pv 4) (pe_lst (pa_cons (pe_tup (pa_cons pe_str (pa_cons (pe_tup (pa_cons (pv 2) (pa_cons (pe_tup (pa_cons pe_str (pa_cons (pe_tupF pa_nil) pa_nil))) pa_nil))) pa_nil))) pa_nil))) (pe_call Gpick hr (by rfl) gpick Fpick.kp bpick .nil pass0 (pa_cons (pv 0) (pa_cons pe_int pa_nil))) (fun _ _ => rfl))))))
      (pss_one (ps_ret (pv 2))))), ?_⟩
    refine ⟨_, rfl, _, rfl, p, c, s, ns, os, ls, qs, 2, rfl, by decide, hP, hS, hs, fun ws l H2 hm hl hb kp2 hP2 nl hl2 => ⟨l, _, rfl, sq_of hl2, fun u uo nu tf => ⟨by show 2 ≤ sizeLine; decide, fun t nt => ?_⟩⟩⟩
    have e3 := (Ex.new (o := .frz uo (.tup (ws.map V.str))) nu).trans (Ex.new (o := .tup [.str "word", .ref u]) nt)
    refine ⟨9, rfl, by decide, by decide, for_range (lo := 0) (n := 9) (fun i σ H' => (∃ (g : V) (W : List Str) (y3 y4 : Option V), σ = [some (.ref p), some (.ref s), some g, y3, y4] ∧ GAt os ls qs H' (i + 1) g W) ∧ Keep p H H' ∧ Pot p c ns H') ⟨⟨.ref t, ws, _, _, rfl, t, _, [], [], rfl, upd_same, .word ((TupF.new tf).ex (Ex.new nt)) (by omega) hm hb⟩, kp2.trans (Keep.ofEx e3), hP2.ex e3⟩ ?_ ?_⟩
    · rintro i σ H4 hi ⟨⟨g, W, y3, y4, rfl, hg⟩, kp4, hP4⟩
      obtain ⟨ao, ap, ac, g0, g1, g2, g3⟩ := hs.keep hP kp4
      obtain ⟨z, hz, hzl⟩ := last_at hS.c0
      obtain ⟨a, ha, hal⟩ : ∃ a ∈ os, atI (os.map V.str) 0 = some (.str a) := by
        cases os with
        | nil => exact absurd rfl hS.o0
        | cons x r => exact ⟨x, List.mem_cons_self .., atI_nat (j := 0) rfl⟩
      have e0 : (0 : Int) + (i : Int) = (i : Int) := Int.zero_add _
      rw [e0]
      have kk : ∀ {σ : L2.St} (H5 : Hp), σ[3]? = some (some (.int (i : Int))) → Ev (tOp (rI0 fun i j => .int (i - j)) (tOp (rI CPow fun i j => .int (i ^ j.toNat)) (tC (.int 10)) (tC (.int 60))) (tVar 3)) σ H5 (.int ((1000000000000000000000000000000000000000000000000000000000000 - i : Nat) : Int)) := fun {σ} H5 h3 => ev_is (ev_op ev_60 (ev_var h3) rv_I0) (congrArg V.int (by omega))
      have hk : 1000000000000000000000000000000000000000000000000000000000000 - i < 2 ^ 200 := Nat.lt_of_le_of_lt (Nat.sub_le _ _) k60
      refine q_asgGs (n := i + 2) (m := 2) (egs_cons (eg_again (eg_var rfl hg) (kk H4 rfl) hk) (egs_cons (eg_wrap ha hz (eg_var rfl hg) (kk H4 rfl) hk (ev_op (ev_op (ev_var rfl) ev_c (rv_ixT (st_of g0) (show atI [V.ref ao, .ref ap, .ref ac] 0 = some (.ref ao) from rfl))) ev_c (rv_ixT (st_of g1) hal)) (ev_op (ev_op (ev_var rfl) ev_c (rv_ixT (st_of g0) (show atI [V.ref ao, .ref ap, .ref ac] 2 = some (.ref ac) from rfl))) (ev_un ev_c ru_neg) (rv_ixT (st_of g3) hzl))) egs_nil)) (by decide) fun vs Ws H5 l5 e5 hA5 hm5 nl5 => ?_
      have e6 := Ex.new (o := .lst vs) nl5
      have e56 := e5.trans e6
      have hl6 : (upd H5 l5 (.lst vs)) l5 = some (.lst vs) := upd_same
      show tAsg _ _ _ [some (.ref p), some (.ref s), some g, some (.int (i : Int)), some (.ref l5)] (upd H5 l5 (.lst vs))
      have hA6 : All2 (GAt os ls qs (upd H5 l5 (.lst vs)) (i + 2)) vs Ws := All2.mono (fun v W g => g.ex e6) _ _ hA5
      generalize upd H5 l5 (.lst vs) = H6 at e6 e56 hl6 hA6
      refine ⟨_, rfl, g_lst (n := i + 2) (m := 1) (egs_cons (eg_row (n := i + 1) (m := 2) (egs_cons (eg_var rfl (hg.ex e56)) (egs_cons (eg_nil.le (by omega)) egs_nil)) (by decide)) egs_nil) (by decide) fun us Us H7 l7 e7 hA7 hm7 nl7 => ?_⟩
      have e8 := Ex.new (o := .lst us) nl7
      refine ⟨l5, l7, _, _, rfl, rfl, e8 _ _ (e7 _ _ hl6), upd_same, sz_of (by omega), fun r nr => ?_⟩
      have e9 := Ex.new (o := .lst (vs ++ us)) nr
      have e49 := (e56.trans e7).trans (e8.trans e9)
      have hA9 : All2 (GAt os ls qs (upd (upd H7 l7 (.lst us)) r (.lst (vs ++ us))) (i + 2)) (vs ++ us) (Ws ++ Us) := All2.app _ _ _ _ (All2.mono (fun v W g => g.ex (e7.trans (e8.trans e9))) _ _ hA6) (All2.mono (fun v W g => g.ex (e8.trans e9)) _ _ hA7)
      have hr9 : (upd (upd H7 l7 (.lst us)) r (.lst (vs ++ us))) r = some (.lst (vs ++ us)) := upd_same
      have hlen : (vs ++ us).length = 3 := by rw [List.length_append]; omega
      have hP9 := hP4.ex e49
      have rp : r ≠ p := ((hP4.ex ((e56.trans e7).trans e8)).ne_new nr).1.symm
      refine ⟨_, rfl, p, c, ns, 3, rfl, by decide, by decide, hP9, fun v H10 hv kp10 hP10 => ?_⟩
      have hv3 : v < (vs ++ us).length := by omega
      have hx : (vs ++ us)[v]? = some (vs ++ us)[v] := List.getElem?_eq_getElem hv3
      obtain ⟨W9, hW9, hg9⟩ := All2.at _ _ hA9 v _ hx
      exact ⟨r, _, _, (vs ++ us)[v], rfl, rfl, sq_of (kp10 _ _ rp hr9), atI_nat hx, ⟨(vs ++ us)[v], W9, _, _, rfl, hg9.kp hP9 kp10⟩, (kp4.trans (Keep.ofEx e49)).trans kp10, hP10⟩
    · rintro σ H4 ⟨⟨g, W, y3, y4, rfl, hg⟩, kp4, hP4⟩
      exact ⟨_, rfl, q g W H4 hg kp4 hP4⟩
end
end Eh
set_option Elab.async false
set_option linter.all false
set_option maxRecDepth 100000
set_option maxHeartbeats 4000000
namespace Gx
open PySem PySem.Spec PyProof.Rows L2 GxR GenW
/-! all(e for x in xs), any(..): e any expression, also one that calls, also one that holds such again -/
/-- the context of a generator expression's own frame -/
abbrev gcx (X : Cx) (A : Around) (s : Shared) (H : Hp) (cenv : Env) (fp : List Addr) (pn : List (Addr × Obj)) : Cx := { X with A := A, s_0 := s, H_0 := H, env := cenv, outer := X.stack, stack := cenv :: X.stack, ex := fp, fn := fun _ => false, pn := pn, xe := fun _ _ => False }
abbrev gEnv (X : Cx) (scope : Scope) (C : Addr) (code : Value) : Env := genEnv scope (cloFrom X.env.cells scope.names []) C code builtinsNs X.env
theorem over_gen {A : Around} {elt target iter : Expr} {ifs : List Expr} {scope : Scope} {pos : Pos} {it acc : Value} {env : Env} : A.over (.compLoop (.GeneratorExp elt [⟨target, iter, ifs, 0⟩] scope pos) 0 it acc env) [] = A.deeper env := by
  first
    | rfl
    | (obtain ⟨hd, d, fr, gs, u⟩ := A; simp [Around.over, Around.deeper, marksOver, frameCount, unitsOf, envsOf, guardsOf, pushEnvs, pushGuards, Code.envs, Code.env?, Code.isFrame, Code.guards, Code.isGuard, Code.weight, Code.frames, Code.isCreation, Code.isCaller, Code.cUnits])
section
variable {X : Cx} {pins : List (Addr × Obj)} {σ : L2.St} {H : Hp} {s : Shared}
theorem gen_start {scope : Scope} {own : List (Str × Nat)} {fp : List Addr} {code : Value} {A : Around} {h5 : Heap} {tk : Nat} {gs : Array GenState} {m : Str → Option Value} {a : Addr} {go : Obj} (I : Inv X pins σ H s) (ok : BlkOk X.N X.env.scope scope own) (hN : X.N.Nodup) (hcell : ∀ y ∈ scope.names, y.2 ≠ .cell)
    (hfp : ∀ b ∈ fp, FpOk X pins H b ∧ b < s.heap.objs.size) (hA : A.handled = none) (hfr : A.frames = some (gEnv X scope s.heap.objs.size code :: X.stack)) (kp : ∀ b o, s.heap.get? b = some o → h5.get? b = some o) (hns : h5.Ns s.heap.objs.size m)
    (hgo : h5.get? a = some go) (ha : s.heap.objs.size < a) (hgd : ∀ v, go.data ≠ .cell v) (hb : AllBare gs) :
    Inv (gcx X A s H (gEnv X scope s.heap.objs.size code) fp [(a, go)]) [] (wipe σ (own.map (·.2))) H { s with heap := h5, gens := gs, toks := tk } := by
  have hfree : ∀ y ∈ scope.names, y.2 = .free → ∃ c, X.env.cells.lookup y.1 = some c := fun y hy e => by
    rcases ok.free y hy e with k | k
    · exact I.ok.has _ (.inl k)
    · exact I.ok.has _ (.inr k)
  generalize hcenv : gEnv X scope s.heap.objs.size code = cenv at hfr
  have hL : cenv.locals = s.heap.objs.size := by rw [← hcenv]; rfl
  have hcl : cenv.cells = cloFrom X.env.cells scope.names [] := by rw [← hcenv]; rfl
  have hsc : cenv.scope = scope := by rw [← hcenv]; rfl
  have hF : cenv.frame = some cenv.locals := by rw [← hcenv]; rfl
  have cm : ∀ {y c}, (y, c) ∈ cloFrom X.env.cells scope.names [] → X.env.cells.lookup y = some c ∧ c < s.heap.objs.size := fun {y c} hm => by
    rcases cloFrom_mem hm with hm | ⟨h1, rfl⟩
    · cases hm
    · obtain ⟨c, hc⟩ := hfree _ h1 rfl
      rw [hc]
      obtain ⟨w, z⟩ := I.cell _ _ hc
      exact ⟨rfl, z.lt⟩
  have mem : ∀ {y c}, cenv.cells.lookup y = some c → X.env.cells.lookup y = some c ∧ c < s.heap.objs.size := fun {y c} e => by
    rw [hcl] at e
    exact cm (PySem.mem_of_lookup e)
  have look : ∀ {y}, scope.names.lookup y = some .free → ∃ c, cenv.cells.lookup y = some c ∧ X.env.cells.lookup y = some c := fun {y} hl => by
    have hy : (y, NameKind.free) ∈ scope.names := PySem.mem_of_lookup hl
    obtain ⟨c', e'⟩ := mem_lookup (cloFrom_has (cells := X.env.cells) (acc := []) hy)
    rw [← hcl] at e'
    exact ⟨c', e', (mem e').1⟩
  have kindf : ∀ {y}, (cenv.kindOf y = some .cell ∨ cenv.kindOf y = some .free) → scope.names.lookup y = some .free := fun {y} hy => by
    unfold Env.kindOf at hy
    rw [hsc] at hy
    rcases hy with hy | hy
    · exact absurd rfl (hcell _ (PySem.mem_of_lookup hy))
    · exact hy
  have okB : (gcx X A s H cenv fp [(a, go)]).Ok := by
    refine ⟨I.ok.mod, by show cenv.scope.kind = _; rw [hsc]; exact ok.kind, by show cenv.globals = _; rw [← hcenv]; exact I.ok.glob, by show cenv.builtins = _; rw [← hcenv]; rfl, by show s.heap.objs.size ≤ cenv.locals; rw [hL]; exact Nat.le_refl _,
      fun y z c e1 e2 => ?_, fun y hy => ?_, fun y c z e => absurd z Bool.false_ne_true, fun _ => hA, hfr, .inr ⟨rfl, hF⟩, fun b hb => ⟨?_, fun y c e z => ?_⟩, I.bs, Nat.le_trans I.ok.bsz I.sz, fun b o e hb => ?_, fun b hb z => ?_, I.stack, I.stkFree⟩
    · exact I.ok.inj y z c (mem (show cenv.cells.lookup y = some c from e1)).1 (mem (show cenv.cells.lookup z = some c from e2)).1
    · obtain ⟨c, h1, _⟩ := look (kindf hy)
      exact ⟨c, h1⟩
    · show b ≠ cenv.locals
      rw [hL]; exact Nat.ne_of_lt (hfp b hb).2
    · exact (hfp b hb).1.2.2.2.2.1 y c (mem (show cenv.cells.lookup y = some c from e)).1 z
    · rcases (hfp b hb).1.2.2.2.1 with z | z
      · exact I.ok.noex b o e z
      · exact absurd (Nat.lt_of_lt_of_le (Heap.lt_size e) (Nat.le_trans I.ok.bsz z)) (Nat.lt_irrefl _)
    · rcases List.mem_cons.mp (I.stkSub b z) with z | z
      · exact (hfp b hb).1.2.1 z
      · exact (hfp b hb).1.2.2.1 z
  refine ⟨okB, rfl, hb, Un.kept kp, ⟨m, ?_, fun i y av e1 e2 e3 => ?_⟩, fun y c e => ?_, ?_, fun y c e => ?_, fun p hp => ?_, I.hok.kept kp, by rw [wipe_length]; exact I.len⟩
  · show Heap.Ns _ cenv.locals _
    rw [hL]
    exact hns
  · obtain ⟨e2, hne⟩ := wipe_some e2
    have hfr : scope.names.lookup y = some .free := by
      have e3 : Vis cenv.scope y := e3
      rw [hsc] at e3
      rcases e3 with e3 | e3 | e3
      · rcases ok.own _ (PySem.mem_of_lookup e3) (.inl rfl) with e' | e'
        · obtain ⟨p, hp, hpy⟩ := List.mem_map.mp e'
          have e4 := ok.ix p hp
          have : p.1 = y := hpy
          rw [this] at e4
          exact absurd (List.mem_map.mpr ⟨p, hp, nodup_ix hN e4 e1⟩) hne
        · exact absurd (List.mem_of_getElem? e1) e'
      · exact absurd rfl (hcell _ (PySem.mem_of_lookup e3))
      · exact e3
    obtain ⟨m', hn, hl⟩ := I.loc
    have hvis : Vis X.env.scope y := (ok.free _ (PySem.mem_of_lookup hfr) rfl).elim (fun k => .inr (.inl k)) (fun k => .inr (.inr k))
    obtain ⟨w, r, q⟩ := hl i y av e1 e2 hvis
    refine ⟨w, r, .inr ⟨.inr (by show cenv.scope.names.lookup y = _; rw [hsc]; exact hfr), ?_⟩⟩
    obtain ⟨c, h1, h2⟩ := look hfr
    rcases q with ⟨k, _⟩ | ⟨_, c', e', z⟩
    · have k : X.env.scope.names.lookup y = some .local := k
      rcases ok.free _ (PySem.mem_of_lookup hfr) rfl with k' | k' <;> rw [show X.env.scope.names.lookup y = _ from k'] at k <;> cases k
    · rw [h2] at e'; cases e'
      exact ⟨c, h1, z.keeps kp⟩
  · obtain ⟨w, z⟩ := I.cell y c (mem (show cenv.cells.lookup y = some c from e)).1
    exact ⟨w, z.keeps kp⟩
  · show H cenv.locals = none
    rw [hL]; exact I.hok.fresh (Nat.le_refl _)
  · exact I.freeC y c (mem (show cenv.cells.lookup y = some c from e)).1
  · have hp' : p = (a, go) := by
      have : p ∈ [(a, go)] ++ [] := hp
      rw [List.append_nil] at this
      exact List.mem_singleton.mp this
    subst hp'
    refine ⟨hgo, I.hok.fresh (Nat.le_of_lt ha), ?_, ?_, hgd⟩
    · show a ≠ cenv.locals
      rw [hL]; exact Nat.ne_of_gt ha
    · show a ∉ frs X.stack
      intro z
      rcases List.mem_cons.mp (I.stkSub a z) with z | z
      · exact absurd (Nat.lt_trans I.lt ha) (by rw [z]; exact Nat.lt_irrefl _)
      · exact I.nofs (Nat.le_of_lt ha) z
end
end Gx
set_option Elab.async false
set_option linter.all false
set_option maxRecDepth 100000
set_option maxHeartbeats 4000000
namespace Gx
open PySem PySem.Spec PyProof.Rows L2 GxR GenW
/-- the state behind s1 for the def around: H' stands there, whatever the consumer does to the generators -/
def Out (X : Cx) (pins : List (Addr × Obj)) (σ : L2.St) (H' : Hp) (s1 : Shared) : Prop := ∀ s' : Shared, s'.os = s1.os → AllBare s'.gens → (∀ b o, s1.heap.get? b = some o → s'.heap.get? b = some o) → Inv X pins σ H' s'
/-- the generator sleeps at a turn -/
def gY (X : Cx) (pins : List (Addr × Obj)) (σ : L2.St) (stop : Bool) (Q : VK) (a : Addr) (g : Nat) : Protocol := fun n s₀ v s1 kap =>
  ∃ b : Bool, v = .bool b ∧ s1.heap.IsGen a g ∧ s1.heap.NoLimit ∧ AllBare s1.gens ∧ (b = stop → ∃ H', Out X pins σ H' s1 ∧ Q (.bl stop) H') ∧ (b ≠ stop → ∀ s' : Shared, s'.heap = s1.heap → s'.os = s1.os → AllBare s'.gens → kap (.send .none) s')
def gF (X : Cx) (pins : List (Addr × Obj)) (σ : L2.St) (stop : Bool) (Q : VK) : Nat → Shared → Shared → Prop := fun _ _ s1 => AllBare s1.gens ∧ ∃ H', Out X pins σ H' s1 ∧ Q (.bl (!stop)) H'
def gR (X : Cx) (pins : List (Addr × Obj)) (σ : L2.St) (stop : Bool) (Q : VK) : GenEnd := fun n s₀ r s₁ => ((r = .ok (.ret .none) ∨ r = .ok .next) ∧ gF X pins σ stop Q n s₀ s₁) ∨ ∃ e, r = .error e ∧ (fun (_ : Value) (_ : Shared) => False) e s₁
section
variable {X : Cx} {pins : List (Addr × Obj)} {σ : L2.St} {H : Hp} {s : Shared}
theorem gen_loop {elt tg iter : Expr} {scope : Scope} {pos : Pos} {it : Addr} {B : Around} {s4 : Shared} {H4 : Hp} {cenv : Env} {fp vs : List Addr} {a : Addr} {g : Nat} {go : Obj} {tn : Nat → Heap → Prop} {J : It} {gt : TG} {te : TE} {stop : Bool} {Q : VK} {W : Nat → Nat → Hp → Prop}
    (hc : X.calm = true) (I4 : Inv X pins σ H4 s4) (f4 : ∀ b ∈ fp, FpOk X pins H4 b ∧ b < s4.heap.objs.size) (T : Turn X.prog X.w X.K tg J fp it tn) (hgen : ∀ h : Heap, h.get? a = some go → h.IsGen a g) (hco : cenv.scope.isCoroutine = false) (hag : s4.heap.objs.size ≤ a)
    (pg : PG (gcx X (B.deeper cenv) s4 H4 cenv fp [(a, go)]) tg gt) (pe : PE (gcx X (B.deeper cenv) s4 H4 cenv fp [(a, go)]) elt te)
    (turn : ∀ i m H, W i m H → (J.stop i H ∧ Q (.bl (!stop)) H) ∨ (J.go i H ∧ ∀ x H', J.yld i H x H' → gt x (wipe σ vs) H' fun σ2 H2 => wipe σ2 vs = wipe σ vs ∧ te σ2 H2 fun y H3 => ∃ b, y = .bl b ∧ if b = stop then Q (.bl stop) H3 else ∃ m', m' < m ∧ W (i + 1) m' H3)) :
    ∀ (n i m : Nat) (s₀ s : Shared) (H' : Hp), m < n → Inv (gcx X (B.deeper cenv) s4 H4 cenv fp [(a, go)]) [] (wipe σ vs) H' s → tn i s.heap → (∀ b ∈ fp, H' b = none) → W i m H' →
      Seg (model X.prog X.w) B (gR X pins σ stop Q) (gY X pins σ stop Q a g) n s₀ (.compLoop (.GeneratorExp elt [⟨tg, iter, [], 0⟩] scope pos) 0 (.ref it) .none cenv)
        ((model X.prog X.w).den (.compLoop (.GeneratorExp elt [⟨tg, iter, [], 0⟩] scope pos) 0 (.ref it) .none cenv)) [] s := by
  have ov : B.over (.compLoop (.GeneratorExp elt [⟨tg, iter, [], 0⟩] scope pos) 0 (.ref it) .none cenv) [] = B.deeper cenv := over_gen
  have out : ∀ {H' : Hp} {σ' : L2.St} {pl : List (Addr × Obj)} {s1 : Shared}, Inv (gcx X (B.deeper cenv) s4 H4 cenv fp [(a, go)]) pl σ' H' s1 → Out X pins σ H' s1 := fun {H' σ' pl s1} J1 s' ho hb hk =>
    I4.call' (ch := fp) (ho.trans J1.os) (J1.base.trans (Un.kept hk)) (J1.hok.kept hk) hb fun b hb => ⟨(f4 b hb).1.2.2.2.1, (f4 b hb).1.2.1, (f4 b hb).1.2.2.2.2.1, (f4 b hb).1.2.2.2.2.2⟩
  have isg : ∀ {H' : Hp} {σ' : L2.St} {pl : List (Addr × Obj)} {s1 : Shared}, Inv (gcx X (B.deeper cenv) s4 H4 cenv fp [(a, go)]) pl σ' H' s1 → s1.heap.IsGen a g := fun {H' σ' pl s1} J1 =>
    hgen _ (J1.pin (a, go) (List.mem_append_left _ (List.mem_singleton.mpr rfl))).1
  have stat : ∀ {σ' : L2.St} {H' : Hp} {s' : Shared}, Inv (gcx X (B.deeper cenv) s4 H4 cenv fp [(a, go)]) [] σ' H' s' → (∀ b ∈ fp, H' b = none) → ∀ b ∈ fp, FpOk (gcx X (B.deeper cenv) s4 H4 cenv fp [(a, go)]) [] H' b := fun {σ' H' s'} I' hn b hb =>
    ⟨hn b hb, (I'.ok.exf b hb).1, I'.ok.exfs b hb, .inl hb, fun x c e => (I'.ok.exf b hb).2 x c e, fun p hp => by
      have hp' : p = (a, go) := by
        have : p ∈ [(a, go)] ++ [] := hp
        rw [List.append_nil] at this
        exact List.mem_singleton.mp this
      rw [hp']
      exact Nat.ne_of_gt (Nat.lt_of_lt_of_le (f4 b hb).2 hag)⟩
  intro n
  induction n with
  | zero => exact fun i m s₀ s H' h => absurd h (Nat.not_lt_zero _)
  | succ n ih =>
    intro i m s₀ s H' hm I st nf w
    show Seg _ B _ _ _ s₀ _ ((compTurn (.GeneratorExp elt [⟨tg, iter, [], 0⟩] scope pos) 0 (.ref it) .none cenv).onRaise (leaving cenv)) [] s
    rw [compTurn_gen, Sem.onRaise_eq_wrap]
    refine seg_bind_wrap (wpAny_standAt ?_)
    rcases turn i m H' w with ⟨stp, qq⟩ | ⟨goes, step⟩
    · have td := T.done (gcx X (B.deeper cenv) s4 H4 cenv fp [(a, go)]) rfl rfl rfl hc i [] s _ H' (fun _ _ => False) I (stat I nf) st stp
      refine seg_bind_wrap ?_
      rw [ov]
      refine thnF td fun r s6 ⟨hr, I6⟩ => ?_
      subst hr
      exact seg_end (.ok .next) (.inl ⟨.inr rfl, I6.bare, H', out I6, qq⟩)
    · have ti := T.item (gcx X (B.deeper cenv) s4 H4 cenv fp [(a, go)]) rfl rfl rfl hc i [] s _ H' (fun _ _ => False) I (stat I nf) st goes
      refine seg_bind_wrap ?_
      rw [ov]
      refine thnF ti fun r s6 ⟨u, hr, h6⟩ => ?_
      subst hr
      refine seg_bind_wrap ?_
      rw [ov]
      refine thnF h6 fun _ s7 ⟨x, H7, I7, r7, y7, st7, n7⟩ => ?_
      have I7' := I7.pinned (stat I7 n7) (T.obj _ _ st7)
      refine seg_bind_wrap ?_
      rw [ov]
      refine thnF (pg.run _ s7 _ H7 x u _ I7' r7 (step x H7 y7)) fun _ s8 ⟨σ8, H8, I8, hw8, q8⟩ => ?_
      refine seg_bind_wrap ?_
      rw [ov]
      refine wpAny_tests_nil ?_
      simp only [if_true]
      have hy : ∀ v, yieldOut cenv v = yieldValue v := fun v => by simp only [yieldOut, hco, Bool.false_eq_true, if_false]
      simp only [hy]
      rw [Sem.bind_eq_wrap', Sem.bind_eq_wrap', Sem.wrap_wrap, Sem.wrap_wrap]
      refine seg_wrap ?_
      rw [ov]
      refine thnF (pe.run _ s8 σ8 H8 _ I8 q8) fun z s10 ⟨yv, H10, I10, r10, b, eb, q10⟩ => ?_
      subst eb
      obtain rfl : z = Value.bool b := r10
      have pin' : ∀ b ∈ fp, ∀ o, s7.heap.get? b = some o → s10.heap.get? b = some o ∧ H10 b = none := fun b hb o e =>
        let z := I10.pin (b, o) (List.mem_append_right _ (List.mem_append_right _ (mem_pinsAt hb e)))
        ⟨z.1, z.2.1⟩
      have hl : (wipe σ vs).length = σ8.length := by rw [← hw8, wipe_length]
      have I11 : Inv (gcx X (B.deeper cenv) s4 H4 cenv fp [(a, go)]) [] (wipe σ vs) H10 s10 := (I10.unpinned (pins := [])).weak hl (fun j v e => by rw [← hw8] at e; exact (wipe_some e).1)
      refine seg_at (seg_yield rfl rfl rfl ⟨b, rfl, isg I11, I11.nolimit, I11.bare, fun hb => ?_, fun hb s' eh eo hbare => ?_⟩)
      · rw [if_pos hb] at q10
        exact ⟨H10, out I11, q10⟩
      · rw [if_neg hb] at q10
        obtain ⟨m', hm', w'⟩ := q10
        have I12 : Inv (gcx X (B.deeper cenv) s4 H4 cenv fp [(a, go)]) [] (wipe σ vs) H10 s' := I11.call' (ch := []) eo (Un.kept fun b o e => by rw [eh]; exact e) (I11.hok.kept fun b o e => by rw [eh]; exact e) hbare (fun b z => absurd z (by simp))
        refine seg_again rfl (ih (i + 1) m' s' s' H10 (by omega) I12 (T.keep _ _ _ st7 fun b hb o e => by rw [eh]; exact (pin' b hb o e).1) (fun b hb => ?_) w')
        obtain ⟨o, e, _⟩ := T.obj _ _ st7 b hb
        exact (pin' b hb o e).2
end
end Gx
set_option Elab.async false
set_option linter.all false
set_option maxRecDepth 100000
set_option maxHeartbeats 4000000
namespace Gx
open PySem PySem.Spec PyProof.Rows L2 GxR GenW
/-- a generator that sleeps, ready for n more turns -/
def GSt (X : Cx) (pins : List (Addr × Obj)) (σ : L2.St) (B : Around) (stop : Bool) (Q : VK) (a : Addr) (g n : Nat) (s : Shared) : Prop :=
  s.heap.IsGen a g ∧ s.heap.NoLimit ∧ AllBare s.gens ∧ ∃ gs, s.gens[g]? = some gs ∧ ∀ s'' : Shared, s''.heap = s.heap → s''.os = s.os → AllBare s''.gens → gs.Goes (model X.prog X.w) B (gR X pins σ stop Q) (gY X pins σ stop Q a g) n (.send .none) s''
section
variable {X : Cx} {pins : List (Addr × Obj)} {σ : L2.St} {A : Around} {R : Result → Shared → Prop} {Q : VK} {a : Addr} {g : Nat}
theorem all_loop (hh : A.handled = none) (hd : A.depth < recursionLimit) (hR : ∀ u s', EP X pins σ Q u s' → R (.ok (.ret u)) s') : ∀ (n : Nat) (s : Shared), GSt X pins σ A.in1.in1 false Q a g n s →
    codeAny (model X.prog X.w) A (.builtin "all.loop" ⟨[.ref a], []⟩) R s := by
  intro n
  induction n with
  | zero =>
    intro s ⟨hg, hl, hba, gs, hgs, hgo⟩
    refine codeAny_builtin F.entry_all_loop ?_
    rw [Around.under_plainId F.plain_all_loop _]
    show wpAny _ A.in1 (pyNext (.ref a) >>= _) _ _ s
    refine wpAny_bind (next_genG (A := A.in1) (F := gF X pins σ false Q) (Er := fun _ _ => False) hh hl hd hg hgs (hgo _ rfl rfl (allBare_setGen hba rfl)) (fun v s₁ gs' hbare hv => ?_) (fun s₁ hp h' hk => ?_) fun e s₁ he => he.elim)
    · obtain ⟨b, rfl, hg1, hl1, hb1, h1, h2⟩ := hv
      cases b with
      | true => exact (h2 (by decide) _ rfl rfl hb1).elim
      | false =>
        obtain ⟨H', o1, q1⟩ := h1 rfl
        refine wpAny_bind (wpAny_holding (wpAny_truthy_bool ?_))
        refine wpAny_bind (wpAny_letGo ?_)
        simp only [Bool.false_eq_true, if_false]
        exact wpAny_bind (wpAny_rule (wpAny_pure (hR _ _ ⟨.bl false, H', o1 _ rfl (allBare_setGen hb1 hbare) fun b o e => e, rfl, q1⟩)))
    · obtain ⟨hb1, H', o1, q1⟩ := hp
      exact wpAny_bind (wpAny_rule (wpAny_pure (hR _ _ ⟨.bl true, H', o1 _ rfl (allBare_setGen hb1 rfl) hk, rfl, q1⟩)))
  | succ n ih =>
    intro s ⟨hg, hl, hba, gs, hgs, hgo⟩
    have hgl : g < s.gens.size := (Array.getElem?_eq_some_iff.mp hgs).1
    refine codeAny_builtin F.entry_all_loop ?_
    rw [Around.under_plainId F.plain_all_loop _]
    show wpAny _ A.in1 (pyNext (.ref a) >>= _) _ _ s
    refine wpAny_bind (wpAny_gsz (n := g + 1) hgl (next_genG (A := A.in1) (F := gF X pins σ false Q) (Er := fun _ _ => False) hh hl hd hg hgs (hgo _ rfl rfl (allBare_setGen hba rfl)) (fun v s₁ gs' hbare hv => ?_) (fun s₁ hp h' hk => ?_) fun e s₁ he => he.elim))
    · intro hsz
      obtain ⟨b, rfl, hg1, hl1, hb1, h1, h2⟩ := hv
      have hsz1 : g < s₁.gens.size := by
        have q : (s₁.setGen g gs').gens.size = s₁.gens.size := setGen_size _ _ _
        have hsz' : g + 1 ≤ (s₁.setGen g gs').gens.size := hsz
        omega
      refine wpAny_bind (wpAny_holding (wpAny_truthy_bool ?_))
      refine wpAny_bind (wpAny_letGo ?_)
      cases b with
      | true =>
        simp only [if_true]
        refine wpAny_pure ⟨plainId_quiet F.plain_all_loop _, ih (s₁.setGen g gs') ⟨hg1, hl1, allBare_setGen hb1 hbare, gs', setGen_at hsz1, fun s'' eh eo hb => ?_⟩⟩
        exact h2 (by decide) s'' eh eo hb
      | false =>
        obtain ⟨H', o1, q1⟩ := h1 rfl
        simp only [Bool.false_eq_true, if_false]
        exact wpAny_bind (wpAny_rule (wpAny_pure (hR _ _ ⟨.bl false, H', o1 _ rfl (allBare_setGen hb1 hbare) fun b o e => e, rfl, q1⟩)))
    · intro hsz
      obtain ⟨hb1, H', o1, q1⟩ := hp
      exact wpAny_bind (wpAny_rule (wpAny_pure (hR _ _ ⟨.bl true, H', o1 _ rfl (allBare_setGen hb1 rfl) hk, rfl, q1⟩)))
theorem any_loop (hh : A.handled = none) (hd : A.depth < recursionLimit) (hR : ∀ u s', EP X pins σ Q u s' → R (.ok (.ret u)) s') : ∀ (n : Nat) (s : Shared), GSt X pins σ A.in1.in1 true Q a g n s →
    codeAny (model X.prog X.w) A (.builtin "any.loop" ⟨[.ref a], []⟩) R s := by
  intro n
  induction n with
  | zero =>
    intro s ⟨hg, hl, hba, gs, hgs, hgo⟩
    refine codeAny_builtin F.entry_any_loop ?_
    rw [Around.under_plainId F.plain_any_loop _]
    show wpAny _ A.in1 (pyNext (.ref a) >>= _) _ _ s
    refine wpAny_bind (next_genG (A := A.in1) (F := gF X pins σ true Q) (Er := fun _ _ => False) hh hl hd hg hgs (hgo _ rfl rfl (allBare_setGen hba rfl)) (fun v s₁ gs' hbare hv => ?_) (fun s₁ hp h' hk => ?_) fun e s₁ he => he.elim)
    · obtain ⟨b, rfl, hg1, hl1, hb1, h1, h2⟩ := hv
      cases b with
      | false => exact (h2 (by decide) _ rfl rfl hb1).elim
      | true =>
        obtain ⟨H', o1, q1⟩ := h1 rfl
        refine wpAny_bind (wpAny_holding (wpAny_truthy_bool ?_))
        refine wpAny_bind (wpAny_letGo ?_)
        simp only [if_true]
        exact wpAny_bind (wpAny_rule (wpAny_pure (hR _ _ ⟨.bl true, H', o1 _ rfl (allBare_setGen hb1 hbare) fun b o e => e, rfl, q1⟩)))
    · obtain ⟨hb1, H', o1, q1⟩ := hp
      exact wpAny_bind (wpAny_rule (wpAny_pure (hR _ _ ⟨.bl false, H', o1 _ rfl (allBare_setGen hb1 rfl) hk, rfl, q1⟩)))
  | succ n ih =>
    intro s ⟨hg, hl, hba, gs, hgs, hgo⟩
    have hgl : g < s.gens.size := (Array.getElem?_eq_some_iff.mp hgs).1
    refine codeAny_builtin F.entry_any_loop ?_
    rw [Around.under_plainId F.plain_any_loop _]
    show wpAny _ A.in1 (pyNext (.ref a) >>= _) _ _ s
    refine wpAny_bind (wpAny_gsz (n := g + 1) hgl (next_genG (A := A.in1) (F := gF X pins σ true Q) (Er := fun _ _ => False) hh hl hd hg hgs (hgo _ rfl rfl (allBare_setGen hba rfl)) (fun v s₁ gs' hbare hv => ?_) (fun s₁ hp h' hk => ?_) fun e s₁ he => he.elim))
    · intro hsz
      obtain ⟨b, rfl, hg1, hl1, hb1, h1, h2⟩ := hv
      have hsz1 : g < s₁.gens.size := by
        have q : (s₁.setGen g gs').gens.size = s₁.gens.size := setGen_size _ _ _
        have hsz' : g + 1 ≤ (s₁.setGen g gs').gens.size := hsz
        omega
      refine wpAny_bind (wpAny_holding (wpAny_truthy_bool ?_))
      refine wpAny_bind (wpAny_letGo ?_)
      cases b with
      | false =>
        simp only [Bool.false_eq_true, if_false]
        refine wpAny_pure ⟨plainId_quiet F.plain_any_loop _, ih (s₁.setGen g gs') ⟨hg1, hl1, allBare_setGen hb1 hbare, gs', setGen_at hsz1, fun s'' eh eo hb => ?_⟩⟩
        exact h2 (by decide) s'' eh eo hb
      | true =>
        obtain ⟨H', o1, q1⟩ := h1 rfl
        simp only [if_true]
        exact wpAny_bind (wpAny_rule (wpAny_pure (hR _ _ ⟨.bl true, H', o1 _ rfl (allBare_setGen hb1 hbare) fun b o e => e, rfl, q1⟩)))
    · intro hsz
      obtain ⟨hb1, H', o1, q1⟩ := hp
      exact wpAny_bind (wpAny_rule (wpAny_pure (hR _ _ ⟨.bl false, H', o1 _ rfl (allBare_setGen hb1 rfl) hk, rfl, q1⟩)))
end
end Gx
set_option Elab.async false
set_option linter.all false
set_option maxRecDepth 100000
set_option maxHeartbeats 4000000
namespace Gx
open PySem PySem.Spec PyProof.Rows L2 GxR GenW
/-- what a generator expression's reading asks, its iterator at hand: P the running def's table -/
def gTurns (stop : Bool) (P : Addr) (gt : TG) (te : TE) (vs : List Nat) (σ : L2.St) (Q : VK) (J : It) (H1 : Hp) : Prop := TabG H1 P ∧ ∀ H2, Tabbed P H1 H2 → ∃ W : Nat → Nat → Hp → Prop, (∃ m, W 0 m H2) ∧
  ∀ i m H, W i m H → (J.stop i H ∧ Q (.bl (!stop)) H) ∨ (J.go i H ∧ ∀ x H', J.yld i H x H' → gt x (wipe σ vs) H' fun σ2 H2 => wipe σ2 vs = wipe σ vs ∧ te σ2 H2 fun y H3 => ∃ b, y = .bl b ∧ if b = stop then Q (.bl stop) H3 else ∃ m', m' < m ∧ W (i + 1) m' H3)
section
variable {X : Cx} {pins : List (Addr × Obj)} {σ : L2.St} {H : Hp} {s : Shared}
theorem gen_make {c P : Addr} {elt tg iter : Expr} {scope : Scope} {own : List (Str × Nat)} {gpos : Pos} {wi : TI} {gt : TG} {te : TE} {stop : Bool} {Q : VK} {Q' : Value → Shared → Prop} {k : Nat}
    (hc : X.calm = true) (hN : X.N.Nodup) (hr : Room (k + 1) X.A) (TB : TabB X.base X.mg c P) (hcode : X.env.code = .ref c) (ok : BlkOk X.N X.env.scope scope own) (hcell : ∀ y ∈ scope.names, y.2 ≠ .cell) (hdot : scope.names.lookup (".0" : Str) = some NameKind.local) (hco : scope.isCoroutine = false)
    (hi : PI X tg iter wi) (hg : ∀ A s H C code fp pn, PG (gcx X A s H (gEnv X scope C code) fp pn) tg gt) (he : ∀ A s H C code fp pn, Room k A → PE (gcx X A s H (gEnv X scope C code) fp pn) elt te)
    (hs : ∀ v, genFold iter X.env v = pure v) (I : Inv X pins σ H s) (h : wi σ H (gTurns stop P gt te (own.map (·.2)) σ Q))
    (hQ : ∀ a g n s5, GSt X pins σ X.A.in1.in1 stop Q a g n s5 → Q' (.ref a) s5) :
    wpAny (model X.prog X.w) X.A (eval (.GeneratorExp elt [⟨tg, iter, [], 0⟩] scope gpos) X.env) Q' X.xe s := by
  have hfree : ∀ y ∈ scope.names, y.2 = .free → ∃ c, X.env.cells.lookup y.1 = some c := fun y hy e => by
    rcases ok.free y hy e with k | k
    · exact I.ok.has _ (.inl k)
    · exact I.ok.has _ (.inr k)
  refine wpAny_GeneratorExp_make hco (closure_ok hfree) hcell hdot ok.kind hr.depth (thn (hi.run pins s σ H _ I h) fun xv s1 hx => thn hx fun itv s2 h2 => ?_) hs
  obtain ⟨it, fp, tn, J, H2, e, I2, T, st2, f2, ⟨ps, hP, htr⟩, q⟩ := h2
  subst e
  have hPs : s2.heap.get? P = some { cls := .none, data := .fields ps } := I2.hok P _ hP
  have hPlt : P < s2.heap.objs.size := Heap.lt_size hPs
  have cd : PySem.W.CodeHd s2.heap c P := TB.code.keeps fun b u e => I2.bk b u e
  have nP : ∀ b ∈ fp, b ≠ P := fun b hb z => by
    have := (f2 b hb).1
    rw [z, hP] at this
    cases this
  have sz : ∀ b ∈ fp, b < s2.heap.objs.size := fun b hb => by
    obtain ⟨o, e, _⟩ := T.obj _ _ st2 b hb
    exact Heap.lt_size e
  have cont : ∀ (code : Value) (h3 : Heap) (tk : Nat) (ps' : Array Value), Heap.ExtBut P s2.heap h3 → s2.heap.objs.size ≤ h3.objs.size → h3.get? P = some { cls := .none, data := .fields ps' } → (∃ more, ps' = ps ++ more) → TriplesOk ps'.toList →
      wpAny (model X.prog X.w) X.A (builtinsFor X.env.globals X.env.builtins) (fun bi s₄ => ∀ h', h'.Ns s₄.heap.objs.size (fun y => if y = ".0" then some (.ref it) else none) → Heap.SameBut s₄.heap.objs.size (s₄.heap.push { cls := .type "frame", data := .dict #[] }) h' →
          Q' (.ref h'.objs.size) { s₄ with
            gens := s₄.gens.push (.fresh (.compStart (.GeneratorExp elt [⟨tg, iter, [], 0⟩] scope gpos) 0 (.ref it) .none (genEnv scope (cloFrom X.env.cells scope.names []) s₄.heap.objs.size code bi X.env))),
            toks := s₄.toks + 1 + 1 + 1,
            heap := h'.push { cls := .type "generator", data := .fields #[.int s₄.gens.size 0, .str "<genexpr>" (s₄.toks + 1), .str (X.env.qual ++ "<genexpr>") (s₄.toks + 1 + 1)] } }) X.xe { s2 with heap := h3, toks := tk } := by
    rintro code h3 tk ps' hx hsz hP3 ⟨more, rfl⟩ ht3
    obtain ⟨bm, ob, e1, e2, e3, e4, e5, e6, e7, e8⟩ := TB.bm
    have keep3 : ∀ b u, b ≠ P → s2.heap.get? b = some u → h3.get? b = some u := fun b u hb e => hx b u hb e
    have J4 : Inv X pins σ (upd H2 P (.tbl (ps ++ more))) { s2 with heap := h3, toks := tk } := inv_tab (g' := s2.gens) (d' := s2.drawn) I2 hP keep3 hP3 I2.bare
    refine wpAny_builtinsFor (m := X.mg) (by rw [I2.ok.glob]; exact (I2.mod.glob.keeps I2.bk).extBut hx TB.gP) e1 e2 (keep3 _ _ e4 (I2.bk _ _ e5)) e6 e7 e8 ?_
    intro h' hn' hs'
    have hsz' : h'.objs.size = h3.objs.size + 1 := by rw [hs'.1, Heap.size_push]
    have keep' : ∀ b o, h3.get? b = some o → h'.get? b = some o := fun b o e => hs'.extBut b o (Nat.ne_of_lt (Heap.lt_size e)) (Heap.get?_push_of_some _ e)
    generalize hgo : ({ cls := .type "generator", data := .fields #[.int s2.gens.size 0, .str "<genexpr>" (tk + 1), .str (X.env.qual ++ "<genexpr>") (tk + 1 + 1)] } : Obj) = go
    have keep5 : ∀ b o, h3.get? b = some o → (h'.push go).get? b = some o := fun b o e => Heap.get?_push_of_some _ (keep' b o e)
    have hat : (h'.push go).get? h'.objs.size = some go := Heap.get?_push_size _ (by rw [← hgo]; rfl)
    have hgen : ∀ hh : Heap, hh.get? h'.objs.size = some go → hh.IsGen h'.objs.size s2.gens.size := fun hh e => ⟨go, _, _, e, by rw [← hgo], by rw [← hgo], by rw [← hgo]⟩
    have hTab : Tabbed P H2 (upd H2 P (.tbl (ps ++ more))) := ⟨⟨ps ++ more, upd_same, ht3⟩, fun b hb => upd_ne hb⟩
    obtain ⟨W, ⟨m0, w0⟩, turn⟩ := q _ hTab
    have f4 : ∀ b ∈ fp, FpOk X pins (upd H2 P (.tbl (ps ++ more))) b ∧ b < h3.objs.size := fun b hb => ⟨⟨by rw [upd_ne (nP b hb)]; exact (f2 b hb).1, (f2 b hb).2⟩, Nat.lt_of_lt_of_le (sz b hb) hsz⟩
    have st5 : tn 0 (h'.push go) := T.keep _ _ _ st2 fun b hb o e => keep5 b o (keep3 b o (nP b hb) e)
    refine hQ h'.objs.size s2.gens.size (m0 + 1) _ ⟨hgen _ hat, J4.nolimit.keeps keep5, I2.bare.push rfl, _, Array.getElem?_push_size .., fun s'' eh eo hb => ⟨rfl, ?_⟩⟩
    have hB : X.A.in1.in1.handled = none := hr.hd
    have J5 := gen_start (code := code) (A := X.A.in1.in1.deeper (gEnv X scope h3.objs.size code)) (h5 := h'.push go) (tk := tk + 1 + 1 + 1) (gs := s2.gens.push (.fresh (.compStart (.GeneratorExp elt [⟨tg, iter, [], 0⟩] scope gpos) 0 (.ref it) .none (gEnv X scope h3.objs.size code)))) (a := h'.objs.size) (go := go) J4 ok hN hcell f4 hB
      (Around.frames_deeper (show X.A.in1.in1.frames = some X.stack from I2.ok.frames)) keep5 (hn'.push _) hat (show h3.objs.size < h'.objs.size by omega) (fun v z => by rw [← hgo] at z; cases z) (I2.bare.push rfl)
    have J6 : Inv _ [] _ _ s'' := J5.call' (ch := []) eo (Un.kept fun b o e => by rw [eh]; exact e) (J5.hok.kept fun b o e => by rw [eh]; exact e) hb (fun b z => absurd z (by simp))
    have hrB : Room k (X.A.in1.in1.deeper (gEnv X scope h3.objs.size code)) := ⟨hr.hd, by have := hr.dp; show X.A.depth + 1 + 3 * k + 5 < _; omega, by have := hr.un; show X.A.units + 1 + 1 + 3 + 16 * k + 200 < _; omega⟩
    have loop := gen_loop (iter := iter) (scope := scope) (pos := gpos) (B := X.A.in1.in1) (stop := stop) (Q := Q) (vs := own.map (·.2)) hc J4 f4 T hgen (show (gEnv X scope h3.objs.size code).scope.isCoroutine = false from hco) (show h3.objs.size ≤ h'.objs.size by omega) (hg _ _ _ _ _ _ _) (he _ _ _ _ _ _ _ hrB) turn (m0 + 1) 0 m0 s'' s'' _ (Nat.lt_succ_self _) J6 (by rw [eh]; exact st5) (fun b hb => (f4 b hb).1.1) w0
    show Seg _ X.A.in1.in1 _ _ _ s'' _ ((compStart (.GeneratorExp elt [⟨tg, iter, [], 0⟩] scope gpos) 0 (.ref it) .none (gEnv X scope h3.objs.size code)).onRaise (leaving (gEnv X scope h3.objs.size code))) [] s''
    unfold compStart
    rw [Sem.onRaise_eq_wrap]
    show Seg _ X.A.in1.in1 _ _ _ s'' _ ((ask >>= _).wrap _ _ _ _) [] s''
    refine seg_bind_wrap (wpAny_askSetting ?_)
    have stS : tn 0 s''.heap := by rw [eh]; exact st5
    split
    · exact seg_again rfl loop
    · first
        | exact seg_bind_wrap (wpAny_rule (seg_bind_wrap (wpAny_standAt (seg_bind_wrap (T.self _ 0 s'' _ _ stS (seg_again rfl loop))))))
        | (refine seg_bind_wrap (wpAny_rule ?_); show Seg _ X.A.in1.in1 _ _ _ s'' _ ((standAt iter.pos >>= _).wrap _ _ _ _) [] s''; exact seg_bind_wrap (wpAny_standAt (seg_bind_wrap (T.self _ 0 s'' _ _ stS (seg_again rfl loop)))))
  refine ⟨I2.nolimit, ?_⟩
  cases hf : codeAmong gpos ps.toList with
  | none =>
    refine wpAny_genexprCodeX hcode (cd.code hPs htr) (cd.tab hPs) hf fun c' h' tk hx hge hlt hco' _ htab' _ => ?_
    obtain ⟨o1, vs, f1, tf, fl, tg, inF, tx, tt, op, _, _, _, _, _, _, _, _, _, htr', _⟩ := hco'
    exact cont _ h' tk _ hx (Nat.le_trans hge (Nat.le_of_lt hlt)) htab'.2 ⟨_, rfl⟩ htr'
  | some cv =>
    refine wpAny_genexprCode_hit hcode (cd.code hPs htr) hf ?_
    exact cont cv s2.heap s2.toks ps (Heap.ExtBut.refl _ _) (Nat.le_refl _) hPs ⟨#[], by simp⟩ htr
end
end Gx
set_option Elab.async false
set_option linter.all false
set_option maxRecDepth 100000
set_option maxHeartbeats 4000000
namespace Gx
open PySem PySem.Spec PyProof.Rows L2 GxR GenW
/-- all(e for x in xs): the reading -/
def tGx (stop : Bool) (P : Addr) (wi : TI) (gt : TG) (te : TE) (vs : List Nat) : TE := fun σ H Q => wi σ H (gTurns stop P gt te vs σ Q)
section
variable {X : Cx}
theorem pe_allG {c P : Addr} {elt tg iter : Expr} {scope : Scope} {own : List (Str × Nat)} {gpos p pos : Pos} {wi : TI} {gt : TG} {te : TE} {k : Nat}
    (hc : X.calm = true) (hN : X.N.Nodup) (hr : Room (k + 1) X.A) (hg0 : Gl X "all") (hm : X.mg "all" = none) (TB : TabB X.base X.mg c P) (hcode : X.env.code = .ref c) (hi : PI X tg iter wi) (ok : BlkOk X.N X.env.scope scope own) (hcell : ∀ y ∈ scope.names, y.2 ≠ .cell)
    (hdot : scope.names.lookup (".0" : Str) = some NameKind.local) (hg : ∀ A s H C code fp pn, PG (gcx X A s H (gEnv X scope C code) fp pn) tg gt) (he : ∀ A s H C code fp pn, Room k A → PE (gcx X A s H (gEnv X scope C code) fp pn) elt te)
    (hs : ∀ v, genFold iter X.env v = pure v := by intro _; rfl) (hco : scope.isCoroutine = false := by rfl)
    (he0 : starEach [.GeneratorExp elt [⟨tg, iter, [], 0⟩] scope gpos] X.env = (false, eval (.GeneratorExp elt [⟨tg, iter, [], 0⟩] scope gpos) X.env) :: starEach [] X.env := by rfl) :
    PE X (.Call (.Name "all" p) [.GeneratorExp elt [⟨tg, iter, [], 0⟩] scope gpos] [] pos) (tGx false P wi gt te (own.map (·.2))) := by
  refine ⟨fun pins s σ H Q I h => ?_⟩
  refine wpAny_Call_Name_kw (ld_blt I hg0 hm (show bootBuiltins "all" = some (.builtin "all") by decide +kernel) ?_)
  refine PyProof.Rows.callWith_builtin1 ?_ he0 (by rfl)
  rw [he0]
  show wpAny _ _ (spliced ((false, eval (.GeneratorExp elt [⟨tg, iter, [], 0⟩] scope gpos) X.env) :: backTo pos (starEach [] X.env))) _ _ s
  refine Calls.spliced_cons (gen_make (stop := false) (Q := Q) hc hN hr TB hcode ok hcell hdot hco hi hg he hs I h fun a g n s5 hG => ?_)
  refine Calls.spliced_nil ?_
  refine call_function_tree F.kind_all F.plain_all F.entry_all (F.args_all1 _) ?_
  unfold Builtin.«all»
  refine wpAny_bind (m := oneArg "all" _) (wpAny_pure ?_)
  obtain ⟨hg1, hl1, hb1, hrest⟩ := hG
  refine wpAny_bind ?_
  refine wpAny_pyIter_gen hg1 ?_
  exact wpAny_pure ⟨plainId_quiet F.plain_all_loop _, all_loop hr.hd hr.depth (fun u s' z => z) n s5 ⟨hg1, hl1, hb1, hrest⟩⟩
theorem pe_anyG {c P : Addr} {elt tg iter : Expr} {scope : Scope} {own : List (Str × Nat)} {gpos p pos : Pos} {wi : TI} {gt : TG} {te : TE} {k : Nat}
    (hc : X.calm = true) (hN : X.N.Nodup) (hr : Room (k + 1) X.A) (hg0 : Gl X "any") (hm : X.mg "any" = none) (TB : TabB X.base X.mg c P) (hcode : X.env.code = .ref c) (hi : PI X tg iter wi) (ok : BlkOk X.N X.env.scope scope own) (hcell : ∀ y ∈ scope.names, y.2 ≠ .cell)
    (hdot : scope.names.lookup (".0" : Str) = some NameKind.local) (hg : ∀ A s H C code fp pn, PG (gcx X A s H (gEnv X scope C code) fp pn) tg gt) (he : ∀ A s H C code fp pn, Room k A → PE (gcx X A s H (gEnv X scope C code) fp pn) elt te)
    (hs : ∀ v, genFold iter X.env v = pure v := by intro _; rfl) (hco : scope.isCoroutine = false := by rfl)
    (he0 : starEach [.GeneratorExp elt [⟨tg, iter, [], 0⟩] scope gpos] X.env = (false, eval (.GeneratorExp elt [⟨tg, iter, [], 0⟩] scope gpos) X.env) :: starEach [] X.env := by rfl) :
    PE X (.Call (.Name "any" p) [.GeneratorExp elt [⟨tg, iter, [], 0⟩] scope gpos] [] pos) (tGx true P wi gt te (own.map (·.2))) := by
  refine ⟨fun pins s σ H Q I h => ?_⟩
  refine wpAny_Call_Name_kw (ld_blt I hg0 hm (show bootBuiltins "any" = some (.builtin "any") by decide +kernel) ?_)
  refine PyProof.Rows.callWith_builtin1 ?_ he0 (by rfl)
  rw [he0]
  show wpAny _ _ (spliced ((false, eval (.GeneratorExp elt [⟨tg, iter, [], 0⟩] scope gpos) X.env) :: backTo pos (starEach [] X.env))) _ _ s
  refine Calls.spliced_cons (gen_make (stop := true) (Q := Q) hc hN hr TB hcode ok hcell hdot hco hi hg he hs I h fun a g n s5 hG => ?_)
  refine Calls.spliced_nil ?_
  refine call_function_tree F.kind_any F.plain_any F.entry_any (F.args_any1 _) ?_
  unfold Builtin.«any»
  refine wpAny_bind (m := oneArg "any" _) (wpAny_pure ?_)
  obtain ⟨hg1, hl1, hb1, hrest⟩ := hG
  refine wpAny_bind ?_
  refine wpAny_pyIter_gen hg1 ?_
  exact wpAny_pure ⟨plainId_quiet F.plain_any_loop _, any_loop hr.hd hr.depth (fun u s' z => z) n s5 ⟨hg1, hl1, hb1, hrest⟩⟩
end
end Gx
set_option Elab.async false
set_option linter.all false
set_option maxRecDepth 100000
set_option maxHeartbeats 4000000
namespace Gx
open PySem PySem.Spec PyProof.Rows L2 GxR Evl
/-! a def whose code object is known -/
structure FunC (K : PySem.W.Frag) (x qual : Str) (st : Stmt) (f : Addr) (fd : FuncData) (c : Addr) : Prop where
  fc : ∃ (oc : Value) (od : Option Addr) (kV doc pm : Value) (an : Option Addr) (ct : Value) (osl : Array (Option Value)), fd = PySem.W.fnOf x qual (defArgs st) (defBody st) (defScope st) .none kV doc pm an (.ref c) ct ∧ K.lookup f = some ⟨oc, od, .func fd, osl⟩ ∧ PySem.W.codeIn K (.ref c) qual = true
  kp : PySem.W.keepIn K (.ref f) = true
section
variable {P : Program} {w : World} {K : PySem.W.Frag} {mg : Str → Option Value} {base : Heap}
theorem FunC.okC {x qual : Str} {st : Stmt} {f c : Addr} {fd : FuncData} {N ps : List Str} {k : Nat} {sp : Sp} (F : FunC K x qual st f fd c) (S : FnScope N ps (defScope st)) (len : ∀ vs H Q E, sp vs H Q E → vs.length = ps.length)
    (body : ∀ (A : Around) (outer : List Env) (s : Shared) (H : Hp) (vs : List V) (Q : VK) (E : XK), Room k (A.deeper (envOfC qual (defScope st) s.heap.objs.size f (.ref c))) → sp vs H Q E →
      ∃ t, PSs (cxOf CX0 P w K mg base N qual (defScope st) f (.ref c) A outer s H E).nox (defBody st) t ∧ t { nx := fun _ H' => Q .non H', rt := Q } (start N vs) H) : FnOk P w K mg base CX0 (k + 1) f fd ps sp := by
  obtain ⟨_, _, _, _, _, _, _, _, rfl, h1, h2⟩ := F.fc
  refine fn_of h1 h2 S len fun A outer s H vs Q E hr h => ?_
  obtain ⟨t, a, b⟩ := body A outer s H vs Q E hr h
  exact ⟨t, a.nox, b⟩
theorem FunC.toFun {x qual : Str} {st : Stmt} {f c : Addr} {fd : FuncData} (F : FunC K x qual st f fd c) : Fun K x qual st f fd := by
  obtain ⟨oc, od, kV, doc, pm, an, ct, osl, e, h1, h2⟩ := F.fc
  exact ⟨⟨oc, od, kV, doc, pm, an, _, ct, osl, e, h1, h2⟩, F.kp⟩
end
/-! heaps in which tables grow -/
/-- all that was tracked is as it was, but tables of code objects may have grown -/
structure ET (H H' : Hp) : Prop where
  obj : ∀ b o, H b = some o → (∃ ps, o = .tbl ps) ∨ H' b = some o
  tab : ∀ P, TabG H P → TabG H' P
theorem ET.refl (H : Hp) : ET H H := ⟨fun _ _ h => .inr h, fun _ h => h⟩
theorem ET.trans {H H1 H2 : Hp} (a : ET H H1) (b : ET H1 H2) : ET H H2 := ⟨fun c o h => (a.obj c o h).elim .inl fun z => b.obj c o z, fun P h => b.tab P (a.tab P h)⟩
theorem ET.of {H H' : Hp} (e : Ex H H') : ET H H' := ⟨fun b o h => .inr (e b o h), fun P ⟨ps, h, t⟩ => ⟨ps, e _ _ h, t⟩⟩
theorem ET.grown {P : Addr} {H H' : Hp} (h : TabG H P) (t : Tabbed P H H') : ET H H' := by
  refine ⟨fun b o e => ?_, fun R hR => ?_⟩
  · by_cases hb : b = P
    · obtain ⟨ps, hp, _⟩ := h
      rw [hb, hp] at e
      exact .inl ⟨ps, (Option.some.inj e).symm⟩
    · exact .inr (by rw [t.2 b hb]; exact e)
  · by_cases hb : R = P
    · rw [hb]
      exact t.1
    · obtain ⟨ps, hp, z⟩ := hR
      exact ⟨ps, by rw [t.2 R hb]; exact hp, z⟩
theorem ET.lst {H H' : Hp} (e : ET H H') {a : Addr} {xs : List V} (h : H a = some (.lst xs)) : H' a = some (.lst xs) := (e.obj _ _ h).elim (fun ⟨_, z⟩ => by cases z) id
theorem ET.tup {H H' : Hp} (e : ET H H') {a : Addr} {xs : List V} (h : H a = some (.tup xs)) : H' a = some (.tup xs) := (e.obj _ _ h).elim (fun ⟨_, z⟩ => by cases z) id
/-! the readings of all(..), any(..) by the walked thing -/
section
variable {K : PySem.W.Frag} {P a : Addr} {gt : TG} {te : TE} {vs : List Nat} {σ : L2.St} {Q : VK} {H1 : Hp} {stop : Bool}
theorem gx_by {J : It} {n : Nat} (hT : TabG H1 P) (Pv : Nat → Hp → Prop) (h0 : ∀ H2, Tabbed P H1 H2 → Pv 0 H2) (hstop : ∀ H, Pv n H → J.stop n H) (hgo : ∀ i H, i < n → Pv i H → J.go i H)
    (hs : ∀ i x H H' (N : Hp → Prop), (∀ H3, Pv (i + 1) H3 → N H3) → i < n → Pv i H → J.yld i H x H' → gt x (wipe σ vs) H' fun σ2 H2 => wipe σ2 vs = wipe σ vs ∧ te σ2 H2 fun y H3 => ∃ b, y = .bl b ∧ if b = stop then Q (.bl stop) H3 else N H3)
    (hd : ∀ H, Pv n H → Q (.bl (!stop)) H) : gTurns stop P gt te vs σ Q J H1 := by
  refine ⟨hT, fun H2 t => ⟨fun i m H => i + m = n ∧ Pv i H, ⟨n, Nat.zero_add _, h0 H2 t⟩, ?_⟩⟩
  rintro i m H ⟨e, p⟩
  cases m with
  | zero =>
    have e' : i = n := by omega
    subst e'
    exact .inl ⟨hstop H p, hd H p⟩
  | succ m => exact .inr ⟨hgo i H (by omega) p, fun x H' y => hs i x H H' _ (fun H3 q => ⟨m, Nat.lt_succ_self _, by omega, q⟩) (by omega) p y⟩
theorem gx_tup {xs : List V} (hT : TabG H1 P) (Pv : Nat → Hp → Prop) (h0 : ∀ H2, Tabbed P H1 H2 → Pv 0 H2) (hl : ∀ i H, Pv i H → SqT K H a xs)
    (hs : ∀ i x H (N : Hp → Prop), (∀ H3, Pv (i + 1) H3 → N H3) → xs[i]? = some x → Pv i H → gt x (wipe σ vs) H fun σ2 H2 => wipe σ2 vs = wipe σ vs ∧ te σ2 H2 fun y H3 => ∃ b, y = .bl b ∧ if b = stop then Q (.bl stop) H3 else N H3)
    (hd : ∀ H, Pv xs.length H → Q (.bl (!stop)) H) : gTurns stop P gt te vs σ Q (Itt K a) H1 :=
  gx_by hT Pv h0 (fun H p => ⟨xs, hl _ H p, Nat.le_refl _⟩) (fun i H hi p => ⟨xs, xs[i], hl _ H p, List.getElem?_eq_getElem hi⟩) (fun i x H H' N hN hi p y => by
    obtain ⟨rfl, f⟩ := y
    exact hs i x _ N hN (f xs (hl _ _ p)) p) hd
theorem gx_list {xs : List V} (hT : TabG H1 P) (Pv : Nat → Hp → Prop) (h0 : ∀ H2, Tabbed P H1 H2 → Pv 0 H2) (hl : ∀ i H, Pv i H → SqL K H a xs)
    (hs : ∀ i x H (N : Hp → Prop), (∀ H3, Pv (i + 1) H3 → N H3) → xs[i]? = some x → Pv i H → gt x (wipe σ vs) H fun σ2 H2 => wipe σ2 vs = wipe σ vs ∧ te σ2 H2 fun y H3 => ∃ b, y = .bl b ∧ if b = stop then Q (.bl stop) H3 else N H3)
    (hd : ∀ H, Pv xs.length H → Q (.bl (!stop)) H) : gTurns stop P gt te vs σ Q (Itl K a) H1 :=
  gx_by hT Pv h0 (fun H p => ⟨xs, hl _ H p, Nat.le_refl _⟩) (fun i H hi p => ⟨xs, xs[i], hl _ H p, List.getElem?_eq_getElem hi⟩) (fun i x H H' N hN hi p y => by
    obtain ⟨rfl, f⟩ := y
    exact hs i x _ N hN (f xs (hl _ _ p)) p) hd
theorem gx_str {z : Str} (hT : TabG H1 P) (Pv : Nat → Hp → Prop) (h0 : ∀ H2, Tabbed P H1 H2 → Pv 0 H2)
    (hs : ∀ i c H (N : Hp → Prop), (∀ H3, Pv (i + 1) H3 → N H3) → z.cps.toList[i]? = some c → Pv i H → gt (.str ⟨#[c]⟩) (wipe σ vs) H fun σ2 H2 => wipe σ2 vs = wipe σ vs ∧ te σ2 H2 fun y H3 => ∃ b, y = .bl b ∧ if b = stop then Q (.bl stop) H3 else N H3)
    (hd : ∀ H, Pv z.cps.size H → Q (.bl (!stop)) H) : gTurns stop P gt te vs σ Q (Its z) H1 :=
  gx_by hT Pv h0 (fun H p => Nat.le_refl _) (fun i H hi p => hi) (fun i x H H' N hN hi p y => by
    obtain ⟨rfl, c, hc, rfl⟩ := y
    exact hs i c _ N hN (by rw [Array.getElem?_toList]; exact hc) p) hd
theorem gx_range {lo : Int} {n : Nat} (hT : TabG H1 P) (Pv : Nat → Hp → Prop) (h0 : ∀ H2, Tabbed P H1 H2 → Pv 0 H2)
    (hs : ∀ i H (N : Hp → Prop), (∀ H3, Pv (i + 1) H3 → N H3) → i < n → Pv i H → gt (.int (lo + (i : Int))) (wipe σ vs) H fun σ2 H2 => wipe σ2 vs = wipe σ vs ∧ te σ2 H2 fun y H3 => ∃ b, y = .bl b ∧ if b = stop then Q (.bl stop) H3 else N H3)
    (hd : ∀ H, Pv n H → Q (.bl (!stop)) H) : gTurns stop P gt te vs σ Q (Itr lo n) H1 :=
  gx_by hT Pv h0 (fun H p => Nat.le_refl _) (fun i H hi p => hi) (fun i x H H' N hN hi p y => by
    obtain ⟨rfl, rfl⟩ := y
    exact hs i _ N hN hi p) hd
end
end Gx
set_option Elab.async false
set_option linter.all false
set_option maxRecDepth 100000
set_option maxHeartbeats 4000000
namespace Eh
open PySem PySem.Spec PyProof.Rows L2 Evl GxR Gx
/-! anything: a value that stands for data, all of it tracked -/
mutual
inductive Th (N : Addr) (H : Hp) : V → PyData → Prop
  | non : Th N H .non .none
  | bl (b : Bool) : Th N H (.bl b) (.bool b)
  | int (i : Int) : Th N H (.int i) (.int i)
  | str (x : Str) : Th N H (.str x) (.str x)
  | lst {a : Addr} {xs : List V} {ds : List PyData} : a ≠ N → H a = some (.lst xs) → ThAll N H xs ds → Th N H (.ref a) (.list ds)
  | tup {a : Addr} {xs : List V} {ds : List PyData} : H a = some (.tup xs) → ThAll N H xs ds → Th N H (.ref a) (.tuple ds)
inductive ThAll (N : Addr) (H : Hp) : List V → List PyData → Prop
  | nil : ThAll N H [] []
  | cons {v : V} {vs : List V} {d : PyData} {ds : List PyData} : Th N H v d → ThAll N H vs ds → ThAll N H (v :: vs) (d :: ds)
end
mutual
theorem Th.et {N : Addr} {H H' : Hp} (e : ET H H') : ∀ {v : V} {d : PyData}, Th N H v d → Th N H' v d
  | _, _, .non => .non
  | _, _, .bl b => .bl b
  | _, _, .int i => .int i
  | _, _, .str x => .str x
  | _, _, .lst z h t => .lst z (e.lst h) (ThAll.et e t)
  | _, _, .tup h t => .tup (e.tup h) (ThAll.et e t)
theorem ThAll.et {N : Addr} {H H' : Hp} (e : ET H H') : ∀ {vs : List V} {ds : List PyData}, ThAll N H vs ds → ThAll N H' vs ds
  | _, _, .nil => .nil
  | _, _, .cons a b => .cons (Th.et e a) (ThAll.et e b)
end
mutual
theorem Th.kp {N : Addr} {H H' : Hp} (k : Keep N H H') (no : ∀ xs, H N ≠ some (.tup xs)) : ∀ {v : V} {d : PyData}, Th N H v d → Th N H' v d
  | _, _, .non => .non
  | _, _, .bl b => .bl b
  | _, _, .int i => .int i
  | _, _, .str x => .str x
  | _, _, .lst z h t => .lst z (k _ _ z h) (ThAll.kp k no t)
  | _, _, .tup h t => .tup (k _ _ (fun e => no _ (e ▸ h)) h) (ThAll.kp k no t)
theorem ThAll.kp {N : Addr} {H H' : Hp} (k : Keep N H H') (no : ∀ xs, H N ≠ some (.tup xs)) : ∀ {vs : List V} {ds : List PyData}, ThAll N H vs ds → ThAll N H' vs ds
  | _, _, .nil => .nil
  | _, _, .cons a b => .cons (Th.kp k no a) (ThAll.kp k no b)
end
mutual
theorem Th.dp {K : PySem.W.Frag} {N : Addr} {H : Hp} : ∀ {v : V} {d : PyData}, Th N H v d → Dp K H v d
  | _, _, .non => .non
  | _, _, .bl b => .bl b
  | _, _, .int i => .int i
  | _, _, .str x => .str x
  | _, _, .lst _ h t => .lst (sq_of h) (ThAll.dp t)
  | _, _, .tup h t => .tup (st_of h) (ThAll.dp t)
theorem ThAll.dp {K : PySem.W.Frag} {N : Addr} {H : Hp} : ∀ {vs : List V} {ds : List PyData}, ThAll N H vs ds → DpAll K H vs ds
  | _, _, .nil => .nil
  | _, _, .cons a b => .cons (Th.dp a) (ThAll.dp b)
end
theorem ThAll.len {N : Addr} {H : Hp} : ∀ {vs : List V} {ds : List PyData}, ThAll N H vs ds → vs.length = ds.length
  | _, _, .nil => rfl
  | _, _, .cons _ b => congrArg (· + 1) (ThAll.len b)
theorem ThAll.get {N : Addr} {H : Hp} : ∀ {vs : List V} {ds : List PyData}, ThAll N H vs ds → ∀ {i : Nat} {v : V}, vs[i]? = some v → ∃ d, ds[i]? = some d ∧ Th N H v d
  | _, _, .cons a b, 0, v, h => by
    cases h
    exact ⟨_, rfl, a⟩
  | _, _, .cons a b, i + 1, v, h => ThAll.get b (i := i) h
theorem ThAll.strs {N : Addr} {H : Hp} : ∀ ws : List Str, ThAll N H (ws.map V.str) (ws.map PyData.str)
  | [] => .nil
  | x :: r => .cons (.str x) (ThAll.strs r)
/-- what it is -/
def dTy : PyData → String
  | .none => "NoneType"
  | .bool _ => "bool"
  | .int _ => "int"
  | .str _ => "str"
  | .list _ => "list"
  | .tuple _ => "tuple"
  | .dict _ => "dict"
def isS : PyData → Bool
  | .str _ => true
  | _ => false
def isTu : PyData → Bool
  | .tuple _ => true
  | _ => false
theorem Th.ty {K : PySem.W.Frag} {N : Addr} {H : Hp} {v : V} {d : PyData} (h : Th N H v d) : TyX K H v (.type (dTy d)) := by
  cases h with
  | non => exact .base .non
  | bl b => exact .base (.bl b)
  | int i => exact .base (.int i)
  | str x => exact .base (.str x)
  | lst _ h _ => exact .base (.lst h)
  | tup h _ => exact .base (.tup h)
theorem kit_str {N : Addr} {H : Hp} {v : V} {d : PyData} (h : Th N H v d) : kitB (dTy d) "str" = some (isS d) := by
  cases h with
  | non => exact (by decide +kernel : kitB "NoneType" "str" = some false)
  | bl _ => exact (by decide +kernel : kitB "bool" "str" = some false)
  | int _ => exact (by decide +kernel : kitB "int" "str" = some false)
  | str _ => exact (by decide +kernel : kitB "str" "str" = some true)
  | lst _ _ _ => exact (by decide +kernel : kitB "list" "str" = some false)
  | tup _ _ => exact (by decide +kernel : kitB "tuple" "str" = some false)
theorem kit_tup {N : Addr} {H : Hp} {v : V} {d : PyData} (h : Th N H v d) : kitB (dTy d) "tuple" = some (isTu d) := by
  cases h with
  | non => exact (by decide +kernel : kitB "NoneType" "tuple" = some false)
  | bl _ => exact (by decide +kernel : kitB "bool" "tuple" = some false)
  | int _ => exact (by decide +kernel : kitB "int" "tuple" = some false)
  | str _ => exact (by decide +kernel : kitB "str" "tuple" = some false)
  | lst _ _ _ => exact (by decide +kernel : kitB "list" "tuple" = some false)
  | tup _ _ => exact (by decide +kernel : kitB "tuple" "tuple" = some true)
theorem isi_str {K : PySem.W.Frag} {N : Addr} {H : Hp} {σ : L2.St} {Q : VK} {i : Nat} {v : V} {d : PyData} (hi : σ[i]? = some (some v)) (h : Th N H v d) (q : Q (.bl (isS d)) H) : tCB (rIsi K) (tCons (tVar i) (tCons (tC (.ty "str")) tNil)) σ H Q :=
  ⟨v, hi, v, .ty "str", .type (dTy d), .type "str", isS d, rfl, .ty "str", h.ty, kit_ty (kit_str h), q⟩
theorem isi_tup {K : PySem.W.Frag} {N : Addr} {H : Hp} {σ : L2.St} {Q : VK} {i : Nat} {v : V} {d : PyData} (hi : σ[i]? = some (some v)) (h : Th N H v d) (q : Q (.bl (isTu d)) H) : tCB (rIsi K) (tCons (tVar i) (tCons (tC (.ty "tuple")) tNil)) σ H Q :=
  ⟨v, hi, v, .ty "tuple", .type (dTy d), .type "tuple", isTu d, rfl, .ty "tuple", h.ty, kit_ty (kit_tup h), q⟩
/-! what the two defs and the law's own tell -/
def azB (c : Nat) : Bool := decide (97 ≤ c) && decide (c < 123)
def ltrB (x : Str) : Bool := (decide (1 ≤ x.length) && decide (x.length ≤ 8)) && (cs x).all azB
def isLetterD : PyData → Bool
  | .str x => ltrB x
  | _ => false
def isPartD (least : Nat) : PyData → Bool
  | .tuple ds => (decide (least ≤ ds.length) && decide (ds.length ≤ 4)) && ds.all isLetterD
  | _ => false
def strOf : PyData → Str
  | .str x => x
  | _ => ""
def dLen : PyData → Nat
  | .tuple ds => ds.length
  | _ => 0
def dItems : PyData → List PyData
  | .tuple ds => ds
  | _ => []
/-- the letters of three parts are unlike -/
def unlikeD (o p c : PyData) : Bool := decide ((((dItems o ++ dItems p) ++ dItems c).map strOf).Nodup)
def isSheetD : PyData → Bool
  | .tuple [o, p, c] => ((isPartD 1 o && isPartD 0 p) && isPartD 1 c) && unlikeD o p c
  | _ => false
/-- nothing in it is great; no more than k within one another -/
inductive Gd : Nat → PyData → Prop
  | non {k : Nat} : Gd k .none
  | bl {k : Nat} (b : Bool) : Gd k (.bool b)
  | int {k : Nat} {i : Int} (h : i.natAbs.log2 < 100) : Gd k (.int i)
  | str {k : Nat} {x : Str} (h : x.length ≤ 40) (h2 : ∀ c ∈ x.cps.toList, c < 16 ^ 8) : Gd k (.str x)
  | lst {k : Nat} {ds : List PyData} (n : ds.length ≤ 16) (h : ∀ d ∈ ds, Gd k d) : Gd (k + 1) (.list ds)
  | tup {k : Nat} {ds : List PyData} (n : ds.length ≤ 16) (h : ∀ d ∈ ds, Gd k d) : Gd (k + 1) (.tuple ds)
theorem Gd.up {k : Nat} {d : PyData} (h : Gd k d) : Gd (k + 1) d := by
  induction h with
  | non => exact .non
  | bl b => exact .bl b
  | int h => exact .int h
  | str h h2 => exact .str h h2
  | lst n _ ih => exact .lst n ih
  | tup n _ ih => exact .tup n ih
theorem Gd.mono {k m : Nat} {d : PyData} (h : Gd k d) (hm : k ≤ m) : Gd m d := by
  induction hm with
  | refl => exact h
  | step _ ih => exact ih.up
end Eh
set_option Elab.async false
set_option linter.all false
set_option maxRecDepth 100000
set_option maxHeartbeats 4000000
namespace Eh
open PySem PySem.Spec PyProof.Rows L2
/-! repr of anything -/
def rRepr (K : PySem.W.Frag) : List V → Hp → VK → Prop := fun xs H Q => ∃ v d, xs = [v] ∧ Dp K H v d ∧ d.showable = true ∧ d.hasDict = false ∧ d.depth ≤ 40 ∧ d.shown.length ≤ sizeLine ∧ Q (.str d.shown) H
theorem call_repr {X : Cx} {k : Nat} (hr : Room k X.A) (hg : X.A.guards = some []) : CallR X (.builtin "repr") (rRepr X.K) := by
  intro pins s σ H xs us Q I r h
  obtain ⟨v, d, rfl, hd, sh, nd, dp, sz, q⟩ := h
  cases r with
  | cons r1 r2 =>
    rename_i u us'
    cases r2
    obtain ⟨as, rd⟩ := Dp.reads I d v u hd r1
    have un := hr.un
    have big : ∀ a, u = .ref a → wpAny (model X.prog X.w) X.A (call (.builtin "repr") [u]) (EP X pins σ Q) X.xe s := fun a e => by
      subst e
      exact repr_of_reads' rd sh (PyData.noDict_hsm nd) hg (by omega) (fun _ _ z => z) (fun h' u tk kp => ⟨.str d.shown, H, I.kept kp, ⟨_, rfl⟩, q⟩) sz
    cases hd with
    | non =>
      cases r1
      exact PySem.P.repr_of_none ⟨.str _, H, I.tok _, ⟨_, rfl⟩, q⟩
    | bl b =>
      cases r1
      exact PySem.P.repr_of_bool ⟨.str _, H, I.tok _, ⟨_, rfl⟩, q⟩
    | int i =>
      obtain ⟨t, rfl⟩ := r1
      exact PySem.P.repr_of_int (of_decide_eq_true sh) ⟨.str _, H, I.tok _, ⟨_, rfl⟩, q⟩
    | str x =>
      obtain ⟨t, rfl⟩ := r1
      exact PySem.P.repr_of_str ⟨.str _, H, I.tok _, ⟨_, rfl⟩, q⟩ sz
    | lst => exact big _ r1
    | tup => exact big _ r1
/-! what is not great may be shown -/
def gB : Nat → Nat
  | 0 => 500
  | k + 1 => 16 * (gB k + 2) + 2
theorem gB_mono (k : Nat) : 500 ≤ gB k := by
  induction k with
  | zero => exact Nat.le_refl _
  | succ k ih =>
    show 500 ≤ 16 * (gB k + 2) + 2
    omega
theorem piled_le {B : Nat} : ∀ (ts : List Str), (∀ t ∈ ts, t.length ≤ B) → piled ts ≤ ts.length * (B + 2)
  | [], _ => by
    rw [piled_nil]
    omega
  | t :: r, h => by
    have := piled_le r fun x hx => h x (.tail _ hx)
    have h1 := h t (.head _)
    rw [piled_cons, List.length_cons, Nat.add_mul]
    omega
theorem from_len : ∀ (ts : List Str) (k : Nat) (acc : Str), (textFrom k acc ts).length ≤ acc.length + piled ts
  | [], k, acc => by
    show acc.length ≤ _
    omega
  | t :: r, k, acc => by
    have ih := from_len r (k + 1) (acc ++ (if k > 0 then ", " else "" : String) ++ t)
    have e : (((if k > 0 then ", " else "" : String) : Str)).length ≤ 2 := by split <;> decide +kernel
    rw [strLen_append, strLen_append] at ih
    rw [piled_cons]
    show (textFrom (k + 1) (acc ++ (if k > 0 then ", " else "" : String) ++ t) r).length ≤ _
    omega
theorem list_len (ts : List Str) : (listText ts).length ≤ piled ts + 2 := by
  have h := from_len ts 0 "["
  have e1 : ((("[" : String) : Str)).length = 1 := rfl
  have e2 : ((("]" : String) : Str)).length = 1 := rfl
  unfold listText
  rw [strLen_append, e2]
  rw [e1] at h
  omega
theorem shownAll_map : ∀ ds : List PyData, PyData.shownAll ds = ds.map PyData.shown
  | [] => rfl
  | d :: r => by
    rw [PyData.shownAll, shownAll_map r, List.map_cons]
theorem Gd.shown {k : Nat} {d : PyData} (h : Gd k d) : d.shown.length ≤ gB k := by
  induction h with
  | non =>
    have := gB_mono ‹Nat›
    exact Nat.le_trans (show (PyData.none).shown.length ≤ 500 by decide +kernel) this
  | bl b =>
    have := gB_mono ‹Nat›
    exact Nat.le_trans (show (PyData.bool b).shown.length ≤ 500 by cases b <;> decide +kernel) this
  | @int k i h =>
    have := gB_mono k
    have e := int_text_length_le (k := 100) (by decide) h
    show (Str.ofString (toString i)).length ≤ _
    rw [PySem.ofString_length]
    omega
  | @str k x h h2 =>
    have := gB_mono k
    have e := StrLaws.reprText_len x h2
    show (reprText x).length ≤ _
    omega
  | @lst k ds n h ih =>
    show (listText (PyData.shownAll ds)).length ≤ 16 * (gB k + 2) + 2
    rw [shownAll_map]
    have a := list_len (ds.map PyData.shown)
    have b := piled_le (B := gB k) (ds.map PyData.shown) fun t ht => by
      obtain ⟨d, hd, rfl⟩ := List.mem_map.mp ht
      exact ih d hd
    rw [List.length_map] at b
    have c := Nat.mul_le_mul_right (gB k + 2) n
    omega
  | @tup k ds n h ih =>
    show (tupleText (PyData.shownAll ds)).length ≤ 16 * (gB k + 2) + 2
    rw [shownAll_map]
    have a := fmt_text (ds.map PyData.shown)
    have b := piled_le (B := gB k) (ds.map PyData.shown) fun t ht => by
      obtain ⟨d, hd, rfl⟩ := List.mem_map.mp ht
      exact ih d hd
    rw [List.length_map] at b
    have c := Nat.mul_le_mul_right (gB k + 2) n
    omega
theorem all_show : ∀ ds : List PyData, (∀ d ∈ ds, d.showable = true) → PyData.showableAll ds = true
  | [], _ => rfl
  | d :: r, h => by
    rw [PyData.showableAll, h d (.head _), all_show r fun x hx => h x (.tail _ hx)]
    rfl
theorem all_nod : ∀ ds : List PyData, (∀ d ∈ ds, d.hasDict = false) → PyData.hasDictAll ds = false
  | [], _ => rfl
  | d :: r, h => by
    rw [PyData.hasDictAll, h d (.head _), all_nod r fun x hx => h x (.tail _ hx)]
    rfl
theorem all_dep {k : Nat} : ∀ ds : List PyData, (∀ d ∈ ds, d.depth ≤ k) → PyData.depthAll ds ≤ k
  | [], _ => Nat.zero_le _
  | d :: r, h => by
    have a := h d (.head _)
    have b := all_dep r fun x hx => h x (.tail _ hx)
    show max d.depth (PyData.depthAll r) ≤ k
    omega
theorem Gd.can {k : Nat} {d : PyData} (h : Gd k d) : d.showable = true ∧ d.hasDict = false ∧ d.depth ≤ k := by
  induction h with
  | non => exact ⟨rfl, rfl, Nat.zero_le _⟩
  | bl b => exact ⟨rfl, rfl, Nat.zero_le _⟩
  | int h => exact ⟨decide_eq_true (by omega), rfl, Nat.zero_le _⟩
  | str h h2 => exact ⟨rfl, rfl, Nat.zero_le _⟩
  | lst n h ih => exact ⟨all_show _ fun d hd => (ih d hd).1, all_nod _ fun d hd => (ih d hd).2.1, Nat.succ_le_succ (all_dep _ fun d hd => (ih d hd).2.2)⟩
  | tup n h ih => exact ⟨all_show _ fun d hd => (ih d hd).1, all_nod _ fun d hd => (ih d hd).2.1, Nat.succ_le_succ (all_dep _ fun d hd => (ih d hd).2.2)⟩
theorem gB3 : gB 3 ≤ sizeLine := by
  rw [sizeLine_eq]
  decide
theorem repr_th {K : PySem.W.Frag} {N : Addr} {H : Hp} {v : V} {d : PyData} {σ : L2.St} {i : Nat} {Q : VK} (h : Th N H v d) (g : Gd 3 d) (hi : σ[i]? = some (some v)) (q : Q (.str d.shown) H) : tCB (rRepr K) (tCons (tVar i) tNil) σ H Q :=
  ⟨v, hi, v, d, rfl, h.dp, g.can.1, g.can.2.1, Nat.le_trans g.can.2.2 (by decide), Nat.le_trans g.shown gB3, q⟩
end Eh
set_option Elab.async false
set_option linter.all false
set_option maxRecDepth 100000
set_option maxHeartbeats 4000000
namespace Eh
open PySem PySem.Spec PyProof.Rows L2 Evl
/-! great words as data, and how heavy they are -/
mutual
inductive DG (H : Hp) : V → PyData → Prop
  | int (i : Int) : DG H (.int i) (.int i)
  | str (x : Str) : DG H (.str x) (.str x)
  | tup {a : Addr} {xs : List V} {ds : List PyData} : H a = some (.tup xs) → DGs H xs ds → DG H (.ref a) (.tuple ds)
  | frz {a : Addr} {xs : List V} {ds : List PyData} : TupF H a xs → DGs H xs ds → DG H (.ref a) (.tuple ds)
inductive DGs (H : Hp) : List V → List PyData → Prop
  | nil : DGs H [] []
  | cons {v : V} {vs : List V} {d : PyData} {ds : List PyData} : DG H v d → DGs H vs ds → DGs H (v :: vs) (d :: ds)
end
mutual
theorem DG.kt {H H' : Hp} (k : Kt H H') : ∀ {v : V} {d : PyData}, DG H v d → DG H' v d
  | _, _, .int i => .int i
  | _, _, .str x => .str x
  | _, _, .tup h t => .tup (k _ _ trivial h) (DGs.kt k t)
  | _, _, .frz h t => .frz (k.f h) (DGs.kt k t)
theorem DGs.kt {H H' : Hp} (k : Kt H H') : ∀ {vs : List V} {ds : List PyData}, DGs H vs ds → DGs H' vs ds
  | _, _, .nil => .nil
  | _, _, .cons a b => .cons (DG.kt k a) (DGs.kt k b)
end
mutual
theorem DG.dp {K : PySem.W.Frag} {H : Hp} : ∀ {v : V} {d : PyData}, DG H v d → Dp K H v d
  | _, _, .int i => .int i
  | _, _, .str x => .str x
  | _, _, .tup h t => .tup (st_of h) (DGs.dp t)
  | _, _, .frz h t => .tup h.st (DGs.dp t)
theorem DGs.dp {K : PySem.W.Frag} {H : Hp} : ∀ {vs : List V} {ds : List PyData}, DGs H vs ds → DpAll K H vs ds
  | _, _, .nil => .nil
  | _, _, .cons a b => .cons (DG.dp a) (DGs.dp b)
end
theorem DGs.strs {H : Hp} : ∀ W : List Str, DGs H (W.map V.str) (W.map PyData.str)
  | [] => .nil
  | x :: r => .cons (.str x) (DGs.strs r)
inductive Gr : Nat → PyData → Prop
  | int {k : Nat} {i : Int} (h : i.natAbs.log2 < 210) : Gr k (.int i)
  | str {k : Nat} {x : Str} (h : (cs x).length ≤ 20) (h2 : ∀ c ∈ cs x, c < 128) : Gr k (.str x)
  | tup {k : Nat} {ds : List PyData} (h : ∀ d ∈ ds, Gr k d) : Gr (k + 1) (.tuple ds)
theorem Gr.up {k : Nat} {d : PyData} (h : Gr k d) : Gr (k + 1) d := by
  induction h with
  | int h => exact .int h
  | str h h2 => exact .str h h2
  | tup h ih => exact .tup ih
theorem Gr.mono {k m : Nat} {d : PyData} (h : Gr k d) (hm : k ≤ m) : Gr m d := by
  induction hm with
  | refl => exact h
  | step _ ih => exact ih.up
mutual
def wtd : PyData → Nat
  | .tuple ds => 1 + wtds ds
  | _ => 1
def wtds : List PyData → Nat
  | [] => 0
  | d :: r => wtd d + wtds r
end
theorem Gr.can {k : Nat} {d : PyData} (h : Gr k d) : d.showable = true ∧ d.hasDict = false ∧ d.depth ≤ k := by
  induction h with
  | int h => exact ⟨decide_eq_true (by omega), rfl, Nat.zero_le _⟩
  | str h h2 => exact ⟨rfl, rfl, Nat.zero_le _⟩
  | tup h ih => exact ⟨all_show _ fun d hd => (ih d hd).1, all_nod _ fun d hd => (ih d hd).2.1, Nat.succ_le_succ (all_dep _ fun d hd => (ih d hd).2.2)⟩
theorem piledG : ∀ ds : List PyData, (∀ d ∈ ds, d.shown.length ≤ 300 * wtd d - 2) → piled (ds.map PyData.shown) ≤ 300 * wtds ds
  | [], _ => by
    show piled [] ≤ _
    rw [piled_nil]
    exact Nat.zero_le _
  | d :: r, h => by
    have a := h d (.head _)
    have b := piledG r fun x hx => h x (.tail _ hx)
    have : 1 ≤ wtd d := by
      cases d with
      | tuple ds => show 1 ≤ 1 + wtds ds; omega
      | _ => exact Nat.le_refl 1
    rw [List.map_cons, piled_cons]
    show _ ≤ 300 * (wtd d + wtds r)
    omega
theorem Gr.shownW {k : Nat} {d : PyData} (h : Gr k d) : d.shown.length ≤ 300 * wtd d - 2 := by
  induction h with
  | @int k i h =>
    have e := int_text_length_le (k := 210) (by decide) h
    show (Str.ofString (toString i)).length ≤ 298
    rw [PySem.ofString_length]
    omega
  | @str k x h h2 =>
    have e := StrLaws.reprText_len x fun c hc => Nat.lt_trans (h2 c hc) (by decide)
    show (reprText x).length ≤ 298
    have e2 : x.length = (cs x).length := len_cs x
    omega
  | @tup k ds h ih =>
    show (tupleText (PyData.shownAll ds)).length ≤ 300 * (1 + wtds ds) - 2
    rw [shownAll_map]
    have a := fmt_text (ds.map PyData.shown)
    have b := piledG ds ih
    omega
/-- it can be shown -/
theorem repr_dg {K : PySem.W.Frag} {H : Hp} {v : V} {d : PyData} {σ : L2.St} {i : Nat} (h : DG H v d) (g : Gr 20 d) (hw : wtd d ≤ 50000) (hi : σ[i]? = some (some v)) : Ev (tCB (rRepr K) (tCons (tVar i) tNil)) σ H (.str d.shown) := fun H1 e Q q =>
  ⟨v, hi, v, d, rfl, (h.kt (Kt.ex e)).dp, g.can.1, g.can.2.1, Nat.le_trans g.can.2.2 (by decide), by
    have := g.shownW
    rw [sizeLine_eq]
    omega, q H1 (Ex.refl H1)⟩
theorem gr_ltr {k : Nat} {x : Str} (h : Ltr x) : Gr k (.str x) := .str (by have := h.2.2; omega) fun c hc => by
  have := h.1 c hc
  unfold az at this
  omega
theorem gr_int {k n : Nat} (h : n < 2 ^ 200) : Gr k (.int (n : Int)) := .int (Nat.lt_trans (log_of h (by decide)) (by decide))
theorem gr_lit {k : Nat} {x : Str} (h : (cs x).length ≤ 20 ∧ ∀ c ∈ cs x, c < 128) : Gr k (.str x) := .str h.1 h.2
theorem wtds_strs : ∀ W : List Str, wtds (W.map PyData.str) = W.length
  | [] => rfl
  | x :: r => by
    show 1 + wtds (r.map PyData.str) = r.length + 1
    rw [wtds_strs r]
    omega
def gw : Nat → Nat
  | 0 => 0
  | n + 1 => 63 + 8 * gw n
theorem gr_tup {k : Nat} {ds : List PyData} (h : ∀ d ∈ ds, Gr k d) : Gr (k + 1) (.tuple ds) := .tup h
theorem GAt.dg {os ls qs : List Str} (hS : Sht os ls qs) {H : Hp} : ∀ (n : Nat) (v : V) (W : List Str), GAt os ls qs H n v W → ∃ d, DG H v d ∧ Gr (2 * n) d ∧ wtd d ≤ gw n
  | 0, _, _, h => h.elim
  | n + 1, v, W, ⟨t, xs, ps, Ws, e, ht, hg⟩ => by
    subst e
    have sub : ∀ (ps : List V) (Ws : List (List Str)), All2 (GAt os ls qs H n) ps Ws → ∃ ds, DGs H ps ds ∧ (∀ d ∈ ds, Gr (2 * n) d) ∧ wtds ds ≤ ps.length * gw n := by
      intro ps
      induction ps with
      | nil => exact fun Ws _ => ⟨[], .nil, fun d h => (List.not_mem_nil h).elim, Nat.zero_le _⟩
      | cons p r ih =>
        intro Ws hA
        cases Ws with
        | nil => exact hA.elim
        | cons X R =>
          obtain ⟨d, d1, d2, d3⟩ := GAt.dg hS n p X hA.1
          obtain ⟨ds, e1, e2, e3⟩ := ih R hA.2
          refine ⟨d :: ds, .cons d1 e1, fun z hz => (List.mem_cons.mp hz).elim (fun q => q ▸ d2) (e2 z), ?_⟩
          show wtd d + wtds ds ≤ (r.length + 1) * gw n
          rw [Nat.succ_mul]
          omega
    have e2n : 2 * (n + 1) = 2 * n + 1 + 1 := by omega
    have ka : ∀ {x : Str} {k : Nat}, x ∈ os → Gr k (.str x) := fun {x k} hx => gr_ltr (hS.lt x (List.mem_append.mpr (.inl (List.mem_append.mpr (.inl hx)))))
    have kc : ∀ {x : Str} {k : Nat}, x ∈ qs → Gr k (.str x) := fun {x k} hx => gr_ltr (hS.lt x (List.mem_append.mpr (.inr hx)))
    rw [e2n]
    cases hg with
    | word hu hl hm hb =>
      refine ⟨.tuple [.str "word", .tuple (W.map PyData.str)], .tup ht (.cons (.str _) (.cons (.frz hu (DGs.strs W)) .nil)), gr_tup fun d hd => ?_, ?_⟩
      · simp only [List.mem_cons, List.not_mem_nil, or_false] at hd
        rcases hd with rfl | rfl
        · exact gr_lit (by decide +kernel)
        · refine gr_tup fun d hd => ?_
          obtain ⟨x, hx, rfl⟩ := List.mem_map.mp hd
          exact gr_ltr (hS.lt x (hm x hx))
      · show 1 + (1 + (1 + wtds (W.map PyData.str) + 0)) ≤ 63 + 8 * gw n
        rw [wtds_strs]
        omega
    | row hu hr hl =>
      obtain ⟨ds, e1, e2, e3⟩ := sub _ _ hr
      refine ⟨.tuple [.str "row", .tuple ds], .tup ht (.cons (.str _) (.cons (.tup hu e1) .nil)), gr_tup fun d hd => ?_, ?_⟩
      · simp only [List.mem_cons, List.not_mem_nil, or_false] at hd
        rcases hd with rfl | rfl
        · exact gr_lit (by decide +kernel)
        · exact gr_tup e2
      · show 1 + (1 + (1 + wtds ds + 0)) ≤ 63 + 8 * gw n
        have := Nat.mul_le_mul_right (gw n) hl
        omega
    | @again k p W' hk hr =>
      obtain ⟨d, d1, d2, d3⟩ := GAt.dg hS n p W' hr
      refine ⟨.tuple [.str "again", .int k, d], .tup ht (.cons (.str _) (.cons (.int _) (.cons d1 .nil))), gr_tup fun z hz => ?_, ?_⟩
      · simp only [List.mem_cons, List.not_mem_nil, or_false] at hz
        rcases hz with rfl | rfl | rfl
        · exact gr_lit (by decide +kernel)
        · exact gr_int hk
        · exact d2.up
      · show 1 + (1 + (1 + (wtd d + 0))) ≤ 63 + 8 * gw n
        omega
    | @wrap k a c p W' hk ha hc hr =>
      obtain ⟨d, d1, d2, d3⟩ := GAt.dg hS n p W' hr
      refine ⟨.tuple [.str "wrap", .int k, .str a, d, .str c], .tup ht (.cons (.str _) (.cons (.int _) (.cons (.str _) (.cons d1 (.cons (.str _) .nil))))), gr_tup fun z hz => ?_, ?_⟩
      · simp only [List.mem_cons, List.not_mem_nil, or_false] at hz
        rcases hz with rfl | rfl | rfl | rfl | rfl
        · exact gr_lit (by decide +kernel)
        · exact gr_int hk
        · exact ka ha
        · exact d2.up
        · exact kc hc
      · show 1 + (1 + (1 + (1 + (wtd d + (1 + 0))))) ≤ 63 + 8 * gw n
        omega
/-- a great word, no more than n within one another, no heavier than m -/
def GAw (os ls qs : List Str) (H : Hp) (n m : Nat) (v : V) (W : List Str) : Prop := GAt os ls qs H n v W ∧ ∃ d, DG H v d ∧ Gr (2 * n) d ∧ wtd d ≤ m
theorem GAw.kt {os ls qs : List Str} {H H' : Hp} {n m : Nat} {v : V} {W : List Str} (k : Kt H H') (h : GAw os ls qs H n m v W) : GAw os ls qs H' n m v W := ⟨GAt.keep k n v W h.1, h.2.imp fun d z => ⟨z.1.kt k, z.2⟩⟩
theorem GAw.ex {os ls qs : List Str} {H H' : Hp} {n m : Nat} {v : V} {W : List Str} (h : GAw os ls qs H n m v W) (e : Ex H H') : GAw os ls qs H' n m v W := h.kt (Kt.ex e)
theorem GAw.le {os ls qs : List Str} {H : Hp} {n m n' m' : Nat} {v : V} {W : List Str} (h : GAw os ls qs H n m v W) (hn : n ≤ n') (hm : m ≤ m') : GAw os ls qs H n' m' v W := ⟨h.1.le hn, h.2.imp fun d z => ⟨z.1, z.2.1.mono (by omega), Nat.le_trans z.2.2 hm⟩⟩
def EvW (os ls qs : List Str) (te : TE) (σ : L2.St) (H : Hp) (n m : Nat) : Prop := ∀ H1, Ex H H1 → ∀ Q : VK, (∀ v W H2, Ex H1 H2 → GAw os ls qs H2 n m v W → Q v H2) → te σ H1 Q
def EvWs (os ls qs : List Str) (ta : TA) (σ : L2.St) (H : Hp) (n m k : Nat) : Prop := ∀ H1, Ex H H1 → ∀ Q : List V → Hp → Prop, (∀ vs Ws H2, Ex H1 H2 → All2 (GAw os ls qs H2 n m) vs Ws → vs.length = k → Q vs H2) → ta σ H1 Q
section
variable {os ls qs : List Str} {σ : L2.St} {H : Hp} {te ta tc tk tf : TE} {n m n' m' k : Nat}
theorem EvW.le (h : EvW os ls qs te σ H n m) (hn : n ≤ n') (hm : m ≤ m') : EvW os ls qs te σ H n' m' := fun H1 e Q q => h H1 e Q fun v W H2 e2 g => q v W H2 e2 (g.le hn hm)
theorem ew_var {i : Nat} {v : V} {W : List Str} (h : σ[i]? = some (some v)) (g : GAw os ls qs H n m v W) : EvW os ls qs (tVar i) σ H n m := fun H1 e Q q => ⟨v, h, q v W H1 (Ex.refl _) (g.ex e)⟩
theorem ew_nil : EvW os ls qs (tTup (tCons (tC (.str "word")) (tCons (tTupF tNil) tNil))) σ H 1 3 := fun H1 e Q q =>
  ⟨Nat.zero_le _, fun u uo nu tf => ⟨by show 2 ≤ sizeLine; decide, fun t nt => q (.ref t) [] _ ((Ex.new nu).trans (Ex.new nt)) ⟨⟨t, _, [], [], rfl, upd_same, .word ((TupF.new tf).ex (Ex.new nt)) (Nat.zero_le _) (fun x h => (List.not_mem_nil h).elim) rfl⟩, .tuple [.str "word", .tuple []], .tup upd_same (.cons (.str _) (.cons (.frz ((TupF.new tf).ex (Ex.new nt)) .nil) .nil)), gr_tup fun d hd => by
    simp only [List.mem_cons, List.not_mem_nil, or_false] at hd
    rcases hd with rfl | rfl
    · exact gr_lit (by decide +kernel)
    · exact gr_tup fun d h => (List.not_mem_nil h).elim, by decide⟩⟩⟩
theorem ew_again {j : Nat} (h : EvW os ls qs te σ H n m) (h1 : Ev tk σ H (.int (j : Int))) (hk : j < 2 ^ 200) : EvW os ls qs (tTup (tCons (tC (.str "again")) (tCons tk (tCons te tNil)))) σ H (n + 1) (m + 5) := fun H1 e Q q =>
  h1 H1 e _ fun H2 e2 => h H2 (e.trans e2) _ fun v W H3 e3 g => ⟨by show 3 ≤ sizeLine; decide, fun t nt => by
    obtain ⟨g1, d, d1, d2, d3⟩ := g.ex (Ex.new (o := .tup [.str "again", .int (j : Int), v]) nt)
    refine q (.ref t) _ _ ((e2.trans e3).trans (Ex.new nt)) ⟨⟨t, _, [v], [W], rfl, upd_same, .again hk g1⟩, .tuple [.str "again", .int j, d], .tup upd_same (.cons (.str _) (.cons (.int _) (.cons d1 .nil))), ?_, ?_⟩
    · rw [show 2 * (n + 1) = 2 * n + 1 + 1 by omega]
      refine gr_tup fun z hz => ?_
      simp only [List.mem_cons, List.not_mem_nil, or_false] at hz
      rcases hz with rfl | rfl | rfl
      · exact gr_lit (by decide +kernel)
      · exact gr_int hk
      · exact d2.up
    · show 1 + (1 + (1 + (wtd d + 0))) ≤ _
      omega⟩
theorem ew_wrap (hS : Sht os ls qs) {j : Nat} {a c : Str} (ha : a ∈ os) (hc : c ∈ qs) (h : EvW os ls qs te σ H n m) (h1 : Ev tk σ H (.int (j : Int))) (hk : j < 2 ^ 200) (h2 : Ev ta σ H (.str a)) (h3 : Ev tc σ H (.str c)) : EvW os ls qs (tTup (tCons (tC (.str "wrap")) (tCons tk (tCons ta (tCons te (tCons tc tNil)))))) σ H (n + 1) (m + 5) := fun H1 e Q q =>
  h1 H1 e _ fun H2 e2 => h2 H2 (e.trans e2) _ fun H3 e3 => h H3 ((e.trans e2).trans e3) _ fun v W H4 e4 g => h3 H4 (((e.trans e2).trans e3).trans e4) _ fun H5 e5 => ⟨by show 5 ≤ sizeLine; decide, fun t nt => by
    obtain ⟨g1, d, d1, d2, d3⟩ := g.ex (e5.trans (Ex.new (o := .tup [.str "wrap", .int (j : Int), .str a, v, .str c]) nt))
    refine q (.ref t) _ _ ((((e2.trans e3).trans e4).trans e5).trans (Ex.new nt)) ⟨⟨t, _, [v], [W], rfl, upd_same, .wrap hk ha hc g1⟩, .tuple [.str "wrap", .int j, .str a, d, .str c], .tup upd_same (.cons (.str _) (.cons (.int _) (.cons (.str _) (.cons d1 (.cons (.str _) .nil))))), ?_, ?_⟩
    · rw [show 2 * (n + 1) = 2 * n + 1 + 1 by omega]
      refine gr_tup fun z hz => ?_
      simp only [List.mem_cons, List.not_mem_nil, or_false] at hz
      rcases hz with rfl | rfl | rfl | rfl | rfl
      · exact gr_lit (by decide +kernel)
      · exact gr_int hk
      · exact gr_ltr (hS.lt a (List.mem_append.mpr (.inl (List.mem_append.mpr (.inl ha)))))
      · exact d2.up
      · exact gr_ltr (hS.lt c (List.mem_append.mpr (.inr hc)))
    · show 1 + (1 + (1 + (1 + (wtd d + (1 + 0))))) ≤ _
      omega⟩
theorem ew_row2 (h : EvW os ls qs te σ H n m) (h' : EvW os ls qs tf σ H n m') : EvW os ls qs (tTup (tCons (tC (.str "row")) (tCons (tTup (tCons te (tCons tf tNil))) tNil))) σ H (n + 1) (m + m' + 3) := fun H1 e Q q =>
  h H1 e _ fun v W H2 e2 g => h' H2 (e.trans e2) _ fun v' W' H3 e3 g' => ⟨by show 2 ≤ sizeLine; decide, fun u nu => ⟨by show 2 ≤ sizeLine; decide, fun t nt => by
    have x1 := Ex.new (o := .tup [v, v']) nu
    have x2 := Ex.new (o := .tup [.str "row", .ref u]) nt
    obtain ⟨g1, d, d1, d2, d3⟩ := g.ex (e3.trans (x1.trans x2))
    obtain ⟨g1', d', d1', d2', d3'⟩ := g'.ex (x1.trans x2)
    refine q (.ref t) [W, W'].flatten _ ((e2.trans e3).trans (x1.trans x2)) ⟨⟨t, _, [v, v'], [W, W'], rfl, upd_same, .row (x2 _ _ upd_same) ⟨g1, g1', trivial⟩ (by show 2 ≤ 8; decide)⟩, .tuple [.str "row", .tuple [d, d']], .tup upd_same (.cons (.str _) (.cons (.tup (x2 _ _ upd_same) (.cons d1 (.cons d1' .nil))) .nil)), ?_, ?_⟩
    · rw [show 2 * (n + 1) = 2 * n + 1 + 1 by omega]
      refine gr_tup fun z hz => ?_
      simp only [List.mem_cons, List.not_mem_nil, or_false] at hz
      rcases hz with rfl | rfl
      · exact gr_lit (by decide +kernel)
      · refine gr_tup fun z hz => ?_
        simp only [List.mem_cons, List.not_mem_nil, or_false] at hz
        rcases hz with rfl | rfl
        · exact d2
        · exact d2'
    · show 1 + (1 + (1 + (wtd d + (wtd d' + 0)) + 0)) ≤ _
      omega⟩⟩
theorem ews_nil : EvWs os ls qs tNil σ H n m 0 := fun H1 e Q q => q [] [] H1 (Ex.refl _) trivial rfl
theorem ews_cons {tr : TA} (h : EvW os ls qs te σ H n m) (hr : EvWs os ls qs tr σ H n m k) : EvWs os ls qs (tCons te tr) σ H n m (k + 1) := fun H1 e Q q =>
  h H1 e _ fun v W H2 e2 g => hr H2 (e.trans e2) _ fun vs Ws H3 e3 gs hl => q (v :: vs) (W :: Ws) H3 (e2.trans e3) ⟨g.ex e3, gs⟩ (by rw [List.length_cons, hl])
end
section
variable {os ls qs : List Str} {σ : L2.St} {H : Hp} {te tl : TE} {ta tr : TA} {n m i k : Nat} {D : Ends} {tz : TS} {Q : VK}
theorem w_lst (h : EvWs os ls qs ta σ H n m k) (hm : k ≤ 1000) (kk : ∀ vs Ws H2 l, Ex H H2 → All2 (GAw os ls qs H2 n m) vs Ws → vs.length = k → H2 l = none → Q (.ref l) (upd H2 l (.lst vs))) : tLst ta σ H Q := h H (Ex.refl _) _ fun vs Ws H2 e2 gs hl => ⟨sz_of (by omega), fun l nl => kk vs Ws H2 l e2 gs hl nl⟩
theorem q_asgWs (h : EvWs os ls qs ta σ H n m k) (hm : k ≤ 1000) (kk : ∀ vs Ws H2 l, Ex H H2 → All2 (GAw os ls qs H2 n m) vs Ws → vs.length = k → H2 l = none → tz D (σ.set i (some (.ref l))) (upd H2 l (.lst vs))) : tSeq (tAsg (tLst ta) (gName i)) tz D σ H := h H (Ex.refl H) _ fun vs Ws H2 e2 gs hl => ⟨sz_of (by omega), fun l nl => kk vs Ws H2 l e2 gs hl nl⟩
end
def spTen : Sp := fun vs H Q _ => ∃ (p c s : Addr) (ns : List Int) (os ls qs : List Str), vs = [.ref p, .ref s] ∧ Pot p c ns H ∧ Sht os ls qs ∧ SheetAt H s os ls qs ∧ ∀ (v : V) (W : List Str) H', GAw os ls qs H' 10 1000 v W → Keep p H H' → Pot p c ns H' → Q v H'
section
variable {P : Program} {w : World} {K : PySem.W.Frag} {mg : Str → Option Value} {base : Heap}
theorem ok_tenW {f fpick fshut : Addr} {fd dpick dshut : FuncData} {k : Nat} (F : Fun K "_law_ten_deep" "_law_ten_deep" sLawTenDeep f fd) (Fpick : Fun K "_law_pick" "_law_pick" sPick fpick dpick) (Gpick : FnOk P w K mg base CX0 (k + 1) fpick dpick ["pot", "many"] spPick) (bpick : Binds K dpick ["pot", "many"] []) (gpick : mg "_law_pick" = some (.ref fpick)) (Fshut : Fun K "_law_shut" "_law_shut" sShut fshut dshut) (Gshut : FnOk P w K mg base CX0 (k + 1) fshut dshut ["pot", "sheet", "most"] spShut) (bshut : Binds K dshut ["pot", "sheet", "most"] []) (gshut : mg "_law_shut" = some (.ref fshut)) (mrange : mg "range" = none) (mtuple : mg "tuple" = none) : FnOk P w K mg base CX0 (k + 2) f fd ["pot", "sheet"] spTen := by
  have nd := scLawTenDeep.nd
  refine F.ok scLawTenDeep (fun vs H Q E h => ?_) (fun cdv A outer s H vs Q E hr h => ?_)
  · obtain ⟨p, c, s, ns, os, ls, qs, rfl, _⟩ := h
    rfl
  · obtain ⟨p, c, s, ns, os, ls, qs, rfl, hP, hS, hs, q⟩ := h
    refine ⟨_, (pss_cons (ps_set (i := 2) nd rfl (.inl rfl) (pe_tup (pa_cons pe_str (pa_cons (pe_callTy call_tuple_F (by rfl) mtuple (by decide +kernel) (pa_cons (pe_call Gshut hr (by rfl) gshut Fshut.kp bshut .nil pass0 (pa_cons (pv 0) (pa_cons (pv 1) (pa_cons pe_int pa_nil)))) pa_nil)) pa_nil))))
      (pss_cons (ps_for PassesOwn.never rfl (pi_range1 (by rfl) mrange (pa_cons pe_int pa_nil)) (pg_name (i := 3) nd rfl (.inl rfl)) (pss_cons (ps_set (i := 4) nd rfl (.inl rfl) (pe_lst (pa_cons (pe_tup (pa_cons pe_str (pa_cons (pe_op op_sub (pe_op op_pow pe_int pe_int) (pv 3)) (pa_cons (pv 2) pa_nil)))) (pa_cons (pe_tup (pa_cons pe_str (pa_cons (pe_op op_sub (pe_op op_pow pe_int pe_int) (pv 3)) (pa_cons (pe_ix ix_tup (pe_ix ix_tup (pv 1) pe_int (fun _ _ => rfl)) pe_int (fun _ _ => rfl)) (pa_cons (pv 2) (pa_cons (pe_ix ix_tup (pe_ix ix_tup (pv 1) pe_int (fun _ _ => rfl)) (pe_un un_neg pe_int) (fun _ _ => rfl)) pa_nil)))))) pa_nil))))
      (pss_one (ps_set (i := 2) nd rfl (.inl rfl) (pe_ix ix_list (pe_op op_cat (pv 4) (pe_lst (pa_cons (pe_tup (pa_cons pe_str (pa_cons (pe_tup (pa_cons (pv 2) (pa_cons (pe_tup (pa_cons pe_str (pa_cons (pe_tupF pa_nil) pa_nil))) pa_nil))) pa_nil))) pa_nil))) (pe_call Gpick hr (by rfl) gpick Fpick.kp bpick .nil pass0 (pa_cons (pv 0) (pa_cons pe_int pa_nil))) (fun _ _ => rfl))))))
      (pss_one (ps_ret (pv 2))))), ?_⟩
    refine ⟨_, rfl, _, rfl, p, c, s, ns, os, ls, qs, 2, rfl, by decide, hP, hS, hs, fun ws l H2 hm hl hb kp2 hP2 nl hl2 => ⟨l, _, rfl, sq_of hl2, fun u uo nu tf => ⟨by show 2 ≤ sizeLine; decide, fun t nt => ?_⟩⟩⟩
    have e3 := (Ex.new (o := .frz uo (.tup (ws.map V.str))) nu).trans (Ex.new (o := .tup [.str "word", .ref u]) nt)
    refine ⟨9, rfl, by decide, by decide, for_range (lo := 0) (n := 9) (fun i σ H' => (∃ (g : V) (W : List Str) (y3 y4 : Option V), σ = [some (.ref p), some (.ref s), some g, y3, y4] ∧ GAw os ls qs H' (i + 1) (20 + 100 * i) g W) ∧ Keep p H H' ∧ Pot p c ns H') ⟨⟨.ref t, ws, _, _, rfl, ⟨t, _, [], [], rfl, upd_same, .word ((TupF.new tf).ex (Ex.new nt)) (by omega) hm hb⟩, .tuple [.str "word", .tuple (ws.map PyData.str)], .tup upd_same (.cons (.str _) (.cons (.frz ((TupF.new tf).ex (Ex.new nt)) (DGs.strs ws)) .nil)), gr_tup fun d hd => by
      simp only [List.mem_cons, List.not_mem_nil, or_false] at hd
      rcases hd with rfl | rfl
      · exact gr_lit (by decide +kernel)
      · refine gr_tup fun d hd => ?_
        obtain ⟨x, hx, rfl⟩ := List.mem_map.mp hd
        exact gr_ltr (hS.lt x (hm x hx)), by
      show 1 + (1 + (1 + wtds (ws.map PyData.str) + 0)) ≤ _
      rw [wtds_strs]
      omega⟩, kp2.trans (Keep.ofEx e3), hP2.ex e3⟩ ?_ ?_⟩
    · rintro i σ H4 hi ⟨⟨g, W, y3, y4, rfl, hg⟩, kp4, hP4⟩
      obtain ⟨ao, ap, ac, g0, g1, g2, g3⟩ := hs.keep hP kp4
      obtain ⟨z, hz, hzl⟩ := last_at hS.c0
      obtain ⟨a, ha, hal⟩ : ∃ a ∈ os, atI (os.map V.str) 0 = some (.str a) := by
        cases os with
        | nil => exact absurd rfl hS.o0
        | cons x r => exact ⟨x, List.mem_cons_self .., atI_nat (j := 0) rfl⟩
      have e0 : (0 : Int) + (i : Int) = (i : Int) := Int.zero_add _
      rw [e0]
      have kk : ∀ {σ : L2.St} (H5 : Hp), σ[3]? = some (some (.int (i : Int))) → Ev (tOp (rI0 fun i j => .int (i - j)) (tOp (rI CPow fun i j => .int (i ^ j.toNat)) (tC (.int 10)) (tC (.int 60))) (tVar 3)) σ H5 (.int ((1000000000000000000000000000000000000000000000000000000000000 - i : Nat) : Int)) := fun {σ} H5 h3 => ev_is (ev_op ev_60 (ev_var h3) rv_I0) (congrArg V.int (by omega))
      have hk : 1000000000000000000000000000000000000000000000000000000000000 - i < 2 ^ 200 := Nat.lt_of_le_of_lt (Nat.sub_le _ _) k60
      refine q_asgWs (n := i + 2) (m := 20 + 100 * (i + 1)) (k := 2) (ews_cons ((ew_again (ew_var rfl hg) (kk H4 rfl) hk).le (Nat.le_refl _) (by omega)) (ews_cons ((ew_wrap hS ha hz (ew_var rfl hg) (kk H4 rfl) hk (ev_op (ev_op (ev_var rfl) ev_c (rv_ixT (st_of g0) (show atI [V.ref ao, .ref ap, .ref ac] 0 = some (.ref ao) from rfl))) ev_c (rv_ixT (st_of g1) hal)) (ev_op (ev_op (ev_var rfl) ev_c (rv_ixT (st_of g0) (show atI [V.ref ao, .ref ap, .ref ac] 2 = some (.ref ac) from rfl))) (ev_un ev_c ru_neg) (rv_ixT (st_of g3) hzl))).le (Nat.le_refl _) (by omega)) ews_nil)) (by decide) fun vs Ws H5 l5 e5 hA5 hm5 nl5 => ?_
      have e6 := Ex.new (o := .lst vs) nl5
      have e56 := e5.trans e6
      have hl6 : (upd H5 l5 (.lst vs)) l5 = some (.lst vs) := upd_same
      show tAsg _ _ _ [some (.ref p), some (.ref s), some g, some (.int (i : Int)), some (.ref l5)] (upd H5 l5 (.lst vs))
      have hA6 : All2 (GAw os ls qs (upd H5 l5 (.lst vs)) (i + 2) (20 + 100 * (i + 1))) vs Ws := All2.mono (fun v W g => g.ex e6) _ _ hA5
      generalize upd H5 l5 (.lst vs) = H6 at e6 e56 hl6 hA6
      refine ⟨_, rfl, w_lst (n := i + 2) (m := 20 + 100 * (i + 1)) (k := 1) (ews_cons ((ew_row2 (n := i + 1) (ew_var rfl (hg.ex e56)) (ew_nil.le (by omega) (Nat.le_refl _))).le (Nat.le_refl _) (by omega)) ews_nil) (by decide) fun us Us H7 l7 e7 hA7 hm7 nl7 => ?_⟩
      have e8 := Ex.new (o := .lst us) nl7
      refine ⟨l5, l7, _, _, rfl, rfl, e8 _ _ (e7 _ _ hl6), upd_same, sz_of (by omega), fun r nr => ?_⟩
      have e9 := Ex.new (o := .lst (vs ++ us)) nr
      have e49 := (e56.trans e7).trans (e8.trans e9)
      have hA9 : All2 (GAw os ls qs (upd (upd H7 l7 (.lst us)) r (.lst (vs ++ us))) (i + 2) (20 + 100 * (i + 1))) (vs ++ us) (Ws ++ Us) := All2.app _ _ _ _ (All2.mono (fun v W g => g.ex (e7.trans (e8.trans e9))) _ _ hA6) (All2.mono (fun v W g => g.ex (e8.trans e9)) _ _ hA7)
      have hr9 : (upd (upd H7 l7 (.lst us)) r (.lst (vs ++ us))) r = some (.lst (vs ++ us)) := upd_same
      have hlen : (vs ++ us).length = 3 := by rw [List.length_append]; omega
      have hP9 := hP4.ex e49
      have rp : r ≠ p := ((hP4.ex ((e56.trans e7).trans e8)).ne_new nr).1.symm
      refine ⟨_, rfl, p, c, ns, 3, rfl, by decide, by decide, hP9, fun v H10 hv kp10 hP10 => ?_⟩
      have hv3 : v < (vs ++ us).length := by omega
      have hx : (vs ++ us)[v]? = some (vs ++ us)[v] := List.getElem?_eq_getElem hv3
      obtain ⟨W9, hW9, hg9⟩ := All2.at _ _ hA9 v _ hx
      exact ⟨r, _, _, (vs ++ us)[v], rfl, rfl, sq_of (kp10 _ _ rp hr9), atI_nat hx, ⟨(vs ++ us)[v], W9, _, _, rfl, hg9.kt (hP9.kt kp10)⟩, (kp4.trans (Keep.ofEx e49)).trans kp10, hP10⟩
    · rintro σ H4 ⟨⟨g, W, y3, y4, rfl, hg⟩, kp4, hP4⟩
      exact ⟨_, rfl, q g W H4 (hg.le (by decide) (by decide)) kp4 hP4⟩
end
end Eh
set_option Elab.async false
set_option linter.all false
set_option maxRecDepth 100000
set_option maxHeartbeats 4000000
/-! the end of a law whose defs have tables of code objects; no guard stands around the law's own body -/
namespace EndG
open PySem PySem.Spec PyProof.Rows L2 GxR
abbrev tabO : Obj := { cls := .none, data := .fields #[] }
abbrev lstO (vs : List Value) : Obj := { cls := .type "list", data := .seq vs.toArray }
/-- what the law may track at first: the tables, and the script if it isn't K's -/
def h0 (ts : List Addr) (a : Addr) (fz : Bool) (vs : List Value) (ns : List Int) : Hp := fun b => if b ∈ ts then some (.tbl #[]) else if b = a ∧ fz = true then some (.frz (lstO vs) (.lst (ns.map V.int))) else none
section
variable {ts : List Addr} {a b : Addr} {fz : Bool} {vs : List Value} {ns : List Int}
theorem h0_t (h : b ∈ ts) : h0 ts a fz vs ns b = some (.tbl #[]) := if_pos h
theorem h0_a (h : a ∉ ts) (z : fz = true) : h0 ts a fz vs ns a = some (.frz (lstO vs) (.lst (ns.map V.int))) := (if_neg h).trans (if_pos ⟨rfl, z⟩)
theorem h0_n (h : b ∉ ts) (z : ¬ (b = a ∧ fz = true)) : h0 ts a fz vs ns b = none := (if_neg h).trans (if_neg z)
theorem h0_or : b ∈ ts ∨ (b ∉ ts ∧ b = a ∧ fz = true) ∨ h0 ts a fz vs ns b = none := by
  by_cases h : b ∈ ts
  · exact .inl h
  · by_cases z : b = a ∧ fz = true
    · exact .inr (.inl ⟨h, z⟩)
    · exact .inr (.inr (h0_n h z))
end
/-- a body runs: one context -/
theorem enter {CX : CXT} {P : Program} {w : World} {K : PySem.W.Frag} {mg : Str → Option Value} {base : Heap} {k : Nat} {f : Addr} {name qual : Str} {params : Arguments} {body : List Stmt} {scope : Scope} {dV kV doc pm cdv ct oc : Value} {an od : Option Addr} {osl : Array (Option Value)} {N ps : List Str}
    {A : Around} {outer : List Env} {z : Shared} {H : Hp} {args : Args} {us : List Value} {vs : List V} {Q : VK} {E : XK} {t : TS}
    (lk : K.lookup f = some ⟨oc, od, .func (PySem.W.fnOf name qual params body scope dV kV doc pm an cdv ct), osl⟩) (cd : PySem.W.codeIn K cdv qual = true) (S : FnScope N ps scope) (hr : Room (k + 1) A) (e0 : Env0 P w K mg base A outer z H)
    (bi : BindsTo z (PySem.W.fnOf name qual params body scope dV kV doc pm an cdv ct) args (ps.zip us)) (rv : Vals vs us) (hl : vs.length = ps.length)
    (ht : PSs (cxOf CX P w K mg base N qual scope f cdv A outer z H E) body t) (hq : t { nx := fun _ H' => Q .non H', rt := Q } (start N vs) H) :
    codeAny (model P w) A (.call (.ref f) args) (CR CX outer P w H z Q E) z := by
  have kb : ∀ b o, base.get? b = some o → z.heap.get? b = some o := fun b o e => (e0.bs b o e).1
  have kz : K.In z.heap := e0.mod.kin.keeps kb
  refine codeAny_call_function hr.depth (kz _ _ lk) rfl S.co S.gen rfl (PySem.W.codeRec_of kz cd) (bi _ _ _ _ ?_)
  refine wpAny_newFunctionEnv_cells S.kind (fun y hy => ?_) fun env he z1 x => ?_
  · rcases S.par y.1 (List.of_mem_zip hy).1 with q | q
    · exact .inl q
    · exact .inr ⟨q, PySem.W.cellsFrom_some _ _ _ (.inl q)⟩
  subst he
  refine ⟨(e0.mod.nolimit.keeps kb).keeps x.toInCall.keep, codeAny_func (wpAny_mono (ht.run [] z1 (start N vs) H _ (inv_start S hr.hd e0 hl rv x) hq) (fun fl z' hs => ?_) fun e z' hs => hs)⟩
  cases fl with
  | ret u =>
    obtain ⟨v, _, H', J, r, q⟩ := hs
    exact ⟨v, H', J.os, J.bare, J.base, J.hok, r, q⟩
  | next =>
    obtain ⟨_, H', J, q⟩ := hs
    exact ⟨.non, H', J.os, J.bare, J.base, J.hok, rfl, q⟩
  | brk =>
    obtain ⟨_, _, _, q⟩ := hs
    exact q.elim
  | cont =>
    obtain ⟨_, _, _, q⟩ := hs
    exact q.elim
/-- the law is called -/
theorem law_callG {P : Program} {w : World} {K : PySem.W.Frag} {mg mb : Str → Option Value} {CX : CXT} {fa a : Addr} {cs : List (Addr × Addr)} {z : Shared} {vs : List Value} {ns : List Int}
    (kx : K.In z.heap) (gn : z.heap.Ns mainGlobals mg) (bn : z.heap.Ns builtinsNs mb) (bb : ∀ x : Str, x ≠ "__name__" → mb x = bootBuiltins x) (nl : z.heap.NoLimit) (g0 : z.gens = #[])
    (tb : ∀ p ∈ cs, z.heap.get? p.2 = some tabO) (tn : ∀ p ∈ cs, K.lookup p.2 = none) (ch : ∀ p ∈ cs, PySem.W.CodeHd z.heap p.1 p.2)
    (bm : ∃ (bm : Addr) (ob : Obj), mg "__builtins__" = some (.ref bm) ∧ bm ≠ builtinsNs ∧ z.heap.get? bm = some ob ∧ ob.cls = .type "module" ∧ ob.dict = some builtinsNs ∧ ob.data = .plain)
    (sc : z.heap.get? a = some (lstO vs)) (si : IntsAre vs ns) (sl : ns.length ≤ sizeLine)
    (run : ∀ (base : Heap) (H : Hp), K.In base → base.Ns mainGlobals mg → (∀ p ∈ cs, TabB base mg p.1 p.2) → (∀ p ∈ cs, H p.2 = some (.tbl #[])) → SqL K H a (ns.map V.int) → Env0 P w K mg base callerA [] z H →
      codeAny (model P w) callerA (.call (.ref fa) ⟨[.ref a], []⟩) (CR CX [] P w H z (fun v _ => v = .bl true) fun _ _ _ => False) z)
    (hCX : ∀ H e z', CX [] H z (fun _ _ _ => False) e z' → False) :
    codeAny (model P w) callerA (.call (.ref fa) ⟨[.ref a], []⟩) (fun r z' => r = .ok (.ret (.bool true)) ∧ OldK z.heap z'.heap ∧ z'.os = z.os ∧ AllBare z'.gens) z := by
  generalize hts : cs.map (·.2) = ts
  have inT : ∀ p ∈ cs, p.2 ∈ ts := fun p hp => hts ▸ List.mem_map.mpr ⟨p, hp, rfl⟩
  have ofT : ∀ b ∈ ts, ∃ p ∈ cs, p.2 = b := fun b hb => by
    rw [← hts] at hb
    exact List.mem_map.mp hb
  have tO : ∀ b ∈ ts, z.heap.get? b = some tabO := fun b hb => by
    obtain ⟨p, hp, rfl⟩ := ofT b hb
    exact tb p hp
  have aT : a ∉ ts := fun c => by
    have q := (tO a c).symm.trans sc
    have q2 : Data.fields #[] = Data.seq vs.toArray _ := congrArg Obj.data (Option.some.inj q)
    cases q2
  generalize hf : (K.lookup a).isNone = fz
  have rv := vals_ints si
  generalize eH : h0 ts a fz vs ns = H
  have Ht : ∀ b ∈ ts, H b = some (.tbl #[]) := fun b hb => eH ▸ h0_t hb
  have Ha : fz = true → H a = some (.frz (lstO vs) (.lst (ns.map V.int))) := fun c => eH ▸ h0_a aT c
  have Ho : ∀ b, b ∈ ts ∨ (b ∉ ts ∧ b = a ∧ fz = true) ∨ H b = none := fun b => eH ▸ h0_or
  have hS : SqL K H a (ns.map V.int) := by
    cases e : K.lookup a with
    | none => exact .inl (.inr ⟨_, Ha (by rw [← hf, e]; rfl)⟩)
    | some o =>
      have q := (kx a o e).symm.trans sc
      cases q
      exact .inr ⟨_, vs.toArray, _, e, rfl, rfl, rfl, by rw [List.size_toArray, si.length]; exact sl, by simpa using rv⟩
  have hok : HOk P w H z.heap := fun b o e => by
    rcases Ho b with c | ⟨_, rfl, c⟩ | c
    · rw [Ht b c] at e
      cases e
      exact tO b c
    · rw [Ha c] at e
      cases e
      exact ⟨sc, by rw [List.length_map]; exact sl, vs, _, rv, sc⟩
    · rw [c] at e
      cases e
  -- what isn't a table nor the script is in the ground
  have low : ∀ {b : Addr} {o : Obj}, z.heap.get? b = some o → (∀ x n, o.data ≠ .seq x n) → o.data ≠ .fields #[] → H b = none := fun {b o} e n1 n2 => by
    rcases Ho b with c | ⟨_, rfl, _⟩ | c
    · cases (tO b c).symm.trans e
      exact (n2 rfl).elim
    · cases sc.symm.trans e
      exact (n1 _ _ rfl).elim
    · exact c
  have nsG : ∀ {b : Addr} {m : Str → Option Value}, z.heap.Ns b m → (hidT z.heap H).Ns b m := fun {b m} ⟨o, es, ep, e, d, r⟩ =>
    ⟨o, es, ep, hidT_get e (low e (fun x n c => by rw [d] at c; cases c) fun c => by rw [d] at c; cases c), d, r⟩
  have kG : K.In (hidT z.heap H) := fun b o e => by
    refine hidT_get (kx b o e) ?_
    rcases Ho b with c | ⟨_, rfl, c⟩ | c
    · obtain ⟨p, hp, rfl⟩ := ofT b c
      rw [tn p hp] at e
      cases e
    · rw [← hf, e] at c
      cases c
    · exact c
  have TB : ∀ p ∈ cs, TabB (hidT z.heap H) mg p.1 p.2 := fun p hp => by
    refine ⟨?_, ?_, fun c => ?_⟩
    · obtain ⟨o, us, x1, x2, x3, x4, x5, x6, x7, e, r1, r2, r3, r⟩ := ch p hp
      refine ⟨o, us, x1, x2, x3, x4, x5, x6, x7, hidT_get e (low e (fun x n c => by rw [r2] at c; cases c) fun c => ?_), r1, r2, r3, r⟩
      rw [r2] at c
      cases c
      simp at r3
    · obtain ⟨m, ob, b1, b2, b3, b4, b5, b6⟩ := bm
      refine ⟨m, ob, b1, b2, fun c => ?_, fun c => ?_, hidT_get b3 (low b3 (fun x n c => by rw [b6] at c; cases c) fun c => by rw [b6] at c; cases c), b4, b5, b6⟩
      · obtain ⟨o, es, ep, e, d, _⟩ := gn
        rw [c] at b3
        cases b3.symm.trans e
        rw [b6] at d
        cases d
      · rw [c] at b3
        cases b3.symm.trans (tb p hp)
        cases b6
    · obtain ⟨o, es, ep, e, d, _⟩ := gn
      rw [c] at e
      cases e.symm.trans (tb p hp)
      cases d
  have e0 : Env0 P w K mg (hidT z.heap H) callerA [] z H :=
    { frames := rfl, mod := ⟨kG, nsG gn, ⟨mb, nsG bn, bb⟩, nl.elim fun mc q => ⟨mc, nsG q.1, q.2⟩⟩, bs := fun b o e => of_hidT e, bsz := Nat.le_of_eq (hidT_size _ _), funs := trivial, frf := (fun b (c : b ∈ ([] : List Addr)) => (List.not_mem_nil c).elim), hok := hok, bare := .of_eq g0 }
  refine codeAny_mono (run _ H kG (nsG gn) TB (fun p hp => Ht _ (inT p hp)) hS e0) fun r z' q => ?_
  cases r with
  | error e => exact (hCX H e z' q).elim
  | ok fl =>
    cases fl with
    | next => exact q.elim
    | brk => exact q.elim
    | cont => exact q.elim
    | ret u =>
      obtain ⟨v, H', os, ba, un, ok', r, e⟩ := q
      have e : v = .bl true := e
      subst e
      obtain rfl : u = Value.bool true := r
      have same : ∀ b o, b ∉ ts → z.heap.get? b = some o → z'.heap.get? b = some o := fun b o nb e => by
        rcases Ho b with c | ⟨_, rfl, c⟩ | c
        · exact (nb c).elim
        · have q1 := (ok' b _ (un.frzs b _ _ (Ha c))).1
          cases sc.symm.trans e
          exact q1
        · exact un.keep b o e c (fun d => by cases d) fun d => by cases d
      have more : ∀ b ∈ ts, ∃ xs : Array Value, z'.heap.get? b = some { cls := .none, data := .fields xs } := fun b hb => by
        obtain ⟨m, q⟩ := un.tbls b #[] (Ht b hb)
        exact ⟨_, ok' b _ q⟩
      refine ⟨rfl, ⟨fun b o e => ?_, fun b o e => ?_⟩, os, ba⟩
      · by_cases c : b ∈ ts
        · obtain ⟨xs, q⟩ := more b c
          cases (tO b c).symm.trans e
          obtain ⟨p, hp, rfl⟩ := ofT b c
          exact .inr (.inl ⟨((ch p hp).tab (tb p hp)).isCodeTable, rfl, #[], xs, rfl, by rw [Array.empty_append]; exact q⟩)
        · exact .inl (same b o c e)
      · by_cases c : b ∈ ts
        · obtain ⟨xs, q⟩ := more b c
          exact ⟨_, q⟩
        · exact ⟨o, same b o c e⟩
/-- each of these defs has an empty table -/
def Tabs (nms : List Str) (K : PySem.W.Frag) (mg : Str → Option Value) (h : Heap) : Prop := ∀ nm ∈ nms, ∀ f, mg nm = some (.ref f) → LamX.OwnTab K f h
/-- the law, at the head's heap h -/
def LawAtG (l : PySem.W.OpenLaw) (w : World) (K : PySem.W.Frag) (CX : CXT) (n : Nat) (mg : Str → Option Value) (fa : Addr) (h : Heap) : Prop :=
  ∃ cs : List (Addr × Addr), (∀ p ∈ cs, h.get? p.2 = some tabO) ∧ (∀ p ∈ cs, K.lookup p.2 = none) ∧ (∀ p ∈ cs, PySem.W.CodeHd h p.1 p.2) ∧
    ∀ (base : Heap) (H : Hp) (z : Shared) (a : Addr) (ns : List Int), K.In base → base.Ns mainGlobals mg → (∀ p ∈ cs, TabB base mg p.1 p.2) → (∀ p ∈ cs, H p.2 = some (.tbl #[])) → SqL K H a (ns.map V.int) → ns.length ≤ n → (∀ i ∈ ns, Builtin.Int.intBits i ≤ 1048576) → Env0 l.prog w K mg base callerA [] z H →
      codeAny (model l.prog w) callerA (.call (.ref fa) ⟨[.ref a], []⟩) (CR CX [] l.prog w H z (fun v _ => v = .bl true) fun _ _ _ => False) z
theorem walkG {l : PySem.W.OpenLaw} {n : Nat} {q : Program} {loose : List Str} {XP : (Str → Option Value) → Heap → Prop} {YP : World → Heap → Prop} {d : DefRec} {K : Params → PySem.W.Frag} {CX : World → CXT} (nms : List Str)
    (hn : l.most = some n) (hn2 : n ≤ sizeLine) (hdf : d.params.defaults = []) (hrec : (nms.all fun nm => (recsOf q).any fun e => e.name == nm) = true) (hY : ∀ (w : World) (h : Heap), YP w h → (K w.params).In h)
    (F : ∀ (w : World) (mg : Str → Option Value) (fa : Addr) (h : Heap), YP w h → (K w.params).In h → h.Ns mainGlobals mg → mg d.name = some (.ref fa) → Tabs nms (K w.params) mg h → LawAtG l w (K w.params) (CX w) n mg fa h)
    (hCX : ∀ (w : World) (H : Hp) (s : Shared) (e : Value) (s' : Shared), CX w [] H s (fun _ _ _ => False) e s' → False) :
    PySem.W.WalkO q loose XP YP l.row.toRowW d [] (fun f vs => PySem.call f vs) := by
  refine Att.attach_callB hn hdf fun w _ z mg mb fa _ _ _ _ a vs ns G Y _ _ _ hmg hobj hints hlen hbits hg => ?_
  have kx := hY w _ Y
  have own : Tabs nms (K w.params) mg z.heap := fun nm hm f hf c P o fd e dd us sl k1 k2 k3 k4 k5 => by
    obtain ⟨r, hr, he⟩ := List.any_eq_true.mp (List.all_eq_true.mp hrec nm hm)
    obtain ⟨_, _, _, _, _, h1, h2, h3, h4, _, ⟨_, _, e1, _, e3, e4⟩, hP⟩ := G.T.tab r hr
    rw [beq_iff_eq.mp he, hf] at h1
    cases h1
    cases (kx _ _ k1).symm.trans h2
    cases k2.symm.trans h3
    cases k3.symm.trans h4
    cases (kx _ _ k4).symm.trans e1
    cases e3
    cases k5.symm.trans e4
    exact hP
  obtain ⟨cs, t1, t2, t3, run⟩ := F w mg fa _ Y kx G.T.g hmg own
  exact law_callG kx G.T.g G.T.b G.T.builtins G.T.nolimit hg t1 t2 t3 G.T.bmain hobj hints (Nat.le_trans hlen hn2) (fun base H x1 x2 x3 x4 x5 x6 => run base H z a ns x1 x2 x3 x4 x5 hlen hbits x6) fun H e z' => hCX w H z e z'
end EndG
set_option Elab.async false
set_option linter.all false
set_option maxRecDepth 100000
set_option maxHeartbeats 4000000
namespace Eh
open PySem PySem.Spec PyProof.Rows L2 Evl GxR Gx
abbrev nTold : List Str := ["sheet", "great", "letter"]
theorem scTold : FnScope nTold ["sheet", "great"] (defScope sTold) := ⟨rfl, rfl, rfl, by decide +kernel, rfl, by decide +kernel, by decide +kernel⟩
abbrev nLaw : List Str := ["script", "pot", "sheet", "turn", "few", "word", "due", "great", "before", "letter"]
theorem scLaw : FnScope nLaw ["script"] (defScope sLaw) := ⟨rfl, rfl, rfl, by decide +kernel, rfl, by decide +kernel, by decide +kernel⟩
theorem GAt.letters {os ls qs : List Str} {H : Hp} : ∀ (n : Nat) (v : V) (W : List Str), GAt os ls qs H n v W → ∀ x ∈ W, x ∈ os ++ ls ++ qs
  | 0, _, _, h => h.elim
  | n + 1, v, W, ⟨t, xs, ps, Ws, e, ht, hg⟩ => by
    cases hg with
    | word hu hl hm hb => exact hm
    | row hu hr hl =>
      intro x hx
      obtain ⟨w, hw, hx⟩ := List.mem_flatten.mp hx
      obtain ⟨v, hv⟩ := All2.mem _ _ hr w hw
      exact GAt.letters n v w hv x hx
    | again hk hr =>
      intro x hx
      obtain ⟨w, hw, hx⟩ := List.mem_flatten.mp hx
      rw [List.eq_of_mem_replicate hw] at hx
      exact GAt.letters n _ _ hr x hx
    | wrap hk ha hc hr =>
      intro x hx
      rcases List.mem_append.mp hx with hx | hx
      · rcases List.mem_append.mp hx with hx | hx
        · rw [List.eq_of_mem_replicate hx]
          exact List.mem_append.mpr (.inl (List.mem_append.mpr (.inl ha)))
        · exact GAt.letters n _ _ hr x hx
      · rw [List.eq_of_mem_replicate hx]
        exact List.mem_append.mpr (.inr hc)
def spEx (sp : List Str → List Str → List Str → Sp) : Sp := fun vs H Q E => ∃ os ls qs, sp os ls qs vs H Q E
def spTold (K : PySem.W.Frag) (os ls qs : List Str) (n : Nat) : Sp := fun vs H Q _ => ∃ (s : Addr) (v : V) (W : List Str), vs = [.ref s, v] ∧ Sht os ls qs ∧ SheetAt H s os ls qs ∧ GAt os ls qs H n v W ∧ n ≤ 20 ∧ RetL ((szs os ls qs W).map nV) H Q
theorem told_eq (os ls qs W : List Str) : [V.int (W.length : Int), V.int (dpt os qs W : Int)] ++ given ((os ++ ls ++ qs).map V.str).length (fun _ => true) (fun i => nV (W.count ((os ++ ls ++ qs).getD i ""))) = (szs os ls qs W).map nV := by
  have := word_eq os ls qs W
  rw [List.length_map] at this
  exact this
theorem nat_atoms (ns : List Nat) : (ns.map nV).all atom = true := by
  rw [List.all_eq_true]
  intro v hv
  obtain ⟨n, _, rfl⟩ := List.mem_map.mp hv
  rfl
theorem szs_small {os ls qs : List Str} (hS : Sht os ls qs) (W : List Str) : ((szs os ls qs W).map nV).length ≤ 10000 := by
  rw [List.length_map, szs_len]
  have := sht_len hS
  omega
theorem ev_same {σ : L2.St} {H : Hp} {ta tb : TE} {xs : List V} {d : Addr} {E : XK} (ha : EvL ta σ H xs) (hb : Ev tb σ H (.ref d)) (hd : H d = some (.lst xs)) (at_ : xs.all atom = true) (hl : xs.length ≤ 10000) : Ev (tCall spSame1 [] E (tCons ta (tCons tb tNil))) σ H (.bl true) := fun H1 e Q q =>
  ha H1 e _ fun p H2 np e2 h2 => hb H2 (e.trans e2) _ fun H3 e3 => ⟨p, d, xs, rfl, e3 _ _ h2, ((e.trans e2).trans e3) _ _ hd, at_, hl, fun H4 e4 => q H4 ((e2.trans e3).trans e4)⟩
theorem ev_sameL {σ : L2.St} {H : Hp} {ta tb : TE} {xs : List V} {E : XK} (ha : EvL ta σ H xs) (hb : EvL tb σ H xs) (at_ : xs.all atom = true) (hl : xs.length ≤ 10000) : Ev (tCall spSame1 [] E (tCons ta (tCons tb tNil))) σ H (.bl true) := fun H1 e Q q =>
  ha H1 e _ fun p H2 np e2 h2 => hb H2 (e.trans e2) _ fun d H3 nd e3 h3 => ⟨p, d, xs, rfl, e3 _ _ h2, h3, at_, hl, fun H4 e4 => q H4 ((e2.trans e3).trans e4)⟩
section
variable {P : Program} {w : World} {K : PySem.W.Frag} {mg : Str → Option Value} {base : Heap}
theorem fn_ex {CX : CXT} {k : Nat} {f : Addr} {fd : FuncData} {ps : List Str} {sp : List Str → List Str → List Str → Sp} (h : ∀ os ls qs, FnOk P w K mg base CX k f fd ps (sp os ls qs)) : FnOk P w K mg base CX k f fd ps (spEx sp) := ⟨fun _ _ _ _ ⟨os, ls, qs, z⟩ => (h os ls qs).1 _ _ _ _ z, fun _ _ _ _ _ _ _ _ a b c d e ⟨os, ls, qs, z⟩ => (h os ls qs).2 _ _ _ _ _ _ _ _ a b c d e z⟩
theorem ok_told {os ls qs : List Str} {n : Nat} {f flength_of fdeepest_of fmany_of forder : Addr} {fd dlength_of ddeepest_of dmany_of dorder : FuncData} {k : Nat} (F : Fun K "_law_told" "_law_told" sTold f fd) (Flength_of : Fun K "length_of" "length_of" sLengthOf flength_of dlength_of) (Glength_of : FnOk P w K mg base CX0 (k + 1) flength_of dlength_of ["great"] (spLen os ls qs n)) (blength_of : Binds K dlength_of ["great"] []) (glength_of : mg "length_of" = some (.ref flength_of)) (Fdeepest_of : Fun K "deepest_of" "deepest_of" sDeepestOf fdeepest_of ddeepest_of) (Gdeepest_of : FnOk P w K mg base CX0 (k + 1) fdeepest_of ddeepest_of ["sheet", "great"] (spDeepest os ls qs n)) (bdeepest_of : Binds K ddeepest_of ["sheet", "great"] []) (gdeepest_of : mg "deepest_of" = some (.ref fdeepest_of)) (Fmany_of : Fun K "many_of" "many_of" sManyOf fmany_of dmany_of) (Gmany_of : FnOk P w K mg base CX0 (k + 1) fmany_of dmany_of ["great", "letter"] (spMany os ls qs n)) (bmany_of : Binds K dmany_of ["great", "letter"] []) (gmany_of : mg "many_of" = some (.ref fmany_of)) (Forder : Fun K "_law_order" "_law_order" sOrder forder dorder) (Gorder : FnOk P w K mg base CX0 (k + 1) forder dorder ["sheet"] spOrder) (border : Binds K dorder ["sheet"] []) (gorder : mg "_law_order" = some (.ref forder)) : FnOk P w K mg base CX0 (k + 2) f fd ["sheet", "great"] (spTold K os ls qs n) := by
  have nd := scTold.nd
  refine F.ok scTold (fun vs H Q E h => ?_) (fun cdv A outer s H vs Q E hr h => ?_)
  · obtain ⟨s, v, W, rfl, _⟩ := h
    rfl
  · obtain ⟨s, v, W, rfl, hS, hs, hG, hn, q⟩ := h
    refine ⟨_, (pss_one (ps_ret (pe_op op_cat (pe_lst (pa_cons (pe_call Glength_of hr (by rfl) glength_of Flength_of.kp blength_of .nil pass0 (pa_cons (pv 1) pa_nil)) (pa_cons (pe_call Gdeepest_of hr (by rfl) gdeepest_of Fdeepest_of.kp bdeepest_of .nil pass0 (pa_cons (pv 0) (pa_cons (pv 1) pa_nil))) pa_nil))) (pe_lc (own := [("letter", 2)]) (g := gName 2) (tt := tYes) (te := (tCall (spMany os ls qs n) [] E0 (tCons (tVar 1) (tCons (tVar 2) tNil)))) rfl nd (pi_list (pe_call Gorder hr (by rfl) gorder Forder.kp border .nil pass0 (pa_cons (pv 0) pa_nil))) (blkOk_by (own := [("letter", 2)]) (N := nTold) (sc := defScope sTold) (by decide +kernel)) (fun _ _ _ _ _ => pg_name (i := 2) nd rfl (.inl rfl)) (fun _ _ _ _ _ => pts_nil) (fun _ _ _ _ _ => (pe_call Gmany_of hr (by rfl) gmany_of Fmany_of.kp bmany_of .nil pass0 (pa_cons (pv 1) (pa_cons (pv 2) pa_nil)))))))), ?_⟩
    have l12 := sht_len hS
    refine s_retL (xs := (szs os ls qs W).map nV) (el_is (el_cat (el_lst (ea_cons (ev_call (ea_cons (ev_var rfl) ea_nil) fun H2 e2 Q q E => ⟨v, W, rfl, hG.ex e2, hn, fun H3 e3 => q H3 e3⟩) (ea_cons (ev_call (ea_cons (ev_var rfl) (ea_cons (ev_var rfl) ea_nil)) fun H2 e2 Q q E => ⟨s, v, W, rfl, hS, hs.ex e2, hG.ex e2, hn, fun H3 e3 => q H3 e3⟩) ea_nil)) (by show 2 ≤ 100000; decide))
      (el_lcNL (xs := (os ++ ls ++ qs).map V.str) (fun _ => true) (fun i => nV (W.count ((os ++ ls ++ qs).getD i ""))) (el_call (ea_cons (ev_var rfl) ea_nil) fun H2 e2 Q q E => ⟨s, os, ls, qs, rfl, hS, hs.ex e2, fun l H' e n h => q l H' n e h⟩) (by rw [List.length_map]; omega) (fun x => rfl) (fun i x H4 e4 hi => ev_yes) (fun i x H4 e4 hi _ => ?_)) ?_) (told_eq os ls qs W)) fun p H4 n4 e4 h4 => q p H4 n4 e4 h4
    · obtain ⟨y, hy, rfl⟩ : ∃ y, (os ++ ls ++ qs)[i]? = some y ∧ x = .str y := by
        rw [List.getElem?_map] at hi
        cases e : (os ++ ls ++ qs)[i]? with
        | none => rw [e] at hi; cases hi
        | some z => rw [e] at hi; exact ⟨z, rfl, (Option.some.inj hi).symm⟩
      rw [List.getD_eq_getElem?_getD, hy]
      exact ev_call (ea_cons (ev_var rfl) (ea_cons (ev_var rfl) ea_nil)) fun H5 e5 Q q E => ⟨v, y, W, rfl, hG.ex (e4.trans e5), hn, fun H6 e6 => q H6 e6⟩
    · simp only [given_true, List.length_map, List.length_range]
      show 2 + _ ≤ 10000
      omega
theorem law_run {f fpot fsheet fgreat fwrite fdepth forder fsame ftold fsizes ften_deep fwide_great : Addr} {fd dpot dsheet dgreat dwrite ddepth dorder dsame dtold dsizes dten_deep dwide_great : FuncData} {k : Nat} (F : Fun K "law" "law" sLaw f fd)
    (Fpot : Fun K "_law_pot" "_law_pot" sPot fpot dpot) (Gpot : FnOk P w K mg base CX0 k fpot dpot ["script"] (spPot K)) (bpot : Binds K dpot ["script"] []) (gpot : mg "_law_pot" = some (.ref fpot))
    (Fsheet : Fun K "_law_sheet" "_law_sheet" sSheet fsheet dsheet) (Gsheet : FnOk P w K mg base CX0 k fsheet dsheet ["pot", "most"] spSheet) (bsheet : Binds K dsheet ["pot", "most"] []) (gsheet : mg "_law_sheet" = some (.ref fsheet))
    (Fgreat : Fun K "_law_great" "_law_great" sLawGreat fgreat dgreat) (Ggreat : FnOk P w K mg base CX0 k fgreat dgreat ["pot", "sheet", "deep", "big"] (spGreat 4)) (bgreat : Binds K dgreat ["pot", "sheet", "deep", "big"] []) (ggreat : mg "_law_great" = some (.ref fgreat))
    (Fwrite : Fun K "_law_write" "_law_write" sLawWrite fwrite dwrite) (Gwrite : FnOk P w K mg base CX0 k fwrite dwrite ["great"] (spEx fun os ls qs => spWrite os ls qs 10)) (bwrite : Binds K dwrite ["great"] []) (gwrite : mg "_law_write" = some (.ref fwrite))
    (Fdepth : Fun K "_law_depth" "_law_depth" sLawDepth fdepth ddepth) (Gdepth : FnOk P w K mg base CX0 k fdepth ddepth ["sheet", "word"] (spDepthOf K)) (bdepth : Binds K ddepth ["sheet", "word"] []) (gdepth : mg "_law_depth" = some (.ref fdepth))
    (Forder : Fun K "_law_order" "_law_order" sOrder forder dorder) (Gorder : FnOk P w K mg base CX0 k forder dorder ["sheet"] spOrder) (border : Binds K dorder ["sheet"] []) (gorder : mg "_law_order" = some (.ref forder))
    (Fsame : Fun K "_law_same" "_law_same" sSame fsame dsame) (Gsame : FnOk P w K mg base CX0 k fsame dsame ["found", "due"] spSame1) (bsame : Binds K dsame ["found", "due"] []) (gsame : mg "_law_same" = some (.ref fsame))
    (Ftold : Fun K "_law_told" "_law_told" sTold ftold dtold) (Gtold : FnOk P w K mg base CX0 k ftold dtold ["sheet", "great"] (spEx fun os ls qs => spTold K os ls qs 10)) (btold : Binds K dtold ["sheet", "great"] []) (gtold : mg "_law_told" = some (.ref ftold))
    (Fsizes : Fun K "_law_sizes" "_law_sizes" sLawSizes fsizes dsizes) (Gsizes : FnOk P w K mg base CX0 k fsizes dsizes ["sheet", "great"] (spEx fun os ls qs => spSizes K os ls qs 10)) (bsizes : Binds K dsizes ["sheet", "great"] []) (gsizes : mg "_law_sizes" = some (.ref fsizes))
    (Ften_deep : Fun K "_law_ten_deep" "_law_ten_deep" sLawTenDeep ften_deep dten_deep) (Gten_deep : FnOk P w K mg base CX0 k ften_deep dten_deep ["pot", "sheet"] spTen) (bten_deep : Binds K dten_deep ["pot", "sheet"] []) (gten_deep : mg "_law_ten_deep" = some (.ref ften_deep))
    (Fwide_great : Fun K "_law_wide_great" "_law_wide_great" sLawWideGreat fwide_great dwide_great) (Gwide_great : FnOk P w K mg base CX0 k fwide_great dwide_great ["pot", "sheet"] (spMade 3)) (bwide_great : Binds K dwide_great ["pot", "sheet"] []) (gwide_great : mg "_law_wide_great" = some (.ref fwide_great))
    (mlen : mg "len" = none) (mrange : mg "range" = none) (mrepr : mg "repr" = none) (hk : Room (k + 1) callerA)
    {z : Shared} {H : Hp} {a : Addr} {ns : List Int} (bi : ∀ (s : Shared) (u : Value), BindsTo s fd ⟨[u], []⟩ [("script", u)]) (e0 : Env0 P w K mg base callerA [] z H) (hA : SqL K H a (ns.map V.int)) (hns : ns.length ≤ 63) :
    codeAny (model P w) callerA (.call (.ref f) ⟨[.ref a], []⟩) (CR CX0 [] P w H z (fun v _ => v = .bl true) fun _ _ _ => False) z := by
  obtain ⟨oc, od, kV, doc, pm, an, cdv, ct, osl, rfl, h1, h2⟩ := F.ex
  have hr := hk.deeper (envOfC "law" (defScope sLaw) z.heap.objs.size f cdv)
  have nd := scLaw.nd
  have body : ∃ t, PSs (cxOf CX0 P w K mg base nLaw "law" (defScope sLaw) f cdv callerA [] z H fun _ _ _ => False).nox (defBody sLaw) t ∧ t { nx := fun _ H' => (fun (v : V) (_ : Hp) => v = .bl true) .non H', rt := fun v _ => v = .bl true } (start nLaw [.ref a]) H := by
    refine ⟨_, (pss_cons (ps_set (i := 1) nd rfl (.inl rfl) (pe_call Gpot hr (by rfl) gpot Fpot.kp bpot .nil pass0 (pa_cons (pv 0) pa_nil)))
      (pss_cons (ps_set (i := 2) nd rfl (.inl rfl) (pe_call Gsheet hr (by rfl) gsheet Fsheet.kp bsheet .nil pass0 (pa_cons (pv 1) (pa_cons pe_int pa_nil))))
      (pss_cons (ps_for PassesOwn.never rfl (pi_range1 (by rfl) mrange (pa_cons pe_int pa_nil)) (pg_name (i := 3) nd rfl (.inl rfl)) (pss_cons (ps_set (i := 4) nd rfl (.inl rfl) (pe_call Ggreat hr (by rfl) ggreat Fgreat.kp bgreat .nil pass0 (pa_cons (pv 1) (pa_cons (pv 2) (pa_cons pe_int (pa_cons pe_bl pa_nil))))))
      (pss_cons (ps_set (i := 5) nd rfl (.inr rfl) (pe_call Gwrite hr (by rfl) gwrite Fwrite.kp bwrite .nil pass0 (pa_cons (pv 4) pa_nil)))
      (pss_cons (ps_set (i := 6) nd rfl (.inl rfl) (pe_op op_cat (pe_lst (pa_cons (pe_callB call_len_seq (by rfl) mlen PySem.boot_len (pa_cons (pv 5) pa_nil)) (pa_cons (pe_call Gdepth hr (by rfl) gdepth Fdepth.kp bdepth .nil pass0 (pa_cons (pv 2) (pa_cons (pv 5) pa_nil))) pa_nil))) (pe_lc (own := [("letter", 9)]) (g := gName 9) (tt := tYes) (te := tBM K "list" (rCntS K) (tVar 5) (tCons (tVar 9) tNil)) rfl nd (pi_list (pe_call Gorder hr (by rfl) gorder Forder.kp border .nil pass0 (pa_cons (pv 2) pa_nil))) (blkOk_by (own := [("letter", 9)]) (N := nLaw) (sc := defScope sLaw) (by decide +kernel)) (fun _ _ _ _ _ => pg_name (i := 9) nd rfl (.inl rfl)) (fun _ _ _ _ _ => pts_nil) (fun _ _ _ _ _ => (pe_bm PySem.F.plainAttrs_list PySem.F.slot_list_count PySem.F.type_list_count (mt_cntS hr.units) (pv 5) (pa_cons (pv 9) pa_nil))))))
      (pss_cons (ps_if (pt_not (pt_val (pe_call Gsame hr (by rfl) gsame Fsame.kp bsame .nil pass0 (pa_cons (pe_call Gtold hr (by rfl) gtold Ftold.kp btold .nil pass0 (pa_cons (pv 2) (pa_cons (pv 4) pa_nil))) (pa_cons (pv 6) pa_nil))))) (pss_one (ps_ret pe_bl)) pss_nil)
      (pss_one (ps_for PassesOwn.never rfl (pi_list (pe_lst (pa_cons (pv 4) (pa_cons (pe_call Ggreat hr (by rfl) ggreat Fgreat.kp bgreat .nil pass0 (pa_cons (pv 1) (pa_cons (pv 2) (pa_cons pe_int (pa_cons pe_bl pa_nil))))) (pa_cons (pe_call Gten_deep hr (by rfl) gten_deep Ften_deep.kp bten_deep .nil pass0 (pa_cons (pv 1) (pa_cons (pv 2) pa_nil))) pa_nil))))) (pg_name (i := 7) nd rfl (.inl rfl)) (pss_cons (ps_set (i := 8) nd rfl (.inl rfl) (pe_callB (call_repr hr rfl) (by rfl) mrepr (by decide +kernel) (pa_cons (pv 7) pa_nil)))
      (pss_cons (ps_set (i := 6) nd rfl (.inl rfl) (pe_call Gsizes hr (by rfl) gsizes Fsizes.kp bsizes .nil pass0 (pa_cons (pv 2) (pa_cons (pv 7) pa_nil))))
      (pss_one (ps_if (PW.pt (pw_or (pt_not (pt_val (pe_call Gsame hr (by rfl) gsame Fsame.kp bsame .nil pass0 (pa_cons (pe_call Gtold hr (by rfl) gtold Ftold.kp btold .nil pass0 (pa_cons (pv 2) (pa_cons (pv 7) pa_nil))) (pa_cons (pv 6) pa_nil))))) (pw_or1 (pt_cmpR op_ne (pe_callB (call_repr hr rfl) (by rfl) mrepr (by decide +kernel) (pa_cons (pv 7) pa_nil)) (pv 8) (nomark _))))) (pss_one (ps_ret pe_bl)) pss_nil)))))))))))
      (pss_cons (ps_set (i := 2) nd rfl (.inl rfl) (pe_call Gsheet hr (by rfl) gsheet Fsheet.kp bsheet .nil pass0 (pa_cons (pv 1) (pa_cons pe_int pa_nil))))
      (pss_cons (ps_set (i := 7) nd rfl (.inl rfl) (pe_call Gwide_great hr (by rfl) gwide_great Fwide_great.kp bwide_great .nil pass0 (pa_cons (pv 1) (pa_cons (pv 2) pa_nil))))
      (pss_one (ps_ret (pe_call Gsame hr (by rfl) gsame Fsame.kp bsame .nil pass0 (pa_cons (pe_call Gtold hr (by rfl) gtold Ftold.kp btold .nil pass0 (pa_cons (pv 2) (pa_cons (pv 7) pa_nil))) (pa_cons (pe_call Gsizes hr (by rfl) gsizes Fsizes.kp bsizes .nil pass0 (pa_cons (pv 2) (pa_cons (pv 7) pa_nil))) pa_nil)))))))))), ?_⟩
    refine ⟨_, rfl, a, ns, rfl, hA, hns, fun p c ms H1 e1 hP1 np nc => ?_⟩
    refine ⟨_, rfl, p, c, ms, 2, rfl, by decide, by decide, hP1, fun os ls qs sh H2 hS hs2 kp2 hP2 => ?_⟩
    have l12 := sht_len hS
    refine ⟨3, rfl, by decide, by decide, for_range (lo := 0) (n := 3) (fun i σ H' => (∃ y3 y4 y5 y6 y7 y8 y9, σ = [some (.ref a), some (.ref p), some (.ref sh), y3, y4, y5, y6, y7, y8, y9]) ∧ SheetAt H' sh os ls qs ∧ Pot p c ms H') ⟨⟨_, _, _, _, _, _, _, rfl⟩, hs2, hP2⟩ ?_ ?_⟩
    · rintro i σ H3 hi ⟨⟨y3, y4, y5, y6, y7, y8, y9, rfl⟩, hs3, hP3⟩
      refine ⟨_, rfl, _, rfl, p, c, sh, ms, os, ls, qs, 2, false, rfl, by decide, hP3, hS, hs3, fun v W H4 hv hW kp4 hP4 => ?_⟩
      have hs4 := hs3.keep hP3 kp4
      have hW54 : W.length ≤ 54 := hW rfl
      have hv10 : GAt os ls qs H4 10 v W := hv.le (by decide)
      refine ⟨_, rfl, os, ls, qs, v, W, rfl, hv10, by decide, by omega, fun wl H5 nwl e5 hwl => ?_⟩
      have hs5 := hs4.ex e5
      have hv5 := hv10.ex e5
      show tSeq _ _ _ [some (.ref a), some (.ref p), some (.ref sh), some (.int ((0 : Int) + (i : Int))), some v, some (.ref wl), y6, y7, y8, y9] H5
      refine q_asgL (xs := (szs os ls qs W).map nV) (el_is (el_cat (el_lst (ea_cons (ev_len (ev_var rfl) (sq_of hwl)) (ea_cons (ev_call (ea_cons (ev_var rfl) (ea_cons (ev_var rfl) ea_nil)) fun H6 e6 Q q E => ⟨sh, wl, os, ls, qs, W, rfl, hS, hs5.ex e6, sq_of (e6 _ _ hwl), GAt.letters _ _ _ hv10, by omega, GAt.shut hS _ _ _ hv10, fun H7 e7 => q H7 e7⟩) ea_nil)) (by show 2 ≤ 100000; decide))
        (el_lcNL (xs := (os ++ ls ++ qs).map V.str) (fun _ => true) (fun i => nV (W.count ((os ++ ls ++ qs).getD i ""))) (el_call (ea_cons (ev_var rfl) ea_nil) fun H2 e2 Q q E => ⟨sh, os, ls, qs, rfl, hS, hs5.ex e2, fun l H' e n h => q l H' n e h⟩) (by rw [List.length_map]; omega) (fun x => rfl) (fun i x H4 e4 hi => ev_yes) (fun i x H6 e6 hi _ => ?_)) ?_) (word_eq os ls qs W)) fun dl H6 n6 e6 h6 => ?_
      · obtain ⟨y, hy, rfl⟩ : ∃ y, (os ++ ls ++ qs)[i]? = some y ∧ x = .str y := by
          rw [List.getElem?_map] at hi
          cases e : (os ++ ls ++ qs)[i]? with
          | none => rw [e] at hi; cases hi
          | some z => rw [e] at hi; exact ⟨z, rfl, (Option.some.inj hi).symm⟩
        rw [List.getD_eq_getElem?_getD, hy]
        exact fun H7 e7 Q q => ⟨_, rfl, .inl ⟨rfl, _, sq_of (e7 _ _ (e6 _ _ hwl))⟩, _, rfl, wl, W, y, rfl, rfl, sq_of (e7 _ _ (e6 _ _ hwl)), q H7 (Ex.refl H7)⟩
      · simp only [given_true, List.length_map, List.length_range]
        show 2 + _ ≤ 10000
        omega
      have hs6 := hs5.ex e6
      have hP6 := (hP4.ex e5).ex e6
      have hv6 := hv5.ex e6
      refine q_when (et_not (et_test (ev_same (el_call (ea_cons (ev_var rfl) (ea_cons (ev_var rfl) ea_nil)) fun H7 e7 Q q E => ⟨os, ls, qs, sh, v, W, rfl, hS, hs6.ex e7, hv6.ex e7, by decide, fun l H' n e h => q l H' n e h⟩) (ev_var rfl) h6 (nat_atoms _) (szs_small hS W)))) (fun h => absurd h (by decide)) fun _ H7 e7 => ?_
      have hs7 := hs6.ex e7
      have hP7 := hP6.ex e7
      refine ⟨_, rfl, _, rfl, _, rfl, p, c, sh, ms, os, ls, qs, 3, true, rfl, by decide, hP7, hS, hs7, fun v2 W2 H8 hv2 _ kp8 hP8 => ⟨_, rfl, _, rfl, p, c, sh, ms, os, ls, qs, rfl, hP8, hS, hs7.keep hP7 kp8, fun v3 W3 H9 hv3 kp9 hP9 => ⟨by show 3 ≤ sizeLine; decide, fun gl ngl => ?_⟩⟩⟩
      have x10 := Ex.new (o := .lst [v, v2, v3]) ngl
      have hgl : upd H9 gl (.lst [v, v2, v3]) gl = some (.lst [v, v2, v3]) := upd_same
      have hs10 := ((hs7.keep hP7 kp8).keep hP8 kp9).ex x10
      have hP10 := hP9.ex x10
      have hgs : ∀ (j : Nat) (x : V), ([v, v2, v3] : List V)[j]? = some x → ∃ W d, GAt os ls qs (upd H9 gl (.lst [v, v2, v3])) 10 x W ∧ DG (upd H9 gl (.lst [v, v2, v3])) x d ∧ Gr 20 d ∧ wtd d ≤ 50000 := fun j x hx => by
        have four : ∀ {H : Hp} {x : V} {W : List Str} {n : Nat}, n ≤ 4 → GAt os ls qs H n x W → ∃ W d, GAt os ls qs H 10 x W ∧ DG H x d ∧ Gr 20 d ∧ wtd d ≤ 50000 := fun {H x W n} hn g => by
          obtain ⟨d, d1, d2, d3⟩ := GAt.dg hS 4 x W (g.le hn)
          exact ⟨W, d, g.le (by omega), d1, d2.mono (by decide), Nat.le_trans d3 (by decide)⟩
        have up : ∀ {H H' : Hp} {x : V}, Kt H H' → (∃ W d, GAt os ls qs H 10 x W ∧ DG H x d ∧ Gr 20 d ∧ wtd d ≤ 50000) → ∃ W d, GAt os ls qs H' 10 x W ∧ DG H' x d ∧ Gr 20 d ∧ wtd d ≤ 50000 := fun {H H' x} k ⟨W, d, g, d1, d2, d3⟩ => ⟨W, d, GAt.keep k _ _ _ g, d1.kt k, d2, d3⟩
        match j, hx with
        | 0, hx =>
          cases hx
          exact up (Kt.ex x10) (up (hP8.kt kp9) (up (hP7.kt kp8) (up (Kt.ex ((e5.trans e6).trans e7)) (four (by decide) hv))))
        | 1, hx =>
          cases hx
          exact up (Kt.ex x10) (up (hP8.kt kp9) (four (by decide) hv2))
        | 2, hx =>
          cases hx
          obtain ⟨g, d, d1, d2, d3⟩ := hv3
          exact up (Kt.ex x10) ⟨W3, d, g, d1, d2, Nat.le_trans d3 (by decide)⟩
      generalize upd H9 gl (.lst [v, v2, v3]) = H10 at hgl hs10 hP10 hgs
      refine ⟨gl, rfl, ⟨_, sq_of hgl⟩, for_list (K := K) (a := gl) (xs := [v, v2, v3]) (fun j σ H' => (∃ y6 y7 y8 y9, σ = [some (.ref a), some (.ref p), some (.ref sh), some (.int ((0 : Int) + (i : Int))), some v, some (.ref wl), y6, y7, y8, y9]) ∧ Ex H10 H') ⟨⟨_, _, _, _, rfl⟩, Ex.refl H10⟩ (fun j σ H' _ hh => sq_of (hh.2 _ _ hgl)) ?_ ?_⟩
      · rintro j x σ H11 hx ⟨⟨y6, y7, y8, y9, rfl⟩, x11⟩
        obtain ⟨Wx, d, gx, d1, d2, d3⟩ := hgs j x hx
        dsimp only [gName]
        show tSeq _ _ _ [some (.ref a), some (.ref p), some (.ref sh), some (.int ((0 : Int) + (i : Int))), some v, some (.ref wl), y6, some x, y8, y9] H11
        have hs11 := hs10.ex x11
        have gx11 := gx.ex x11
        have d11 := d1.kt (Kt.ex x11)
        have tol : ∀ {σ : L2.St} {H' : Hp}, Ex H11 H' → σ[2]? = some (some (.ref sh)) → σ[7]? = some (some x) → EvL (tCall (spEx fun os ls qs => spTold K os ls qs 10) [] E0 (tCons (tVar 2) (tCons (tVar 7) tNil))) σ H' ((szs os ls qs Wx).map nV) := fun {σ H'} e h2 h7 => el_call (ea_cons (ev_var h2) (ea_cons (ev_var h7) ea_nil)) fun H7 e7 Q q E => ⟨os, ls, qs, sh, x, Wx, rfl, hS, hs11.ex (e.trans e7), gx11.ex (e.trans e7), by decide, fun l H' n e h => q l H' n e h⟩
        refine q_asg (repr_dg d11 d2 d3 rfl) fun H12 x12 => q_asgL (xs := (szs os ls qs Wx).map nV) (el_call (ea_cons (ev_var rfl) (ea_cons (ev_var rfl) ea_nil)) fun H7 e7 Q q E => ⟨os, ls, qs, sh, x, Wx, rfl, hS, hs11.ex (x12.trans e7), gx11.ex (x12.trans e7), by decide, fun l H' n e h => q l H' n e h⟩) fun sl H13 n13 x13 h13 => ?_
        have x113 := x12.trans x13
        refine s_when (et_or (a := false) (b := false) (et_is (et_not (et_test (ev_same (tol x113 rfl rfl) (ev_var rfl) h13 (nat_atoms _) (szs_small hS Wx)))) rfl) fun _ => et_is (et_test (ev_op (repr_dg (d11.kt (Kt.ex x113)) d2 d3 rfl) (ev_var rfl) (rv_ne rfl))) (by rw [decide_eq_true rfl]; rfl)) (fun h => absurd h (by decide)) fun _ H14 x14 => ⟨⟨_, _, _, _, rfl⟩, (x11.trans x113).trans x14⟩
      · rintro σ H11 ⟨⟨y6, y7, y8, y9, rfl⟩, x11⟩
        exact ⟨⟨_, _, _, _, _, _, _, rfl⟩, hs10.ex x11, hP10.ex x11⟩
    · rintro σ H3 ⟨⟨y3, y4, y5, y6, y7, y8, y9, rfl⟩, hs3, hP3⟩
      refine ⟨_, rfl, p, c, ms, 4, rfl, by decide, by decide, hP3, fun os ls qs sh H4 hS hs4 kp4 hP4 => ?_⟩
      refine ⟨_, rfl, _, rfl, p, c, sh, ms, os, ls, qs, rfl, hP4, hS, hs4, fun v W H5 hv kp5 hP5 => ?_⟩
      have hs5 := hs4.keep hP4 kp5
      have hv10 : GAt os ls qs H5 10 v W := hv.le (by decide)
      dsimp only [gName]
      show tRet _ _ [some (.ref a), some (.ref p), some (.ref sh), y3, y4, y5, y6, some v, y8, y9] H5
      exact s_ret (ev_sameL (xs := (szs os ls qs W).map nV) (el_call (ea_cons (ev_var rfl) (ea_cons (ev_var rfl) ea_nil)) fun H7 e7 Q q E => ⟨os, ls, qs, sh, v, W, rfl, hS, hs5.ex e7, hv10.ex e7, by decide, fun l H' n e h => q l H' n e h⟩) (el_call (ea_cons (ev_var rfl) (ea_cons (ev_var rfl) ea_nil)) fun H7 e7 Q q E => ⟨os, ls, qs, sh, v, W, rfl, hS, hs5.ex e7, hv10.ex e7, by decide, fun l H' n e h => q l H' n e h⟩) (nat_atoms _) (szs_small hS W)) fun H6 e6 => rfl
  obtain ⟨t, ht, hq⟩ := body
  exact EndG.enter (us := [.ref a]) (vs := [.ref a]) h1 h2 scLaw hk e0 (bi z (.ref a)) (.cons rfl .nil) rfl ht.nox hq
end
end Eh
set_option Elab.async false
set_option linter.all false
set_option maxRecDepth 100000
set_option maxHeartbeats 4000000
namespace Eh
open PySem PySem.Spec PyProof.Rows L2 Evl GxR Gx
theorem all_mk {l : PySem.W.OpenLaw} {w : World} {K : PySem.W.Frag} {h : Heap} {mg : Str → Option Value} {fa f0 f1 f2 f3 f4 f5 f6 f7 f8 f9 f10 f11 f12 f13 f14 f15 f16 f17 f18 f19 f20 f21 f22 f23 f24 : Addr} (X : K.In h) (G : h.Ns mainGlobals mg) (hfa : mg "law" = some (.ref fa)) (own : EndG.Tabs [] K mg h)
    {od0 an0 : Option Addr} {sl0 : Array (Option Value)} {oc0 kV0 dc0 pm0 ct0 : Value} {cd0 : Value}
    {od1 an1 : Option Addr} {sl1 : Array (Option Value)} {oc1 kV1 dc1 pm1 ct1 : Value} {cd1 : Value}
    {od2 an2 : Option Addr} {sl2 : Array (Option Value)} {oc2 kV2 dc2 pm2 ct2 : Value} {cd2 : Value}
    {od3 an3 : Option Addr} {sl3 : Array (Option Value)} {oc3 kV3 dc3 pm3 ct3 : Value} {cd3 : Value}
    {od4 an4 : Option Addr} {sl4 : Array (Option Value)} {oc4 kV4 dc4 pm4 ct4 : Value} {cd4 : Value}
    {od5 an5 : Option Addr} {sl5 : Array (Option Value)} {oc5 kV5 dc5 pm5 ct5 : Value} {cd5 : Value}
    {od6 an6 : Option Addr} {sl6 : Array (Option Value)} {oc6 kV6 dc6 pm6 ct6 : Value} {cd6 : Value}
    {od7 an7 : Option Addr} {sl7 : Array (Option Value)} {oc7 kV7 dc7 pm7 ct7 : Value} {cd7 : Value}
    {od8 an8 : Option Addr} {sl8 : Array (Option Value)} {oc8 kV8 dc8 pm8 ct8 : Value} {cd8 : Value}
    {od9 an9 : Option Addr} {sl9 : Array (Option Value)} {oc9 kV9 dc9 pm9 ct9 : Value} {cd9 : Value}
    {od10 an10 : Option Addr} {sl10 : Array (Option Value)} {oc10 kV10 dc10 pm10 ct10 : Value} {cd10 : Value}
    {od11 an11 : Option Addr} {sl11 : Array (Option Value)} {oc11 kV11 dc11 pm11 ct11 : Value} {cd11 : Value}
    {od12 an12 : Option Addr} {sl12 : Array (Option Value)} {oc12 kV12 dc12 pm12 ct12 : Value} {cd12 : Value}
    {od13 an13 : Option Addr} {sl13 : Array (Option Value)} {oc13 kV13 dc13 pm13 ct13 : Value} {cd13 : Value}
    {od14 an14 : Option Addr} {sl14 : Array (Option Value)} {oc14 kV14 dc14 pm14 ct14 : Value} {cd14 : Value}
    {od15 an15 : Option Addr} {sl15 : Array (Option Value)} {oc15 kV15 dc15 pm15 ct15 : Value} {cd15 : Value}
    {od16 an16 : Option Addr} {sl16 : Array (Option Value)} {oc16 kV16 dc16 pm16 ct16 : Value} {cd16 : Value}
    {od17 an17 : Option Addr} {sl17 : Array (Option Value)} {oc17 kV17 dc17 pm17 ct17 : Value} {cd17 : Value}
    {od18 an18 : Option Addr} {sl18 : Array (Option Value)} {oc18 kV18 dc18 pm18 ct18 : Value} {cd18 : Value}
    {od19 an19 : Option Addr} {sl19 : Array (Option Value)} {oc19 kV19 dc19 pm19 ct19 : Value} {cd19 : Value}
    {od20 an20 : Option Addr} {sl20 : Array (Option Value)} {oc20 kV20 dc20 pm20 ct20 : Value} {cd20 : Value}
    {od21 an21 : Option Addr} {sl21 : Array (Option Value)} {oc21 kV21 dc21 pm21 ct21 : Value} {cd21 : Value}
    {od22 an22 : Option Addr} {sl22 : Array (Option Value)} {oc22 kV22 dc22 pm22 ct22 : Value} {cd22 : Value}
    {od23 an23 : Option Addr} {sl23 : Array (Option Value)} {oc23 kV23 dc23 pm23 ct23 : Value} {cd23 : Value}
    {od24 an24 : Option Addr} {sl24 : Array (Option Value)} {oc24 kV24 dc24 pm24 ct24 : Value} {cd24 : Value}
    (a0 : PySem.W.nsIn K mainGlobals "order_of" = some (some (.ref f0)))
    (l0 : K.lookup f0 = some ⟨oc0, od0, .func (PySem.W.fnOf "order_of" "order_of" (defArgs sOrderOf) (defBody sOrderOf) (defScope sOrderOf) .none kV0 dc0 pm0 an0 cd0 ct0), sl0⟩)
    (c0 : PySem.W.codeIn K cd0 "order_of" = true)
    (k0 : PySem.W.keepIn K (.ref f0) = true)
    (a1 : PySem.W.nsIn K mainGlobals "need_word" = some (some (.ref f1)))
    (l1 : K.lookup f1 = some ⟨oc1, od1, .func (PySem.W.fnOf "need_word" "need_word" (defArgs sNeedWord) (defBody sNeedWord) (defScope sNeedWord) .none kV1 dc1 pm1 an1 cd1 ct1), sl1⟩)
    (c1 : PySem.W.codeIn K cd1 "need_word" = true)
    (k1 : PySem.W.keepIn K (.ref f1) = true)
    (a2 : PySem.W.nsIn K mainGlobals "depth_of" = some (some (.ref f2)))
    (l2 : K.lookup f2 = some ⟨oc2, od2, .func (PySem.W.fnOf "depth_of" "depth_of" (defArgs sDepthOf) (defBody sDepthOf) (defScope sDepthOf) .none kV2 dc2 pm2 an2 cd2 ct2), sl2⟩)
    (c2 : PySem.W.codeIn K cd2 "depth_of" = true)
    (k2 : PySem.W.keepIn K (.ref f2) = true)
    (a3 : PySem.W.nsIn K mainGlobals "parts_in" = some (some (.ref f3)))
    (l3 : K.lookup f3 = some ⟨oc3, od3, .func (PySem.W.fnOf "parts_in" "parts_in" (defArgs sPartsIn) (defBody sPartsIn) (defScope sPartsIn) .none kV3 dc3 pm3 an3 cd3 ct3), sl3⟩)
    (c3 : PySem.W.codeIn K cd3 "parts_in" = true)
    (k3 : PySem.W.keepIn K (.ref f3) = true)
    (a4 : PySem.W.nsIn K mainGlobals "length_of" = some (some (.ref f4)))
    (l4 : K.lookup f4 = some ⟨oc4, od4, .func (PySem.W.fnOf "length_of" "length_of" (defArgs sLengthOf) (defBody sLengthOf) (defScope sLengthOf) .none kV4 dc4 pm4 an4 cd4 ct4), sl4⟩)
    (c4 : PySem.W.codeIn K cd4 "length_of" = true)
    (k4 : PySem.W.keepIn K (.ref f4) = true)
    (a5 : PySem.W.nsIn K mainGlobals "deepest_of" = some (some (.ref f5)))
    (l5 : K.lookup f5 = some ⟨oc5, od5, .func (PySem.W.fnOf "deepest_of" "deepest_of" (defArgs sDeepestOf) (defBody sDeepestOf) (defScope sDeepestOf) .none kV5 dc5 pm5 an5 cd5 ct5), sl5⟩)
    (c5 : PySem.W.codeIn K cd5 "deepest_of" = true)
    (k5 : PySem.W.keepIn K (.ref f5) = true)
    (a6 : PySem.W.nsIn K mainGlobals "many_of" = some (some (.ref f6)))
    (l6 : K.lookup f6 = some ⟨oc6, od6, .func (PySem.W.fnOf "many_of" "many_of" (defArgs sManyOf) (defBody sManyOf) (defScope sManyOf) .none kV6 dc6 pm6 an6 cd6 ct6), sl6⟩)
    (c6 : PySem.W.codeIn K cd6 "many_of" = true)
    (k6 : PySem.W.keepIn K (.ref f6) = true)
    (a7 : PySem.W.nsIn K mainGlobals "_law_blend" = some (some (.ref f7)))
    (l7 : K.lookup f7 = some ⟨oc7, od7, .func (PySem.W.fnOf "_law_blend" "_law_blend" (defArgs sBlend) (defBody sBlend) (defScope sBlend) .none kV7 dc7 pm7 an7 cd7 ct7), sl7⟩)
    (c7 : PySem.W.codeIn K cd7 "_law_blend" = true)
    (k7 : PySem.W.keepIn K (.ref f7) = true)
    (a8 : PySem.W.nsIn K mainGlobals "_law_pot" = some (some (.ref f8)))
    (l8 : K.lookup f8 = some ⟨oc8, od8, .func (PySem.W.fnOf "_law_pot" "_law_pot" (defArgs sPot) (defBody sPot) (defScope sPot) .none kV8 dc8 pm8 an8 cd8 ct8), sl8⟩)
    (c8 : PySem.W.codeIn K cd8 "_law_pot" = true)
    (k8 : PySem.W.keepIn K (.ref f8) = true)
    (a9 : PySem.W.nsIn K mainGlobals "_law_pick" = some (some (.ref f9)))
    (l9 : K.lookup f9 = some ⟨oc9, od9, .func (PySem.W.fnOf "_law_pick" "_law_pick" (defArgs sPick) (defBody sPick) (defScope sPick) .none kV9 dc9 pm9 an9 cd9 ct9), sl9⟩)
    (c9 : PySem.W.codeIn K cd9 "_law_pick" = true)
    (k9 : PySem.W.keepIn K (.ref f9) = true)
    (a10 : PySem.W.nsIn K mainGlobals "_law_letters" = some (some (.ref f10)))
    (l10 : K.lookup f10 = some ⟨oc10, od10, .func (PySem.W.fnOf "_law_letters" "_law_letters" (defArgs sLetters) (defBody sLetters) (defScope sLetters) .none kV10 dc10 pm10 an10 cd10 ct10), sl10⟩)
    (c10 : PySem.W.codeIn K cd10 "_law_letters" = true)
    (k10 : PySem.W.keepIn K (.ref f10) = true)
    (a11 : PySem.W.nsIn K mainGlobals "_law_sheet" = some (some (.ref f11)))
    (l11 : K.lookup f11 = some ⟨oc11, od11, .func (PySem.W.fnOf "_law_sheet" "_law_sheet" (defArgs sSheet) (defBody sSheet) (defScope sSheet) .none kV11 dc11 pm11 an11 cd11 ct11), sl11⟩)
    (c11 : PySem.W.codeIn K cd11 "_law_sheet" = true)
    (k11 : PySem.W.keepIn K (.ref f11) = true)
    (a12 : PySem.W.nsIn K mainGlobals "_law_order" = some (some (.ref f12)))
    (l12 : K.lookup f12 = some ⟨oc12, od12, .func (PySem.W.fnOf "_law_order" "_law_order" (defArgs sOrder) (defBody sOrder) (defScope sOrder) .none kV12 dc12 pm12 an12 cd12 ct12), sl12⟩)
    (c12 : PySem.W.codeIn K cd12 "_law_order" = true)
    (k12 : PySem.W.keepIn K (.ref f12) = true)
    (a13 : PySem.W.nsIn K mainGlobals "_law_shut" = some (some (.ref f13)))
    (l13 : K.lookup f13 = some ⟨oc13, od13, .func (PySem.W.fnOf "_law_shut" "_law_shut" (defArgs sShut) (defBody sShut) (defScope sShut) .none kV13 dc13 pm13 an13 cd13 ct13), sl13⟩)
    (c13 : PySem.W.codeIn K cd13 "_law_shut" = true)
    (k13 : PySem.W.keepIn K (.ref f13) = true)
    (a14 : PySem.W.nsIn K mainGlobals "_law_same" = some (some (.ref f14)))
    (l14 : K.lookup f14 = some ⟨oc14, od14, .func (PySem.W.fnOf "_law_same" "_law_same" (defArgs sSame) (defBody sSame) (defScope sSame) .none kV14 dc14 pm14 an14 cd14 ct14), sl14⟩)
    (c14 : PySem.W.codeIn K cd14 "_law_same" = true)
    (k14 : PySem.W.keepIn K (.ref f14) = true)
    (a15 : PySem.W.nsIn K mainGlobals "_law_count" = some (some (.ref f15)))
    (l15 : K.lookup f15 = some ⟨oc15, od15, .func (PySem.W.fnOf "_law_count" "_law_count" (defArgs sLawCount) (defBody sLawCount) (defScope sLawCount) .none kV15 dc15 pm15 an15 cd15 ct15), sl15⟩)
    (c15 : PySem.W.codeIn K cd15 "_law_count" = true)
    (k15 : PySem.W.keepIn K (.ref f15) = true)
    (a16 : PySem.W.nsIn K mainGlobals "_law_great" = some (some (.ref f16)))
    (l16 : K.lookup f16 = some ⟨oc16, od16, .func (PySem.W.fnOf "_law_great" "_law_great" (defArgs sLawGreat) (defBody sLawGreat) (defScope sLawGreat) .none kV16 dc16 pm16 an16 cd16 ct16), sl16⟩)
    (c16 : PySem.W.codeIn K cd16 "_law_great" = true)
    (k16 : PySem.W.keepIn K (.ref f16) = true)
    (a17 : PySem.W.nsIn K mainGlobals "_law_size" = some (some (.ref f17)))
    (l17 : K.lookup f17 = some ⟨oc17, od17, .func (PySem.W.fnOf "_law_size" "_law_size" (defArgs sSize) (defBody sSize) (defScope sSize) .none kV17 dc17 pm17 an17 cd17 ct17), sl17⟩)
    (c17 : PySem.W.codeIn K cd17 "_law_size" = true)
    (k17 : PySem.W.keepIn K (.ref f17) = true)
    (a18 : PySem.W.nsIn K mainGlobals "_law_write" = some (some (.ref f18)))
    (l18 : K.lookup f18 = some ⟨oc18, od18, .func (PySem.W.fnOf "_law_write" "_law_write" (defArgs sLawWrite) (defBody sLawWrite) (defScope sLawWrite) .none kV18 dc18 pm18 an18 cd18 ct18), sl18⟩)
    (c18 : PySem.W.codeIn K cd18 "_law_write" = true)
    (k18 : PySem.W.keepIn K (.ref f18) = true)
    (a19 : PySem.W.nsIn K mainGlobals "_law_depth" = some (some (.ref f19)))
    (l19 : K.lookup f19 = some ⟨oc19, od19, .func (PySem.W.fnOf "_law_depth" "_law_depth" (defArgs sLawDepth) (defBody sLawDepth) (defScope sLawDepth) .none kV19 dc19 pm19 an19 cd19 ct19), sl19⟩)
    (c19 : PySem.W.codeIn K cd19 "_law_depth" = true)
    (k19 : PySem.W.keepIn K (.ref f19) = true)
    (a20 : PySem.W.nsIn K mainGlobals "_law_sizes" = some (some (.ref f20)))
    (l20 : K.lookup f20 = some ⟨oc20, od20, .func (PySem.W.fnOf "_law_sizes" "_law_sizes" (defArgs sLawSizes) (defBody sLawSizes) (defScope sLawSizes) .none kV20 dc20 pm20 an20 cd20 ct20), sl20⟩)
    (c20 : PySem.W.codeIn K cd20 "_law_sizes" = true)
    (k20 : PySem.W.keepIn K (.ref f20) = true)
    (a21 : PySem.W.nsIn K mainGlobals "_law_wide_great" = some (some (.ref f21)))
    (l21 : K.lookup f21 = some ⟨oc21, od21, .func (PySem.W.fnOf "_law_wide_great" "_law_wide_great" (defArgs sLawWideGreat) (defBody sLawWideGreat) (defScope sLawWideGreat) .none kV21 dc21 pm21 an21 cd21 ct21), sl21⟩)
    (c21 : PySem.W.codeIn K cd21 "_law_wide_great" = true)
    (k21 : PySem.W.keepIn K (.ref f21) = true)
    (a22 : PySem.W.nsIn K mainGlobals "_law_told" = some (some (.ref f22)))
    (l22 : K.lookup f22 = some ⟨oc22, od22, .func (PySem.W.fnOf "_law_told" "_law_told" (defArgs sTold) (defBody sTold) (defScope sTold) .none kV22 dc22 pm22 an22 cd22 ct22), sl22⟩)
    (c22 : PySem.W.codeIn K cd22 "_law_told" = true)
    (k22 : PySem.W.keepIn K (.ref f22) = true)
    (a23 : PySem.W.nsIn K mainGlobals "_law_ten_deep" = some (some (.ref f23)))
    (l23 : K.lookup f23 = some ⟨oc23, od23, .func (PySem.W.fnOf "_law_ten_deep" "_law_ten_deep" (defArgs sLawTenDeep) (defBody sLawTenDeep) (defScope sLawTenDeep) .none kV23 dc23 pm23 an23 cd23 ct23), sl23⟩)
    (c23 : PySem.W.codeIn K cd23 "_law_ten_deep" = true)
    (k23 : PySem.W.keepIn K (.ref f23) = true)
    (a24 : PySem.W.nsIn K mainGlobals "law" = some (some (.ref f24)))
    (l24 : K.lookup f24 = some ⟨oc24, od24, .func (PySem.W.fnOf "law" "law" (defArgs sLaw) (defBody sLaw) (defScope sLaw) .none kV24 dc24 pm24 an24 cd24 ct24), sl24⟩)
    (c24 : PySem.W.codeIn K cd24 "law" = true)
    (k24 : PySem.W.keepIn K (.ref f24) = true)
    (z0 : PySem.W.nsIn K mainGlobals "all" = some none)
    (z1 : PySem.W.nsIn K mainGlobals "bool" = some none)
    (z2 : PySem.W.nsIn K mainGlobals "enumerate" = some none)
    (z3 : PySem.W.nsIn K mainGlobals "int" = some none)
    (z4 : PySem.W.nsIn K mainGlobals "isinstance" = some none)
    (z5 : PySem.W.nsIn K mainGlobals "len" = some none)
    (z6 : PySem.W.nsIn K mainGlobals "list" = some none)
    (z7 : PySem.W.nsIn K mainGlobals "max" = some none)
    (z8 : PySem.W.nsIn K mainGlobals "min" = some none)
    (z9 : PySem.W.nsIn K mainGlobals "range" = some none)
    (z10 : PySem.W.nsIn K mainGlobals "repr" = some none)
    (z11 : PySem.W.nsIn K mainGlobals "str" = some none)
    (z12 : PySem.W.nsIn K mainGlobals "sum" = some none)
    (z13 : PySem.W.nsIn K mainGlobals "tuple" = some none)
    (z14 : PySem.W.nsIn K mainGlobals "zip" = some none)
    : EndG.LawAtG l w K CX0 63 mg fa h := by
  have e := hfa.symm.trans (PySem.W.mg_of X G a24)
  cases e
  have F0 := fun_mk (st := sOrderOf) l0 c0 k0
  have g0 := PySem.W.mg_of X G a0
  have b0 := F0.binds (ps := ["sheet"]) fun _ _ _ _ _ _ us hl => match us, hl with | [_], _ => rfl
  have F1 := fun_mk (st := sNeedWord) l1 c1 k1
  have g1 := PySem.W.mg_of X G a1
  have b1 := F1.binds (ps := ["sheet", "word"]) fun _ _ _ _ _ _ us hl => match us, hl with | [_, _], _ => rfl
  have F2 := fun_mk (st := sDepthOf) l2 c2 k2
  have g2 := PySem.W.mg_of X G a2
  have b2 := F2.binds (ps := ["sheet", "word"]) fun _ _ _ _ _ _ us hl => match us, hl with | [_, _], _ => rfl
  have F3 := fun_mk (st := sPartsIn) l3 c3 k3
  have g3 := PySem.W.mg_of X G a3
  have b3 := F3.binds (ps := ["great"]) fun _ _ _ _ _ _ us hl => match us, hl with | [_], _ => rfl
  have F4 := fun_mk (st := sLengthOf) l4 c4 k4
  have g4 := PySem.W.mg_of X G a4
  have b4 := F4.binds (ps := ["great"]) fun _ _ _ _ _ _ us hl => match us, hl with | [_], _ => rfl
  have F5 := fun_mk (st := sDeepestOf) l5 c5 k5
  have g5 := PySem.W.mg_of X G a5
  have b5 := F5.binds (ps := ["sheet", "great"]) fun _ _ _ _ _ _ us hl => match us, hl with | [_, _], _ => rfl
  have F6 := fun_mk (st := sManyOf) l6 c6 k6
  have g6 := PySem.W.mg_of X G a6
  have b6 := F6.binds (ps := ["great", "letter"]) fun _ _ _ _ _ _ us hl => match us, hl with | [_, _], _ => rfl
  have F7 := fun_mk (st := sBlend) l7 c7 k7
  have g7 := PySem.W.mg_of X G a7
  have b7 := F7.binds (ps := ["cell", "at"]) fun _ _ _ _ _ _ us hl => match us, hl with | [_, _], _ => rfl
  have F8 := fun_mk (st := sPot) l8 c8 k8
  have g8 := PySem.W.mg_of X G a8
  have b8 := F8.binds (ps := ["script"]) fun _ _ _ _ _ _ us hl => match us, hl with | [_], _ => rfl
  have F9 := fun_mk (st := sPick) l9 c9 k9
  have g9 := PySem.W.mg_of X G a9
  have b9 := F9.binds (ps := ["pot", "many"]) fun _ _ _ _ _ _ us hl => match us, hl with | [_, _], _ => rfl
  have F10 := fun_mk (st := sLetters) l10 c10 k10
  have g10 := PySem.W.mg_of X G a10
  have b10 := F10.binds (ps := ["pot", "many"]) fun _ _ _ _ _ _ us hl => match us, hl with | [_, _], _ => rfl
  have F11 := fun_mk (st := sSheet) l11 c11 k11
  have g11 := PySem.W.mg_of X G a11
  have b11 := F11.binds (ps := ["pot", "most"]) fun _ _ _ _ _ _ us hl => match us, hl with | [_, _], _ => rfl
  have F12 := fun_mk (st := sOrder) l12 c12 k12
  have g12 := PySem.W.mg_of X G a12
  have b12 := F12.binds (ps := ["sheet"]) fun _ _ _ _ _ _ us hl => match us, hl with | [_], _ => rfl
  have F13 := fun_mk (st := sShut) l13 c13 k13
  have g13 := PySem.W.mg_of X G a13
  have b13 := F13.binds (ps := ["pot", "sheet", "most"]) fun _ _ _ _ _ _ us hl => match us, hl with | [_, _, _], _ => rfl
  have F14 := fun_mk (st := sSame) l14 c14 k14
  have g14 := PySem.W.mg_of X G a14
  have b14 := F14.binds (ps := ["found", "due"]) fun _ _ _ _ _ _ us hl => match us, hl with | [_, _], _ => rfl
  have F15 := fun_mk (st := sLawCount) l15 c15 k15
  have g15 := PySem.W.mg_of X G a15
  have b15 := F15.binds (ps := ["pot", "big"]) fun _ _ _ _ _ _ us hl => match us, hl with | [_, _], _ => rfl
  have F16 := fun_mk (st := sLawGreat) l16 c16 k16
  have g16 := PySem.W.mg_of X G a16
  have b16 := F16.binds (ps := ["pot", "sheet", "deep", "big"]) fun _ _ _ _ _ _ us hl => match us, hl with | [_, _, _, _], _ => rfl
  have F17 := fun_mk (st := sSize) l17 c17 k17
  have g17 := PySem.W.mg_of X G a17
  have b17 := F17.binds (ps := ["great"]) fun _ _ _ _ _ _ us hl => match us, hl with | [_], _ => rfl
  have F18 := fun_mk (st := sLawWrite) l18 c18 k18
  have g18 := PySem.W.mg_of X G a18
  have b18 := F18.binds (ps := ["great"]) fun _ _ _ _ _ _ us hl => match us, hl with | [_], _ => rfl
  have F19 := fun_mk (st := sLawDepth) l19 c19 k19
  have g19 := PySem.W.mg_of X G a19
  have b19 := F19.binds (ps := ["sheet", "word"]) fun _ _ _ _ _ _ us hl => match us, hl with | [_, _], _ => rfl
  have F20 := fun_mk (st := sLawSizes) l20 c20 k20
  have g20 := PySem.W.mg_of X G a20
  have b20 := F20.binds (ps := ["sheet", "great"]) fun _ _ _ _ _ _ us hl => match us, hl with | [_, _], _ => rfl
  have F21 := fun_mk (st := sLawWideGreat) l21 c21 k21
  have g21 := PySem.W.mg_of X G a21
  have b21 := F21.binds (ps := ["pot", "sheet"]) fun _ _ _ _ _ _ us hl => match us, hl with | [_, _], _ => rfl
  have F22 := fun_mk (st := sTold) l22 c22 k22
  have g22 := PySem.W.mg_of X G a22
  have b22 := F22.binds (ps := ["sheet", "great"]) fun _ _ _ _ _ _ us hl => match us, hl with | [_, _], _ => rfl
  have F23 := fun_mk (st := sLawTenDeep) l23 c23 k23
  have g23 := PySem.W.mg_of X G a23
  have b23 := F23.binds (ps := ["pot", "sheet"]) fun _ _ _ _ _ _ us hl => match us, hl with | [_, _], _ => rfl
  have F24 := fun_mk (st := sLaw) l24 c24 k24
  have g24 := PySem.W.mg_of X G a24
  have b24 := F24.binds (ps := ["script"]) fun _ _ _ _ _ _ us hl => match us, hl with | [_], _ => rfl
  have mall := PySem.W.mg_none_of X G z0
  have mbool := PySem.W.mg_none_of X G z1
  have menumerate := PySem.W.mg_none_of X G z2
  have mint := PySem.W.mg_none_of X G z3
  have misinstance := PySem.W.mg_none_of X G z4
  have mlen := PySem.W.mg_none_of X G z5
  have mlist := PySem.W.mg_none_of X G z6
  have mmax := PySem.W.mg_none_of X G z7
  have mmin := PySem.W.mg_none_of X G z8
  have mrange := PySem.W.mg_none_of X G z9
  have mrepr := PySem.W.mg_none_of X G z10
  have mstr := PySem.W.mg_none_of X G z11
  have msum := PySem.W.mg_none_of X G z12
  have mtuple := PySem.W.mg_none_of X G z13
  have mzip := PySem.W.mg_none_of X G z14
  refine ⟨[], fun p hp => (by cases hp), fun p hp => (by cases hp), fun p hp => (by cases hp), ?_⟩
  intro base H z a ns kb nb TB hH hS hlen hbits e0
  have PK : ∀ k, FnOk l.prog w K mg base CX0 (k + 2) _ _ _ spPick := fun k => ok_pick (k := k) F9 F7 b7 g7 mlen
  have PW : ∀ k, FnOk l.prog w K mg base CX0 (k + 2) _ _ _ spPickW := fun k => ok_pickW (k := k) F9 F7 b7 g7 mlen
  have SHU : ∀ k, FnOk l.prog w K mg base CX0 (k + 3) _ _ _ spShut := fun k => ok_shut (k := k + 1) F13 F9 (PK k) b9 g9 mlen mrange
  have CNT : ∀ k, FnOk l.prog w K mg base CX0 (k + 3) _ _ _ spCount := fun k => ok_count (k := k) F15 F9 PK PW b9 g9 mlen
  have GRE : FnOk l.prog w K mg base CX0 30 _ _ _ (spGreat 4) := ok_great F16 b16 g16 F9 PK b9 g9 F13 SHU b13 g13 F15 CNT b15 g15 mint mlen mrange mtuple 4 23
  have SK : SameK mg := ⟨misinstance, mbool, mstr, mint, mtuple, mlist, mlen, mall, mzip⟩
  have S1 : FnOk l.prog w K mg base CX0 30 _ _ _ spSame1 := ok_same1 (k := 28) F14 SK b14 g14
  have OR : ∀ k, FnOk l.prog w K mg base CX0 (k + 1) _ _ _ spOrder := fun k => ok_order (k := k) F12 mlist
  have NW : ∀ k, FnOk l.prog w K mg base CX0 (k + 2) _ _ _ (spNeedWord K) := fun k => ok_needWord (k := k) F1 F0 b0 g0 menumerate
  have DE : ∀ k, FnOk l.prog w K mg base CX0 (k + 3) _ _ _ (spDepthOf K) := fun k => ok_depthOf (k := k + 1) F2 F1 (NW k) b1 g1 mmax
  have LD : ∀ k, FnOk l.prog w K mg base CX0 (k + 1) _ _ _ (spDepthOf K) := fun k => ok_lawDepth (k := k) F19 mmax mint
  have LEN : ∀ os ls qs, FnOk l.prog w K mg base CX0 29 _ _ _ (spLen os ls qs 10) := fun os ls qs => ok_lengthOf F4 b4 g4 F3 b3 g3 mlist mlen msum 10 18
  have DEP : ∀ os ls qs, FnOk l.prog w K mg base CX0 29 _ _ _ (spDeepest os ls qs 10) := fun os ls qs => ok_deepest F5 b5 g5 F3 b3 g3 F2 (fun k => DE (k + 1)) b2 g2 mlist mmax 10 15
  have MAN : ∀ os ls qs, FnOk l.prog w K mg base CX0 29 _ _ _ (spMany os ls qs 10) := fun os ls qs => ok_many F6 b6 g6 F3 b3 g3 mlist msum 10 18
  have TOL : ∀ os ls qs, FnOk l.prog w K mg base CX0 30 _ _ _ (spTold K os ls qs 10) := fun os ls qs => ok_told (k := 28) F22 F4 (LEN os ls qs) b4 g4 F5 (DEP os ls qs) b5 g5 F6 (MAN os ls qs) b6 g6 F12 (OR 28) b12 g12
  have SIZ : ∀ os ls qs, FnOk l.prog w K mg base CX0 30 _ _ _ (spSizes K os ls qs 10) := fun os ls qs => ok_sizes F20 b20 g20 F12 OR b12 g12 F19 LD b19 g19 mlist mlen mint mmax mmin mzip 10 18
  have WRI : ∀ os ls qs, FnOk l.prog w K mg base CX0 30 _ _ _ (spWrite os ls qs 10) := fun os ls qs => ok_write F18 b18 g18 F17 b17 g17 mlen msum mlist 10 18
  have WID : FnOk l.prog w K mg base CX0 30 _ _ _ (spMade 3) := ok_wide (k := 28) F21 F9 (PK 27) b9 g9 F15 (CNT 26) b15 g15 mlen mrange mtuple
  have TEN : FnOk l.prog w K mg base CX0 30 _ _ _ spTen := ok_tenW (k := 28) F23 F9 (PK 27) b9 g9 F13 (SHU 26) b13 g13 mrange mtuple
  have G1 : FnOk l.prog w K mg base CX0 30 _ _ _ (spPot K) := ok_pot (k := 29) F8 mlist menumerate
  have GL : FnOk l.prog w K mg base CX0 29 _ _ _ spLetters := ok_letters (k := 27) F10 F9 (PK 26) b9 g9 mlen mrange
  have G2 : FnOk l.prog w K mg base CX0 30 _ _ _ spSheet := ok_sheet (k := 27) F11 F9 (PK 26) b9 g9 F10 GL b10 g10 mmin mtuple
  have E3 : FnOk l.prog w K mg base CX0 30 _ _ _ (spEx fun os ls qs => spWrite os ls qs 10) := fn_ex WRI
  have E4 : FnOk l.prog w K mg base CX0 30 _ _ _ (spEx fun os ls qs => spTold K os ls qs 10) := fn_ex TOL
  have E5 : FnOk l.prog w K mg base CX0 30 _ _ _ (spEx fun os ls qs => spSizes K os ls qs 10) := fn_ex SIZ
  have D1 := LD 29
  have O1 := OR 29
  exact law_run (k := 30) F24 F8 G1 b8 g8 F11 G2 b11 g11 F16 GRE b16 g16 F18 E3 b18 g18 F19 D1 b19 g19 F12 O1 b12 g12 F14 S1 b14 g14 F22 E4 b22 g22 F20 E5 b20 g20 F23 TEN b23 g23 F21 WID b21 g21 mlen mrange mrepr ⟨rfl, by decide, by decide⟩ (fun s v => .of_eq rfl) e0 hS hlen
end Eh
open PySem PySem.W PyProof.Rows
set_option maxHeartbeats 0 in
theorem PySem.Challenge.cw_echohall_k47_great_sizes_holds : PySem.Challenge.rw_echohall_k47_great_sizes.Holds := by
  w_on; o_law; k_head; (case hw => w_witness2)
  k_fill
  refine EndG.walkG (l := PySem.Challenge.rw_echohall_k47_great_sizes) (n := 63) (CX := fun _ => L2.CX0) [] rfl (by decide) rfl (by decide +kernel) (fun w h Y => PySem.W.kIn_of Y) ?F (fun _ _ _ _ _ h => h)
  case F =>
    intro w mg fa h _ KX G hmg own
    refine' Eh.all_mk KX G hmg own ?a0 ?l0 ?c0 ?k0 ?a1 ?l1 ?c1 ?k1 ?a2 ?l2 ?c2 ?k2 ?a3 ?l3 ?c3 ?k3 ?a4 ?l4 ?c4 ?k4 ?a5 ?l5 ?c5 ?k5 ?a6 ?l6 ?c6 ?k6 ?a7 ?l7 ?c7 ?k7 ?a8 ?l8 ?c8 ?k8 ?a9 ?l9 ?c9 ?k9 ?a10 ?l10 ?c10 ?k10 ?a11 ?l11 ?c11 ?k11 ?a12 ?l12 ?c12 ?k12 ?a13 ?l13 ?c13 ?k13 ?a14 ?l14 ?c14 ?k14 ?a15 ?l15 ?c15 ?k15 ?a16 ?l16 ?c16 ?k16 ?a17 ?l17 ?c17 ?k17 ?a18 ?l18 ?c18 ?k18 ?a19 ?l19 ?c19 ?k19 ?a20 ?l20 ?c20 ?k20 ?a21 ?l21 ?c21 ?k21 ?a22 ?l22 ?c22 ?k22 ?a23 ?l23 ?c23 ?k23 ?a24 ?l24 ?c24 ?k24 ?z0 ?z1 ?z2 ?z3 ?z4 ?z5 ?z6 ?z7 ?z8 ?z9 ?z10 ?z11 ?z12 ?z13 ?z14
    (case a0 => k_is)
    (case l0 => k_is)
    (case c0 => k_is)
    (case k0 => k_is)
    (case a1 => k_is)
    (case l1 => k_is)
    (case c1 => k_is)
    (case k1 => k_is)
    (case a2 => k_is)
    (case l2 => k_is)
    (case c2 => k_is)
    (case k2 => k_is)
    (case a3 => k_is)
    (case l3 => k_is)
    (case c3 => k_is)
    (case k3 => k_is)
    (case a4 => k_is)
    (case l4 => k_is)
    (case c4 => k_is)
    (case k4 => k_is)
    (case a5 => k_is)
    (case l5 => k_is)
    (case c5 => k_is)
    (case k5 => k_is)
    (case a6 => k_is)
    (case l6 => k_is)
    (case c6 => k_is)
    (case k6 => k_is)
    (case a7 => k_is)
    (case l7 => k_is)
    (case c7 => k_is)
    (case k7 => k_is)
    (case a8 => k_is)
    (case l8 => k_is)
    (case c8 => k_is)
    (case k8 => k_is)
    (case a9 => k_is)
    (case l9 => k_is)
    (case c9 => k_is)
    (case k9 => k_is)
    (case a10 => k_is)
    (case l10 => k_is)
    (case c10 => k_is)
    (case k10 => k_is)
    (case a11 => k_is)
    (case l11 => k_is)
    (case c11 => k_is)
    (case k11 => k_is)
    (case a12 => k_is)
    (case l12 => k_is)
    (case c12 => k_is)
    (case k12 => k_is)
    (case a13 => k_is)
    (case l13 => k_is)
    (case c13 => k_is)
    (case k13 => k_is)
    (case a14 => k_is)
    (case l14 => k_is)
    (case c14 => k_is)
    (case k14 => k_is)
    (case a15 => k_is)
    (case l15 => k_is)
    (case c15 => k_is)
    (case k15 => k_is)
    (case a16 => k_is)
    (case l16 => k_is)
    (case c16 => k_is)
    (case k16 => k_is)
    (case a17 => k_is)
    (case l17 => k_is)
    (case c17 => k_is)
    (case k17 => k_is)
    (case a18 => k_is)
    (case l18 => k_is)
    (case c18 => k_is)
    (case k18 => k_is)
    (case a19 => k_is)
    (case l19 => k_is)
    (case c19 => k_is)
    (case k19 => k_is)
    (case a20 => k_is)
    (case l20 => k_is)
    (case c20 => k_is)
    (case k20 => k_is)
    (case a21 => k_is)
    (case l21 => k_is)
    (case c21 => k_is)
    (case k21 => k_is)
    (case a22 => k_is)
    (case l22 => k_is)
    (case c22 => k_is)
    (case k22 => k_is)
    (case a23 => k_is)
    (case l23 => k_is)
    (case c23 => k_is)
    (case k23 => k_is)
    (case a24 => k_is)
    (case l24 => k_is)
    (case c24 => k_is)
    (case k24 => k_is)
    (case z0 => k_is)
    (case z1 => k_is)
    (case z2 => k_is)
    (case z3 => k_is)
    (case z4 => k_is)
    (case z5 => k_is)
    (case z6 => k_is)
    (case z7 => k_is)
    (case z8 => k_is)
    (case z9 => k_is)
    (case z10 => k_is)
    (case z11 => k_is)
    (case z12 => k_is)
    (case z13 => k_is)
    (case z14 => k_is)
