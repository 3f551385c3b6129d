import PyProof.Rows.All
import Wide.All
import OpenK.AllK
import Wide.FinOn
import HandS.ForMost
import HandS.Evl
import KE.GoesEnum
import HandS.DictComp
import HandS.Flow
import HandS.IsInst
import PySem.Challenge.RW_echohall_k03_answers_and_depth
set_option Elab.async false
set_option linter.all false
set_option maxRecDepth 100000
set_option maxHeartbeats 4000000
namespace Eh
open PySem PySem.Spec PyProof.Rows L2 Evl
def topS (i : Nat) : Stmt := PySem.Challenge.pw_echohall_k03_answers_and_depth.main.body.getD i (.Pass ⟨0, 0, 0, 0⟩)
abbrev sOrderOf : Stmt := topS 4
abbrev sNeedWord : Stmt := topS 5
abbrev sAnswers : Stmt := topS 7
abbrev sAlone : Stmt := topS 8
abbrev sIsShut : Stmt := topS 9
abbrev sDepthOf : Stmt := topS 10
abbrev sBlend : Stmt := topS 12
abbrev sPot : Stmt := topS 13
abbrev sPick : Stmt := topS 14
abbrev sLetters : Stmt := topS 15
abbrev sSheet : Stmt := topS 16
abbrev sOrder : Stmt := topS 17
abbrev sShut : Stmt := topS 18
abbrev sAns : Stmt := topS 19
abbrev sSame : Stmt := topS 20
abbrev sWord : Stmt := topS 21
abbrev sDeep : Stmt := topS 22
abbrev sLaw : Stmt := topS 23
theorem scBlend : FnScope ["cell", "at", "one", "two", "three"] ["cell", "at"] (defScope sBlend) := ⟨rfl, rfl, rfl, by decide +kernel, rfl, by decide +kernel, by decide +kernel⟩
theorem scPot : FnScope ["script", "cells", "k", "cell"] ["script"] (defScope sPot) := ⟨rfl, rfl, rfl, by decide +kernel, rfl, by decide +kernel, by decide +kernel⟩
theorem scPick : FnScope ["pot", "many", "at", "cell", "found"] ["pot", "many"] (defScope sPick) := ⟨rfl, rfl, rfl, by decide +kernel, rfl, by decide +kernel, by decide +kernel⟩
theorem scLetters : FnScope ["pot", "many", "small", "k", "rest", "spot", "turn", "size", "found", "part", "at"] ["pot", "many"] (defScope sLetters) := ⟨rfl, rfl, rfl, by decide +kernel, rfl, by decide +kernel, by decide +kernel⟩
theorem scSheet : FnScope ["pot", "most", "letters", "turn", "opens", "plains", "closes"] ["pot", "most"] (defScope sSheet) := ⟨rfl, rfl, rfl, by decide +kernel, rfl, by decide +kernel, by decide +kernel⟩
theorem scOrder : FnScope ["sheet"] ["sheet"] (defScope sOrder) := ⟨rfl, rfl, rfl, by decide +kernel, rfl, by decide +kernel, by decide +kernel⟩
end Eh
set_option Elab.async false
set_option linter.all false
set_option maxRecDepth 100000
set_option maxHeartbeats 4000000
namespace Eh
open PySem PySem.Spec PyProof.Rows L2 Evl
/-! heaps -/
def Keep (p : Addr) (H H' : Hp) : Prop := ∀ b o, b ≠ p → H b = some o → H' b = some o
theorem Keep.refl (p : Addr) (H : Hp) : Keep p H H := fun _ _ _ h => h
theorem Keep.trans {p : Addr} {H H1 H2 : Hp} (a : Keep p H H1) (b : Keep p H1 H2) : Keep p H H2 := fun x o n h => b x o n (a x o n h)
theorem Keep.ofEx {p : Addr} {H H' : Hp} (e : Ex H H') : Keep p H H' := fun b o _ h => e b o h
theorem Keep.new {p q : Addr} {H H' : Hp} {o : HO} (k : Keep p H H') (h : H q = none) : Keep p H (upd H' q o) := fun b u n e => by
  rw [upd_ne (ne_of_none e h)]
  exact k b u n e
theorem Keep.at {p : Addr} {H H' : Hp} {o : HO} (k : Keep p H H') : Keep p H (upd H' p o) := fun b u n e => by
  rw [upd_ne n]
  exact k b u n e
/-- the drawing pot: its cells stand still, how many were drawn and the rest change -/
def Pot (p c : Addr) (ns : List Int) (H : Hp) : Prop := ∃ a r : Int, 0 ≤ a ∧ H p = some (.lst [.ref c, .int a, .int r]) ∧ H c = some (.lst (ns.map V.int))
theorem Pot.ne {p c : Addr} {ns : List Int} {H : Hp} (h : Pot p c ns H) : c ≠ p := by
  obtain ⟨a, r, _, h1, h2⟩ := h
  intro e
  subst e
  have q : [V.ref c, .int a, .int r] = ns.map V.int := by
    have := h1.symm.trans h2
    injection this with this
    injection this
  cases ns with
  | nil => cases q
  | cons x t => cases q
theorem Pot.ex {p c : Addr} {ns : List Int} {H H' : Hp} (h : Pot p c ns H) (e : Ex H H') : Pot p c ns H' := by
  obtain ⟨a, r, h0, h1, h2⟩ := h
  exact ⟨a, r, h0, e _ _ h1, e _ _ h2⟩
theorem Pot.new {p c q : Addr} {ns : List Int} {H : Hp} {o : HO} (h : Pot p c ns H) (hp : p ≠ q) (hc : c ≠ q) : Pot p c ns (upd H q o) := by
  obtain ⟨a, r, h0, h1, h2⟩ := h
  exact ⟨a, r, h0, by rw [upd_ne hp]; exact h1, by rw [upd_ne hc]; exact h2⟩
section
variable {P : Program} {w : World} {K : PySem.W.Frag} {mg : Str → Option Value} {base : Heap}
def spBlend : Sp := fun vs H Q _ => ∃ x a : Int, vs = [.int x, .int a] ∧ ∀ v : Int, Q (.int v) H
theorem ok_blend {f : Addr} {fd : FuncData} {k : Nat} (F : Fun K "_law_blend" "_law_blend" sBlend f fd) : FnOk P w K mg base CX0 (k + 1) f fd ["cell", "at"] spBlend := by
  refine F.ok scBlend (fun vs H Q E h => ?_) (fun cdv A outer s H vs Q E hr h => ?_)
  · obtain ⟨x, a, rfl, _⟩ := h
    rfl
  · obtain ⟨x, a, rfl, q⟩ := h
    refine ⟨_, pss_cons (ps_if (pt_cmpR op_ge (pv 0) (pe_op op_pow pe_int pe_int) (nomark _)) (pss_one (ps_ret (pv 0))) pss_nil)
      (pss_cons (ps_set (i := 2) scBlend.nd rfl (.inl rfl) (pe_op op_mod (pe_op op_add (pe_op op_add (pe_op op_mul (pe_op op_mod (pv 0) pe_int) pe_int) (pe_op op_mul (pv 1) pe_int)) pe_int) pe_int))
      (pss_cons (ps_set (i := 3) scBlend.nd rfl (.inl rfl) (pe_op op_mod (pe_op op_add (pe_op op_add (pe_op op_mul (pv 2) (pv 2)) (pe_op op_mul (pv 1) pe_int)) (pe_op op_mod (pv 0) pe_int)) pe_int))
      (pss_cons (ps_set (i := 4) scBlend.nd rfl (.inl rfl) (pe_op op_mod (pe_op op_add (pe_op op_add (pe_op op_mul (pv 3) (pv 3)) (pe_op op_mul (pv 2) pe_int)) pe_int) pe_int))
      (pss_one (ps_ret (pe_op op_add (pe_op op_mul (pe_op op_add (pe_op op_mul (pv 2) pe_int) (pv 3)) pe_int) (pv 4))))))), ?_⟩
    refine ⟨_, rfl, 10, 18, rfl, rfl, ⟨by decide, by decide, by decide⟩, _, _, rfl, rfl, _, rfl, ite2 (fun e => ?_) (fun e => ?_)⟩
    · exact ⟨_, rfl, q _⟩
    · have big : ∀ j : Int, 0 < j → j < 4294967296 → ∀ y : Int, CMul (y % j) (y % j) := fun j h0 h1 y => .inl ⟨by have := Int.emod_nonneg y (show j ≠ 0 by omega); omega, by have := Int.emod_lt_of_pos y h0; omega⟩
      refine ⟨_, rfl, _, _, rfl, rfl, (by show (0 : Int) < _; decide), _, _, rfl, rfl, .inr ⟨by decide, by decide⟩, _, rfl, _, _, rfl, rfl, .inr ⟨by decide, by decide⟩, _, _, rfl, rfl, _, _, rfl, rfl, _, _, rfl, rfl, (by show (0 : Int) < _; decide), ?_⟩
      refine ⟨_, rfl, _, rfl, _, _, rfl, rfl, big _ (by decide) (by decide) _, _, rfl, _, _, rfl, rfl, .inr ⟨by decide, by decide⟩, _, _, rfl, rfl, _, rfl, _, _, rfl, rfl, (by show (0 : Int) < _; decide), _, _, rfl, rfl, _, _, rfl, rfl, (by show (0 : Int) < _; decide), ?_⟩
      refine ⟨_, rfl, _, rfl, _, _, rfl, rfl, big _ (by decide) (by decide) _, _, rfl, _, _, rfl, rfl, .inr ⟨by decide, by decide⟩, _, _, rfl, rfl, _, _, rfl, rfl, _, _, rfl, rfl, (by show (0 : Int) < _; decide), ?_⟩
      exact ⟨_, rfl, _, _, rfl, rfl, .inr ⟨by decide, by decide⟩, _, rfl, _, _, rfl, rfl, _, _, rfl, rfl, .inr ⟨by decide, by decide⟩, _, rfl, _, _, rfl, rfl, q _⟩
end
end Eh
set_option Elab.async false
set_option linter.all false
set_option maxRecDepth 100000
set_option maxHeartbeats 4000000
namespace Eh
open PySem PySem.Spec PyProof.Rows L2 Evl
theorem dpInts {K : PySem.W.Frag} {H : Hp} : ∀ ns : List Int, DpAll K H (ns.map V.int) (ns.map PyData.int)
  | [] => .nil
  | n :: r => .cons (.int n) (dpInts r)
theorem layInts : ∀ ns : List Int, PyData.canLayAll0 (ns.map PyData.int) = true
  | [] => rfl
  | n :: r => by
    show (true && PyData.canLayAll0 (r.map PyData.int)) = true
    rw [layInts r]
    rfl
theorem deepInts : ∀ ns : List Int, PyData.depthAll (ns.map PyData.int) = 0
  | [] => rfl
  | n :: r => by
    show max 0 (PyData.depthAll (r.map PyData.int)) = 0
    rw [deepInts r]
    rfl
theorem shapedInts (ns : List Int) : SeqAt.shaped (.list (ns.map PyData.int)) = true := by
  unfold SeqAt.shaped
  have h1 : PyData.canLay0 (.list (ns.map PyData.int)) = true := layInts ns
  have h2 : PyData.depth (.list (ns.map PyData.int)) = 1 := by
    show PyData.depthAll (ns.map PyData.int) + 1 = 1
    rw [deepInts]
  rw [h1, h2]
  rfl
theorem shapedNil : SeqAt.shaped (.list []) = true := by decide +kernel
section
variable {P : Program} {w : World} {K : PySem.W.Frag} {mg : Str → Option Value} {base : Heap}
def spPick : Sp := fun vs H Q _ => ∃ (p c : Addr) (ns : List Int) (m : Int), vs = [.ref p, .int m] ∧ 0 < m ∧ m < 1073741824 ∧ Pot p c ns H ∧ ∀ (v : Nat) H', (v : Int) < m → Keep p H H' → Pot p c ns H' → Q (.int v) H'
theorem ok_pick {f fB : Addr} {fd fdB : FuncData} {k : Nat} (F : Fun K "_law_pick" "_law_pick" sPick f fd) (FB : Fun K "_law_blend" "_law_blend" sBlend fB fdB) (bB : Binds K fdB ["cell", "at"] []) (gB : mg "_law_blend" = some (.ref fB)) (ml : mg "len" = none) :
    FnOk P w K mg base CX0 (k + 2) f fd ["pot", "many"] spPick := by
  have GB : FnOk P w K mg base CX0 (k + 1) fB fdB ["cell", "at"] spBlend := ok_blend FB
  have nd := scPick.nd
  refine F.ok scPick (fun vs H Q E h => ?_) (fun cdv A outer s H vs Q E hr h => ?_)
  · obtain ⟨p, c, ns, m, rfl, _⟩ := h
    rfl
  · obtain ⟨p, c, ns, m, rfl, m0, m1, hP, q⟩ := h
    refine ⟨_, pss_cut (ps_if (pt_cmpR op_lt (pe_ix ix_list (pv 0) pe_int (fun _ _ => rfl)) (pv 1) (nomark _))
       (pss_cons (ps_set (i := 2) nd rfl (.inl rfl) (pe_ix ix_list (pv 0) pe_int (fun _ _ => rfl)))
       (pss_cons (ps_set (i := 3) nd rfl (.inl rfl) (pe_op op_mul pe_int (pv 2)))
       (pss_cut (ps_if (pt_cmpR op_lt (pv 2) (pe_callB call_len_seq (by rfl) ml PySem.boot_len (pa_cons (pe_ix ix_list (pv 0) pe_int (fun _ _ => rfl)) pa_nil)) (nomark _))
            (pss_one (ps_set (i := 3) nd rfl (.inl rfl) (pe_ix ix_list (pe_ix ix_list (pv 0) pe_int (fun _ _ => rfl)) (pv 2) (fun _ _ => rfl))))
            (pss_one (ps_if (pt_cmpR (op_neD hr.units) (pe_ix ix_list (pv 0) pe_int (fun _ _ => rfl)) (pe_lst pa_nil) (nomark _))
              (pss_one (ps_set (i := 3) nd rfl (.inl rfl) (pe_op op_mod (pe_ix ix_list (pe_ix ix_list (pv 0) pe_int (fun _ _ => rfl)) (pe_op op_mod (pe_op op_add (pe_op op_mul (pv 2) pe_int) pe_int) (pe_callB call_len_seq (by rfl) ml PySem.boot_len (pa_cons (pe_ix ix_list (pv 0) pe_int (fun _ _ => rfl)) pa_nil))) (fun _ _ => rfl)) (pe_op op_add (pe_op op_pow pe_int pe_int) (pe_op op_mul pe_int (pv 2)))))) pss_nil)))
       (pss_cons (ps_asg (pe_op op_add (pv 2) pe_int) (pg_sub (pv 0) pe_int set_list))
       (pss_one (ps_asg (pe_call GB hr (by rfl) gB FB.kp bB .nil pass0 (pa_cons (pv 3) (pa_cons (pv 2) pa_nil))) (pg_sub (pv 0) pe_int set_list)))))))
       pss_nil)
      (pss_cons (ps_set (i := 4) nd rfl (.inl rfl) (pe_op op_mod (pe_ix ix_list (pv 0) pe_int (fun _ _ => rfl)) (pv 1)))
      (pss_cons (ps_asg (pe_op op_fdiv (pe_ix ix_list (pv 0) pe_int (fun _ _ => rfl)) (pv 1)) (pg_sub (pv 0) pe_int set_list))
      (pss_one (ps_ret (pv 4))))), ?_⟩
    have hne := hP.ne
    obtain ⟨a, r, a0, hp, hc⟩ := hP
    refine ⟨fun σ' H' => (∃ y2 y3, σ' = [some (.ref p), some (.int m), y2, y3, none]) ∧ Keep p H H' ∧ Pot p c ns H', ?_, ?_⟩
    · refine ⟨_, rfl, p, _, 2, .int r, rfl, rfl, sq_of hp, rfl, _, rfl, _, _, rfl, rfl, _, rfl, ite2 (fun e => ?_) (fun e => ?_)⟩
      · refine ⟨_, rfl, p, _, 1, .int a, rfl, rfl, sq_of hp, rfl, ?_⟩
        refine ⟨_, rfl, _, _, rfl, rfl, .inl ⟨by decide, by decide⟩, ?_⟩
        refine ⟨fun σ' H' => ∃ y3 : Int, σ' = [some (.ref p), some (.int m), some (.int a), some (.int y3), none] ∧ Ex H H', ?_, ?_⟩
        · refine ⟨_, rfl, _, rfl, p, _, 0, .ref c, rfl, rfl, sq_of hp, rfl, c, _, rfl, .inl (sq_of hc), _, _, rfl, rfl, _, rfl, ite2 (fun e => ?_) (fun e => ?_)⟩
          · have ha : a < (ns.map V.int).length := of_decide_eq_true e
            have hb : a.toNat < ns.length := by
              rw [List.length_map] at ha
              omega
            refine ⟨_, rfl, p, _, 0, .ref c, rfl, rfl, sq_of hp, rfl, _, rfl, c, _, a, .int ns[a.toNat], rfl, rfl, sq_of hc, at_of (j := a.toNat) (by omega) ?_, _, rfl, Ex.refl _⟩
            rw [List.getElem?_map, List.getElem?_eq_getElem hb]
            rfl
          · refine ⟨_, rfl, p, _, 0, .ref c, rfl, rfl, sq_of hp, rfl, Nat.zero_le _, fun u hu => ?_⟩
            have e1 : Ex H (upd H u (.lst [])) := Ex.new hu
            refine ⟨.list (ns.map PyData.int), .list [], .lst (sq_of (e1 _ _ hc)) (dpInts ns), .lst (sq_of upd_same) .nil, shapedInts ns, shapedNil, _, rfl, ite2 (fun e => ?_) (fun e => ?_)⟩
            · have h0 : 0 < ns.length := by
                cases ns with
                | nil => exact absurd e (by decide)
                | cons x t => exact Nat.succ_pos _
              have hl : (0 : Int) < ((ns.map V.int).length : Int) := by
                rw [List.length_map]
                omega
              have g0 := Int.emod_nonneg (a * 7 + 1) (show ((ns.map V.int).length : Int) ≠ 0 by omega)
              have g1 := Int.emod_lt_of_pos (a * 7 + 1) hl
              have hb : ((a * 7 + 1) % ((ns.map V.int).length : Int)).toNat < ns.length := by
                rw [List.length_map] at g0 g1 ⊢
                omega
              refine ⟨_, rfl, p, _, 0, .ref c, rfl, rfl, sq_of (e1 _ _ hp), rfl, _, rfl, _, _, rfl, rfl, .inr ⟨by decide, by decide⟩, _, _, rfl, rfl, _, rfl, p, _, 0, .ref c, rfl, rfl, sq_of (e1 _ _ hp), rfl, c, _, rfl, .inl (sq_of (e1 _ _ hc)), _, _, rfl, rfl, hl, c, _, _, .int ns[((a * 7 + 1) % ((ns.map V.int).length : Int)).toNat], rfl, rfl, sq_of (e1 _ _ hc), at_of (j := ((a * 7 + 1) % ((ns.map V.int).length : Int)).toNat) (by omega) ?_, _, _, rfl, rfl, ⟨by decide, by decide, by decide⟩, _, rfl, _, _, rfl, rfl, .inl ⟨by decide, by decide⟩, _, _, rfl, rfl, _, _, rfl, rfl, ?_, _, rfl, e1⟩
              · rw [List.getElem?_map, List.getElem?_eq_getElem hb]
                rfl
              · show (0 : Int) < 10 ^ (17 : Int).toNat + 3 * a
                have : (10 : Int) ^ (17 : Int).toNat = 100000000000000000 := by decide
                omega
            · exact ⟨_, rfl, e1⟩
        · rintro σ' H' ⟨y3, rfl, e1⟩
          refine ⟨_, rfl, _, _, rfl, rfl, _, rfl, p, _, 1, 1, rfl, rfl, e1 _ _ hp, rfl, ?_⟩
          refine ⟨_, rfl, _, rfl, _, _, rfl, fun v => ⟨_, rfl, p, _, 2, 2, rfl, rfl, upd_same, rfl, ⟨_, _, rfl⟩, ?_, a + 1, v, by omega, upd_same, ?_⟩⟩
          · exact ((Keep.ofEx e1).at).at
          · rw [upd_ne hne, upd_ne hne]
            exact e1 _ _ hc
      · exact ⟨⟨_, _, rfl⟩, Keep.refl _ _, a, r, a0, hp, hc⟩
    · rintro σ' H' ⟨⟨y2, y3, rfl⟩, kp, a', r', a0', hp', hc'⟩
      have g0 := Int.emod_nonneg r' (show m ≠ 0 by omega)
      have g1 := Int.emod_lt_of_pos r' m0
      refine ⟨_, rfl, p, _, 2, .int r', rfl, rfl, sq_of hp', rfl, _, rfl, _, _, rfl, rfl, m0, ?_⟩
      refine ⟨_, rfl, p, _, 2, .int r', rfl, rfl, sq_of hp', rfl, _, rfl, _, _, rfl, rfl, ⟨m0, m1⟩, _, rfl, p, _, 2, 2, rfl, rfl, hp', rfl, ?_⟩
      refine ⟨_, rfl, ?_⟩
      have e : r' % m = ((r' % m).toNat : Int) := by omega
      show Q (.int (r' % m)) _
      rw [e]
      refine q _ _ (by omega) kp.at ⟨a', r' / m, a0', upd_same, ?_⟩
      rw [upd_ne hne]
      exact hc'
end
end Eh
set_option Elab.async false
set_option linter.all false
set_option maxRecDepth 100000
set_option maxHeartbeats 4000000
namespace Eh
open PySem PySem.Spec PyProof.Rows L2 Evl
/-- for i, x in enumerate(list) -/
theorem for_enum {K : PySem.W.Frag} {a : Addr} {xs : List V} {tb : TS} {D : Ends} {σ : L2.St} {H : Hp} {i1 i2 : Nat} (Pv : Nat → L2.St → Hp → Prop) (h0 : Pv 0 σ H) (hl : ∀ i σ H, i ≤ xs.length → Pv i σ H → SqL K H a xs)
    (hs : ∀ i x σ H T, xs[i]? = some x → Pv i σ H → H T = none → tb { D with nx := Pv (i + 1), ct := Pv (i + 1), bk := D.nx } ((σ.set i1 (some (.int (i : Nat)))).set i2 (some x)) (upd H T (.tup [.int (i : Nat), x])))
    (hd : ∀ σ H, Pv xs.length σ H → D.nx σ H) :
    ∃ W : Nat → Nat → L2.St → Hp → Prop, (∃ m, W 0 m σ H) ∧ ∀ i m σ H, W i m σ H →
      ((Ite K a).stop i H ∧ D.nx σ H) ∨ ((Ite K a).go i H ∧ ∃ N : L2.St → Hp → Prop, (∀ σ' H', N σ' H' → ∃ m', m' < m ∧ W (i + 1) m' σ' H') ∧ ∀ x H', (Ite K a).yld i H x H' → gTup K 2 (gCons (gName i1) (gCons (gName i2) gNil)) x σ H' fun σ2 H2 => tb { D with nx := N, ct := N, bk := D.nx } σ2 H2) := by
  refine ⟨fun i m σ H => m = xs.length - i ∧ i ≤ xs.length ∧ Pv i σ H, ⟨xs.length, by omega, Nat.zero_le _, h0⟩, ?_⟩
  rintro i m σ H ⟨rfl, hi, p⟩
  have q := hl i σ H hi p
  by_cases hlt : i < xs.length
  · refine .inr ⟨⟨xs, xs[i], q, List.getElem?_eq_getElem hlt⟩, Pv (i + 1), fun σ' H' p' => ⟨xs.length - (i + 1), by omega, rfl, hlt, p'⟩, fun v H' y => ?_⟩
    obtain ⟨T, x, rfl, nT, rfl, f⟩ := y
    exact ⟨T, [.int (i : Nat), x], rfl, st_of upd_same, rfl, _, _, rfl, _, _, rfl, rfl, hs i x σ H T (f xs q) p nT⟩
  · have e : i = xs.length := by omega
    subst e
    exact .inl ⟨⟨xs, q, Nat.le_refl _⟩, hd σ H p⟩
theorem cut0 (xs : List V) (n : Nat) : cutV xs none (some (n : Int)) = xs.take n := by
  unfold cutV
  rw [HT.sIx_none, HT.sIx_nat, List.drop_zero, Nat.sub_zero]
  rw [List.take_eq_take_iff]
  omega
theorem cutF (xs : List V) (n : Nat) : cutV xs (some (n : Int)) none = xs.drop n := by
  unfold cutV
  rw [HT.sIx_none, HT.sIx_nat]
  by_cases h : n ≤ xs.length
  · rw [Nat.min_eq_left h]
    exact List.take_of_length_le (by rw [List.length_drop]; exact Nat.le_refl _)
  · rw [Nat.min_eq_right (by omega), List.drop_of_length_le (Nat.le_refl _), List.drop_of_length_le (by omega)]
    exact List.take_nil
theorem cutLH (xs : List V) (n m : Nat) : cutV xs (some (n : Int)) (some (m : Int)) = (xs.take m).drop n := by
  unfold cutV
  rw [HT.sIx_nat, HT.sIx_nat, List.drop_take]
  by_cases h : n ≤ xs.length
  · rw [Nat.min_eq_left h, List.take_eq_take_iff, List.length_drop]
    omega
  · rw [Nat.min_eq_right (show xs.length ≤ n by omega), List.drop_of_length_le (Nat.le_refl _), List.drop_of_length_le (show xs.length ≤ n by omega), List.take_nil, List.take_nil]
section
variable {P : Program} {w : World} {K : PySem.W.Frag} {mg : Str → Option Value} {base : Heap}
def spPot (K : PySem.W.Frag) : Sp := fun vs H Q _ => ∃ (a : Addr) (ns : List Int), vs = [.ref a] ∧ SqL K H a (ns.map V.int) ∧ ns.length ≤ 63 ∧ ∀ (p c : Addr) (ms : List Int) H', Ex H H' → Pot p c ms H' → H p = none → H c = none → Q (.ref p) H'
theorem ok_pot {f : Addr} {fd : FuncData} {k : Nat} (F : Fun K "_law_pot" "_law_pot" sPot f fd) (ml : mg "list" = none) (me : mg "enumerate" = none) :
    FnOk P w K mg base CX0 (k + 1) f fd ["script"] (spPot K) := by
  have nd := scPot.nd
  refine F.ok scPot (fun vs H Q E h => ?_) (fun cdv A outer s H vs Q E hr h => ?_)
  · obtain ⟨a, ns, rfl, _⟩ := h
    rfl
  · obtain ⟨a, ns, rfl, hS, hl, q⟩ := h
    refine ⟨_, pss_cons (ps_set (i := 1) nd rfl (.inl rfl) (pe_callTy call_list_of (by rfl) ml (by decide +kernel) (pa_cons (pe_slice sl_list (pv 0) po_none (po_some pe_int)) pa_nil)))
      (pss_cons (ps_for PassesOwn.never rfl (pi_enum (by rfl) me (pa_cons (pe_slice sl_list (pv 0) (po_some pe_int) (po_some pe_int)) pa_nil)) (pg_tup rfl (pgs_cons (pg_name (i := 2) nd rfl (.inl rfl)) (pgs_cons (pg_name (i := 3) nd rfl (.inl rfl)) pgs_nil)))
         (pss_one (ps_asg (pe_op op_add (pe_ix ix_list (pv 1) (pe_op op_mod (pv 2) pe_int) (fun _ _ => rfl)) (pv 3)) (pg_sub (pv 1) (pe_op op_mod (pv 2) pe_int) set_list))))
      (pss_one (ps_ret (pe_lst (pa_cons (pv 1) (pa_cons pe_int (pa_cons pe_int pa_nil))))))), ?_⟩
    refine ⟨_, rfl, 12, rfl, a, _, rfl, hS, fun u hu => ⟨u, _, rfl, .inl (sq_of upd_same), fun c hc => ?_⟩⟩
    have hcu : c ≠ u := fun e => by
      rw [e, upd_same] at hc
      cases hc
    have hcH : H c = none := by rw [← hc, upd_ne hcu]
    have e1 : Ex H (upd (upd H u (.lst (cutV (ns.map V.int) none (some 12)))) c (.lst (cutV (ns.map V.int) none (some 12)))) := (Ex.new hu).trans (Ex.new hc)
    have ec : cutV (ns.map V.int) none (some 12) = (ns.take 12).map V.int := by
      rw [show (some 12 : Option Int) = some ((12 : Nat) : Int) from rfl, cut0, List.map_take]
    rw [ec] at e1
    rw [ec]
    generalize hH1 : upd (upd H u (.lst ((ns.take 12).map V.int))) c (.lst ((ns.take 12).map V.int)) = H1 at e1 ⊢
    have hc1 : H1 c = some (.lst ((ns.take 12).map V.int)) := by
      rw [← hH1]
      exact upd_same
    refine ⟨_, rfl, 12, rfl, 63, rfl, a, _, rfl, ex_l e1 hS, fun l nl => ?_⟩
    have es : cutV (ns.map V.int) (some 12) (some 63) = ((ns.take 63).drop 12).map V.int := by
      rw [show (some 12 : Option Int) = some ((12 : Nat) : Int) from rfl, show (some 63 : Option Int) = some ((63 : Nat) : Int) from rfl, cutLH, List.map_drop, List.map_take]
    rw [es]
    have nlc : l ≠ c := fun e => by
      rw [e, hc1] at nl
      cases nl
    refine ⟨l, _, rfl, sq_of upd_same, for_enum (xs := ((ns.take 63).drop 12).map V.int) (fun i σ H' => (∃ y2 y3, σ = [some (.ref a), some (.ref c), y2, y3]) ∧ Ex H H' ∧ H' l = some (.lst (((ns.take 63).drop 12).map V.int)) ∧ ∃ ms : List Int, ms.length = min 12 ns.length ∧ H' c = some (.lst (ms.map V.int))) ?_ ?_ ?_ ?_⟩
    · refine ⟨⟨_, _, rfl⟩, e1.trans (Ex.new nl), upd_same, ns.take 12, ?_, ?_⟩
      · rw [List.length_take]
      · rw [upd_ne nlc.symm]
        exact hc1
    · rintro i σ H' _ ⟨_, _, h, _⟩
      exact sq_of h
    · rintro i x σ H' T hx ⟨⟨y2, y3, rfl⟩, eH, hl', ms, hms, hc'⟩ nT
      have ex : ∃ z : Int, x = .int z := by
        rw [List.getElem?_map] at hx
        obtain ⟨z, _, e⟩ := Option.map_eq_some_iff.mp hx
        exact ⟨z, e.symm⟩
      obtain ⟨z, rfl⟩ := ex
      have hi : 12 < ns.length := by
        have := (List.getElem?_eq_some_iff.mp hx).1
        rw [List.length_map, List.length_drop, List.length_take] at this
        omega
      have g0 : ((i : Int) % 12) = ((i % 12 : Nat) : Int) := by omega
      have hj : i % 12 < ms.length := by
        rw [hms]
        have := Nat.mod_lt i (show 0 < 12 by decide)
        omega
      have eT : Ex H' (upd H' T (.tup [.int (i : Nat), .int z])) := Ex.new nT
      have ix : (ms.map V.int)[i % 12]? = some (.int ms[i % 12]) := by
        rw [List.getElem?_map, List.getElem?_eq_getElem hj]
        rfl
      refine ⟨_, rfl, _, rfl, _, _, rfl, rfl, (by show (0 : Int) < _; decide), c, _, _, _, rfl, rfl, sq_of (eT _ _ hc'), at_of (j := i % 12) g0 ix, _, rfl, _, _, rfl, rfl, _, rfl, _, rfl, _, _, rfl, rfl, (by show (0 : Int) < _; decide), c, _, _, i % 12, rfl, rfl, eT _ _ hc', ?_, ⟨_, _, rfl⟩, ?_, ?_, ms.set (i % 12) (ms[i % 12] + z), ?_, ?_⟩
      · show ixN _ ((i : Int) % 12) = _
        rw [g0]
        exact ixN_nat (by rw [List.length_map]; exact hj)
      · exact Ex.mut (eH.trans eT) hcH
      · rw [upd_ne nlc]
        exact eT _ _ hl'
      · rw [List.length_set]
        exact hms
      · rw [upd_same, List.map_set]
    · rintro σ H' ⟨⟨y2, y3, rfl⟩, eH, hl', ms, hms, hc'⟩
      refine ⟨_, rfl, (by show 3 ≤ sizeLine; decide), fun p np => q p c ms _ (eH.trans (Ex.new np)) ⟨0, 0, by decide, upd_same, ?_⟩ (fresh_back eH np) hcH⟩
      have : c ≠ p := fun e => by
        rw [← e, hc'] at np
        cases np
      rw [upd_ne this]
      exact hc'
end
end Eh
set_option Elab.async false
set_option linter.all false
set_option maxRecDepth 100000
set_option maxHeartbeats 4000000
namespace Eh
open PySem PySem.Spec PyProof.Rows L2 Evl TL
/-! texts as lists of codes -/
abbrev cs (w : Str) : List Nat := w.cps.toList
theorem cs_ext {x y : Str} (h : cs x = cs y) : x = y := by
  cases x with | mk a => cases y with | mk b =>
  have : a = b := by
    apply Array.ext'
    exact h
  rw [this]
def az (c : Nat) : Prop := 97 ≤ c ∧ c < 123
/-- what is drawn as a letter -/
def Ltr (w : Str) : Prop := (∀ c ∈ cs w, az c) ∧ 1 ≤ (cs w).length ∧ (cs w).length ≤ 8
def spotAt (spot n : Nat) : Nat := if spot = 0 then 0 else if spot = 1 then n else n / 2
def mkL (rest : List Nat) (spot turn size k : Nat) : List Nat :=
  (rest.take ((size + k * (spot % 2)) % 8)).take (spotAt spot (rest.take ((size + k * (spot % 2)) % 8)).length) ++ ([97 + (turn + 5 * k) % 26] ++ (rest.take ((size + k * (spot % 2)) % 8)).drop (spotAt spot (rest.take ((size + k * (spot % 2)) % 8)).length))
theorem mkL_inj {rest : List Nat} {spot turn size k1 k2 : Nat} (hs : spot < 3) (h1 : k1 < 26) (h2 : k2 < 26) (h : mkL rest spot turn size k1 = mkL rest spot turn size k2) : k1 = k2 := by
  have key : 97 + (turn + 5 * k1) % 26 = 97 + (turn + 5 * k2) % 26 → k1 = k2 := fun e => by omega
  apply key
  unfold mkL at h
  have cases3 : spot = 0 ∨ spot = 1 ∨ spot = 2 := by omega
  rcases cases3 with rfl | rfl | rfl
  · simp only [spotAt, if_true, List.take_zero, List.nil_append, List.cons_append] at h
    exact (List.cons.inj h).1
  · have n1 : ∀ l : List Nat, spotAt 1 l.length = l.length := fun l => rfl
    rw [n1, n1, List.take_length, List.take_length, List.drop_length, List.drop_length, List.append_nil, List.append_nil] at h
    exact (List.cons.inj (List.append_inj' h rfl).2).1
  · rw [show k1 * (2 % 2) = 0 from Nat.mul_zero _, show k2 * (2 % 2) = 0 from Nat.mul_zero _] at h
    have := List.append_cancel_left h
    exact (List.cons.inj this).1
theorem mkL_len {rest : List Nat} {spot turn size k : Nat} : (mkL rest spot turn size k).length = (rest.take ((size + k * (spot % 2)) % 8)).length + 1 := by
  unfold mkL
  generalize rest.take ((size + k * (spot % 2)) % 8) = l
  rw [List.length_append, List.length_append, List.length_take, List.length_drop, List.length_singleton]
  omega
theorem mkL_az {rest : List Nat} {spot turn size k : Nat} (h : ∀ c ∈ rest, az c) : ∀ c ∈ mkL rest spot turn size k, az c := by
  intro c hc
  unfold mkL at hc
  rcases List.mem_append.mp hc with q | q
  · exact h c (List.mem_of_mem_take (List.mem_of_mem_take q))
  · rcases List.mem_append.mp q with q | q
    · rw [List.mem_singleton.mp q]
      unfold az
      omega
    · exact h c (List.mem_of_mem_take (List.mem_of_mem_drop q))
def mkS (rest : List Nat) (spot turn size k : Nat) : Str := ⟨(mkL rest spot turn size k).toArray⟩
theorem cs_mkS {rest : List Nat} {spot turn size k : Nat} : cs (mkS rest spot turn size k) = mkL rest spot turn size k := rfl
def mkAll (rest : List Nat) (spot turn size n : Nat) : List Str := (List.range n).map (mkS rest spot turn size)
theorem mkAll_nodup {rest : List Nat} {spot turn size n : Nat} (hs : spot < 3) (hn : n ≤ 26) : (mkAll rest spot turn size n).Nodup := by
  unfold mkAll
  rw [List.Nodup, List.pairwise_map]
  refine List.Pairwise.imp_of_mem (fun {a b} ha hb hab e => hab ?_) (List.nodup_range (n := n))
  have ha' := List.mem_range.mp ha
  have hb' := List.mem_range.mp hb
  exact mkL_inj hs (by omega) (by omega) (by
    have := congrArg cs e
    exact this)
theorem mkAll_ltr {rest : List Nat} {spot turn size n : Nat} (h : ∀ c ∈ rest, az c) : ∀ w ∈ mkAll rest spot turn size n, Ltr w := by
  intro w hw
  obtain ⟨k, _, rfl⟩ := List.mem_map.mp hw
  refine ⟨fun c hc => mkL_az h c hc, ?_, ?_⟩
  · rw [cs_mkS, mkL_len]
    omega
  · rw [cs_mkS, mkL_len, List.length_take]
    omega
theorem joinL_nil : ∀ ls : List (List Nat), joinL [] ls = ls.flatten
  | [] => rfl
  | [p] => by simp [joinL]
  | p :: q :: r => by
    show p ++ ([] ++ joinL [] (q :: r)) = (p :: q :: r).flatten
    rw [joinL_nil (q :: r), List.nil_append]
    rfl
theorem flat_one : ∀ ds : List Nat, (ds.map fun c => [c]).flatten = ds
  | [] => rfl
  | d :: r => by
    show [d] ++ (r.map fun c => [c]).flatten = d :: r
    rw [flat_one r]
    rfl
theorem cs_join (ds : List Nat) : cs (Txt.join (Str.ofString "") (ds.map fun c => (⟨#[c]⟩ : Str))) = ds := by
  have h := tl_join (Str.ofString "") (ds.map fun c => (⟨#[c]⟩ : Str))
  rw [← join_eq, show tl (Str.ofString "") = [] from rfl, joinL_nil, List.map_map] at h
  exact h.trans (flat_one ds)
abbrev alpha : Str := Str.ofString "abcdefghijklmnopqrstuvwxyz"
theorem cs_alpha : cs alpha = (List.range 26).map (97 + ·) := by decide +kernel
theorem alpha_at {v : Nat} (h : v < 26) : atI (cs alpha) (v : Int) = some (97 + v) := by
  refine atI_nat ?_
  rw [cs_alpha, List.getElem?_map, List.getElem?_range h]
  rfl
theorem cs_app (x y : Str) : cs (x ++ y) = cs x ++ cs y := tl_append x y
theorem len_cs (x : Str) : x.length = (cs x).length := by simp [Str.length]
theorem cs_cut0 (x : Str) (n : Nat) : cs (cutS x none (some (n : Int))) = (cs x).take n := by
  unfold cutS
  rw [HT.sIx_none, HT.sIx_nat]
  show ((cs x).drop 0).take _ = _
  rw [List.drop_zero, Nat.sub_zero, List.take_eq_take_iff, len_cs]
  omega
theorem cs_cutF (x : Str) (n : Nat) : cs (cutS x (some (n : Int)) none) = (cs x).drop n := by
  unfold cutS
  rw [HT.sIx_none, HT.sIx_nat, len_cs]
  show ((cs x).drop _).take _ = _
  by_cases h : n ≤ (cs x).length
  · rw [Nat.min_eq_left h]
    exact List.take_of_length_le (by rw [List.length_drop]; exact Nat.le_refl _)
  · rw [Nat.min_eq_right (show (cs x).length ≤ n by omega), List.drop_of_length_le (Nat.le_refl _), List.drop_of_length_le (show (cs x).length ≤ n by omega), List.take_nil]
end Eh
set_option Elab.async false
set_option linter.all false
set_option maxRecDepth 100000
set_option maxHeartbeats 4000000
namespace Eh
open PySem PySem.Spec PyProof.Rows L2 Evl
abbrev lS (ws : List Str) : HO := .lst (ws.map V.str)
abbrev nLetters : List Str := ["pot", "many", "small", "k", "rest", "spot", "turn", "size", "found", "part", "at"]
theorem yesT {σ : L2.St} {H : Hp} {A B : Hp → Prop} (h : A H) : tYes σ H (fun b H3 => if b = true then A H3 else B H3) := by
  show if true = true then A H else B H
  exact iteT h
theorem Pot.ne_new {p c q : Addr} {ns : List Int} {H : Hp} (h : Pot p c ns H) (hq : H q = none) : p ≠ q ∧ c ≠ q := by
  obtain ⟨a, r, h0, h1, h2⟩ := h
  exact ⟨ne_of_none h1 hq, ne_of_none h2 hq⟩
section
variable {P : Program} {w : World} {K : PySem.W.Frag} {mg : Str → Option Value} {base : Heap}
def spLetters : Sp := fun vs H Q _ => ∃ (p c : Addr) (ns : List Int) (m : Nat), vs = [.ref p, .int (m : Int)] ∧ m ≤ 26 ∧ Pot p c ns H ∧
  ∀ (ws : List Str) l H', ws.length = m → ws.Nodup → (∀ x ∈ ws, Ltr x) → Keep p H H' → Pot p c ns H' → H l = none → H' l = some (lS ws) → Q (.ref l) H'
theorem ok_letters {f fP : Addr} {fd fdP : FuncData} {k : Nat} (F : Fun K "_law_letters" "_law_letters" sLetters f fd) (FP : Fun K "_law_pick" "_law_pick" sPick fP fdP) (GP : FnOk P w K mg base CX0 (k + 1) fP fdP ["pot", "many"] spPick) (bP : Binds K fdP ["pot", "many"] []) (gP : mg "_law_pick" = some (.ref fP)) (ml : mg "len" = none) (mr : mg "range" = none) :
    FnOk P w K mg base CX0 (k + 2) f fd ["pot", "many"] spLetters := by
  have nd := scLetters.nd
  refine F.ok scLetters (fun vs H Q E h => ?_) (fun cdv A outer s H vs Q E hr h => ?_)
  · obtain ⟨p, c, ns, m, rfl, _⟩ := h
    rfl
  · obtain ⟨p, c, ns, m, rfl, m1, hP, q⟩ := h
    refine ⟨_, pss_cons (ps_set (i := 2) nd rfl (.inr rfl) pe_str)
      (pss_cons (ps_set (i := 4) nd rfl (.inl rfl) (pe_join pe_str (pe_lc (own := [("k", 3)]) (g := gName 3) (tt := tYes) (by rfl) nd (pi_range1 (by rfl) mr (pa_cons pe_int pa_nil)) (blkOk_by (own := [("k", 3)]) (N := nLetters) (sc := defScope sLetters) (by decide +kernel)) (fun _ _ _ _ _ => pg_name (i := 3) nd rfl (Or.inl rfl)) (fun _ _ _ _ _ => pts_nil)
          (fun _ _ _ _ _ => pe_ix ix_str (pv 2) (pe_call GP hr (by rfl) gP FP.kp bP .nil pass0 (pa_cons (pv 0) (pa_cons pe_int pa_nil))) (fun _ _ => rfl)))))
      (pss_cons (ps_set (i := 5) nd rfl (.inl rfl) (pe_call GP hr (by rfl) gP FP.kp bP .nil pass0 (pa_cons (pv 0) (pa_cons pe_int pa_nil))))
      (pss_cons (ps_set (i := 6) nd rfl (.inl rfl) (pe_call GP hr (by rfl) gP FP.kp bP .nil pass0 (pa_cons (pv 0) (pa_cons pe_int pa_nil))))
      (pss_cons (ps_set (i := 7) nd rfl (.inl rfl) (pe_call GP hr (by rfl) gP FP.kp bP .nil pass0 (pa_cons (pv 0) (pa_cons pe_int pa_nil))))
      (pss_cons (ps_set (i := 8) nd rfl (.inl rfl) (pe_lst pa_nil))
      (pss_cons (ps_for PassesOwn.never rfl (pi_range1 (by rfl) mr (pa_cons (pv 1) pa_nil)) (pg_name (i := 3) nd rfl (.inl rfl))
        (pss_cons (ps_set (i := 9) nd rfl (.inl rfl) (pe_slice sl_str (pv 4) po_none (po_some (pe_op op_mod (pe_op op_add (pv 7) (pe_op op_mul (pv 3) (pe_op op_mod (pv 5) pe_int))) pe_int))))
        (pss_cons (ps_set (i := 10) nd rfl (.inl rfl) (pe_ix ix_list (pe_lst (pa_cons pe_int (pa_cons (pe_callB call_len_str (by rfl) ml PySem.boot_len (pa_cons (pv 9) pa_nil)) (pa_cons (pe_op op_fdiv (pe_callB call_len_str (by rfl) ml PySem.boot_len (pa_cons (pv 9) pa_nil)) pe_int) pa_nil)))) (pv 5) (fun _ _ => rfl)))
        (pss_one (ps_expr (pe_bm PySem.F.plainAttrs_list PySem.F.slot_list_append PySem.F.type_list_append mt_append (pv 8) (pa_cons (pe_op op_add_str (pe_op op_add_str (pe_slice sl_str (pv 9) po_none (po_some (pv 10))) (pe_ix ix_str (pv 2) (pe_op op_mod (pe_op op_add (pv 6) (pe_op op_mul pe_int (pv 3))) pe_int) (fun _ _ => rfl))) (pe_slice sl_str (pv 9) (po_some (pv 10)) po_none)) pa_nil)))))))
      (pss_one (ps_ret (pv 8))))))))), ?_⟩
    -- rest
    refine ⟨⟨_, rfl⟩, 7, rfl, by decide, by decide, fun D nD => ?_⟩
    refine lc_range (lo := 0) (n := 7) (fun i H' => ∃ ds : List Nat, ds.length = i ∧ (∀ d ∈ ds, az d) ∧ H' D = some (.lst (ds.map fun d => .str ⟨#[d]⟩)) ∧ Keep p H H' ∧ Pot p c ns H') ?_ ?_ ?_
    · exact ⟨[], rfl, fun d hd => (List.not_mem_nil hd).elim, upd_same, (Keep.refl p H).new nD, hP.new (hP.ne_new nD).1 (hP.ne_new nD).2⟩
    · rintro i H' hi ⟨ds, hds, haz, hD, kp, hP'⟩
      refine ⟨rfl, ?_⟩
      refine yesT ?_
      refine ⟨_, rfl, _, rfl, p, c, ns, 26, rfl, by decide, by decide, hP', fun v H2 hv kp2 hP2 => ?_⟩
      have hv' : v < 26 := by omega
      have hpD := (hP.ne_new nD).1
      have hD2 : H2 D = some (.lst (ds.map fun d => .str ⟨#[d]⟩)) := kp2 _ _ hpD.symm hD
      refine ⟨_, _, 97 + v, rfl, rfl, by decide, alpha_at hv', _, hD2, ?_, ds ++ [97 + v], ?_, ?_, ?_, ?_, ?_⟩
      · rw [List.length_map]
        exact sz_lt (by omega)
      · rw [List.length_append, hds]
        rfl
      · intro d hd
        rcases List.mem_append.mp hd with z | z
        · exact haz d z
        · rw [List.mem_singleton.mp z]
          unfold az
          omega
      · rw [upd_same, List.map_append]
        rfl
      · exact (kp.trans kp2).new nD
      · exact hP2.new hpD (hP.ne_new nD).2
    · rintro H1 ⟨ds, hds, haz, hD, kp, hP1⟩
      have hlen : ((ds.map fun d => (⟨#[d]⟩ : Str)).map (·.length)).sum ≤ 100 := by
        have : ∀ l : List Nat, ((l.map fun d => (⟨#[d]⟩ : Str)).map (·.length)).sum = l.length := fun l => by
          induction l with
          | nil => rfl
          | cons x r ih =>
            rw [List.map_cons, List.map_cons, List.sum_cons, ih, List.length_cons, show (⟨#[x]⟩ : Str).length = 1 from rfl]
            omega
        rw [this]
        omega
      refine ⟨_, D, ds.map fun d => (⟨#[d]⟩ : Str), rfl, rfl, .inl (sq_of (by rw [List.map_map]; exact hD)), ?_, ?_⟩
      · rw [List.length_map, show (Str.ofString "").length = 0 from rfl]
        omega
      · generalize hR : Txt.join (Str.ofString "") (ds.map fun d => (⟨#[d]⟩ : Str)) = rest
        have cR : cs rest = ds := by
          rw [← hR]
          exact cs_join ds
        -- spot, turn, size
        refine ⟨_, rfl, p, c, ns, 3, rfl, by decide, by decide, hP1, fun spot H2 hspot kp2 hP2 => ?_⟩
        refine ⟨_, rfl, p, c, ns, 26, rfl, by decide, by decide, hP2, fun turn H3 hturn kp3 hP3 => ?_⟩
        refine ⟨_, rfl, p, c, ns, 8, rfl, by decide, by decide, hP3, fun size H4 hsize kp4 hP4 => ?_⟩
        have kp04 : Keep p H H4 := ((kp.trans kp2).trans kp3).trans kp4
        refine ⟨Nat.zero_le _, fun l nl => ?_⟩
        have hpl := hP4.ne_new nl
        have nlH : H l = none := by
          cases e : H l with
          | none => rfl
          | some o =>
            by_cases z : l = p
            · exact absurd z.symm hpl.1
            · rw [kp04 l o z e] at nl
              cases nl
        refine ⟨_, rfl, m, rfl, by omega, by omega, for_range (lo := 0) (n := ((m : Int)).toNat) (fun i σ H' => (∃ y3 y9 y10, σ = [some (.ref p), some (.int (m : Int)), some (.str alpha), y3, some (.str rest), some (.int (spot : Int)), some (.int (turn : Int)), some (.int (size : Int)), some (.ref l), y9, y10]) ∧ Keep p H H' ∧ Pot p c ns H' ∧ H' l = some (lS (mkAll (cs rest) spot turn size i))) ?_ ?_ ?_⟩
        · exact ⟨⟨_, _, _, rfl⟩, kp04.new nlH, hP4.new hpl.1 hpl.2, upd_same⟩
        · rintro i σ H' hi ⟨⟨y3, y9, y10, rfl⟩, kp', hP', hl'⟩
          have hi' : i < m := by omega
          have e0 : (0 : Int) + (i : Int) = (i : Int) := Int.zero_add _
          rw [e0]
          have e1 : ((size : Int) + (i : Int) * ((spot : Int) % 2)) % 8 = (((size + i * (spot % 2)) % 8 : Nat) : Int) := by
            rw [show ((spot : Int) % 2) = ((spot % 2 : Nat) : Int) by omega, ← Int.natCast_mul]
            generalize i * (spot % 2) = z
            omega
          have lenR : rest.length ≤ sizeLine := sz_of (by rw [len_cs, cR]; omega)
          refine ⟨_, rfl, _, rfl, _, rfl, _, rfl, _, _, rfl, rfl, (by show (0 : Int) < _; decide), _, _, rfl, rfl, .inr (by rcases (show spot % 2 = 0 ∨ spot % 2 = 1 by omega) with z | z <;> exact ⟨by show -(2 ^ 64) < (spot : Int) % 2; omega, by show (spot : Int) % 2 < 2 ^ 64; omega⟩), _, _, rfl, rfl, _, _, rfl, rfl, (by show (0 : Int) < _; decide), _, rfl, rest, rfl, lenR, ?_⟩
          show tSeq _ _ _ [some (.ref p), some (.int (m : Int)), some (.str alpha), some (.int (i : Int)), some (.str rest), some (.int (spot : Int)), some (.int (turn : Int)), some (.int (size : Int)), some (.ref l), some (.str (cutS rest none (some (((size : Int) + (i : Int) * ((spot : Int) % 2)) % 8)))), y10] H'
          rw [e1]
          have cP := cs_cut0 rest ((size + i * (spot % 2)) % 8)
          generalize cutS rest none (some (((size + i * (spot % 2)) % 8 : Nat) : Int)) = part at cP
          have lp : part.length ≤ 8 := by
            rw [len_cs, cP, List.length_take, cR]
            omega
          have lpS : part.length ≤ sizeLine := sz_of (by omega)
          -- at
          refine ⟨_, rfl, part, rfl, lpS, _, rfl, part, rfl, lpS, _, _, rfl, rfl, ⟨by decide, by decide⟩, (by show 3 ≤ sizeLine; decide), fun t nt => ?_⟩
          have eT : Ex H' (upd H' t (.lst [.int 0, .int (part.length : Int), .int ((part.length : Int) / 2)])) := Ex.new nt
          refine ⟨_, rfl, t, _, _, .int (spotAt spot part.length : Nat), rfl, rfl, sq_of upd_same, at_of (j := spot) rfl ?_, ?_⟩
          · rcases (show spot = 0 ∨ spot = 1 ∨ spot = 2 by omega) with rfl | rfl | rfl
            · rfl
            · rfl
            · show some (V.int ((part.length : Int) / 2)) = some (V.int ((part.length / 2 : Nat) : Int))
              rw [show ((part.length / 2 : Nat) : Int) = (part.length : Int) / 2 by omega]
          -- append
          · have e2 : ((turn : Int) + 5 * (i : Int)) % 26 = (((turn + 5 * i) % 26 : Nat) : Int) := by omega
            have hlt : (turn + 5 * i) % 26 < 26 := Nat.mod_lt _ (by decide)
            have hat : atI (cs alpha) (((turn : Int) + 5 * (i : Int)) % 26) = some (97 + (turn + 5 * i) % 26) := by
              rw [e2]
              exact alpha_at hlt
            have hl2 := eT _ _ hl'
            have c1 := cs_cut0 part (spotAt spot part.length)
            have c2 := cs_cutF part (spotAt spot part.length)
            have k1 : (cutS part none (some ((spotAt spot part.length : Nat) : Int))).length ≤ 8 := by
              rw [len_cs, c1, List.length_take, ← len_cs]
              omega
            have k2 : (cutS part (some ((spotAt spot part.length : Nat) : Int)) none).length ≤ 8 := by
              rw [len_cs, c2, List.length_drop, ← len_cs]
              omega
            refine ⟨_, rfl, .inl ⟨rfl, _, sq_of hl2⟩, _, rfl, _, rfl, _, rfl, part, rfl, lpS, _, rfl, _, rfl, _, rfl, _, _, rfl, rfl, .inl ⟨by decide, by decide⟩, _, _, rfl, rfl, _, _, rfl, rfl, (by show (0 : Int) < _; decide), _, _, _, rfl, rfl, by decide, hat, _, _, rfl, rfl, ?_, _, rfl, _, rfl, _, rfl, part, rfl, lpS, _, _, rfl, rfl, ?_, l, _, _, rfl, rfl, hl2, ?_, ⟨_, _, _, rfl⟩, ?_, ?_, ?_⟩
            · exact sz_of (by
                have : (⟨#[97 + (turn + 5 * i) % 26]⟩ : Str).length = 1 := rfl
                omega)
            · exact sz_of (by
                rw [len_cs, cs_app, List.length_append, ← len_cs, ← len_cs]
                have : (⟨#[97 + (turn + 5 * i) % 26]⟩ : Str).length = 1 := rfl
                omega)
            · rw [List.length_map]
              exact sz_lt (by unfold mkAll; rw [List.length_map, List.length_range]; omega)
            · exact (kp'.trans (Keep.ofEx eT)).new nlH
            · exact (hP'.ex eT).new hpl.1 hpl.2
            · rw [upd_same]
              have e3 : cutS part none (some ((spotAt spot part.length : Nat) : Int)) ++ (⟨#[97 + (turn + 5 * i) % 26]⟩ : Str) ++ cutS part (some ((spotAt spot part.length : Nat) : Int)) none = mkS (cs rest) spot turn size i := by
                apply cs_ext
                rw [cs_app, cs_app, c1, c2, cs_mkS, len_cs, cP, List.append_assoc]
                rfl
              rw [e3]
              unfold lS mkAll
              rw [List.range_succ, List.map_append, List.map_append]
              rfl
        · rintro σ H' ⟨⟨y3, y9, y10, rfl⟩, kp', hP', hl'⟩
          refine ⟨_, rfl, q (mkAll (cs rest) spot turn size m) l H' ?_ (mkAll_nodup (by omega) m1) (mkAll_ltr (by rw [cR]; exact haz)) kp' hP' nlH ?_⟩
          · unfold mkAll
            rw [List.length_map, List.length_range]
          · rw [Int.toNat_natCast] at hl'
            exact hl'
end
end Eh
set_option Elab.async false
set_option linter.all false
set_option maxRecDepth 100000
set_option maxHeartbeats 4000000
namespace Eh
open PySem PySem.Spec PyProof.Rows L2 Evl
/-- a sheet: its opens, plains, closes -/
structure Sht (os ps qs : List Str) : Prop where
  nd : (os ++ ps ++ qs).Nodup
  lt : ∀ x ∈ os ++ ps ++ qs, Ltr x
  o1 : 1 ≤ os.length
  o4 : os.length ≤ 4
  p4 : ps.length ≤ 4
  c1 : 1 ≤ qs.length
  c4 : qs.length ≤ 4
def SheetAt (H : Hp) (s : Addr) (os ps qs : List Str) : Prop := ∃ ao ap ac, H s = some (.tup [.ref ao, .ref ap, .ref ac]) ∧ H ao = some (.tup (os.map V.str)) ∧ H ap = some (.tup (ps.map V.str)) ∧ H ac = some (.tup (qs.map V.str))
theorem Pot.ne_tup {p c a : Addr} {ns : List Int} {H : Hp} {xs : List V} (h : Pot p c ns H) (ha : H a = some (.tup xs)) : a ≠ p := fun e => by
  obtain ⟨_, _, _, h1, _⟩ := h
  rw [e, h1] at ha
  cases ha
theorem SheetAt.ex {H H' : Hp} {s : Addr} {os ps qs : List Str} (h : SheetAt H s os ps qs) (e : Ex H H') : SheetAt H' s os ps qs := by
  obtain ⟨ao, ap, ac, h0, h1, h2, h3⟩ := h
  exact ⟨ao, ap, ac, e _ _ h0, e _ _ h1, e _ _ h2, e _ _ h3⟩
theorem SheetAt.keep {H H' : Hp} {s p c : Addr} {ns : List Int} {os ps qs : List Str} (h : SheetAt H s os ps qs) (hP : Pot p c ns H) (k : Keep p H H') : SheetAt H' s os ps qs := by
  obtain ⟨ao, ap, ac, h0, h1, h2, h3⟩ := h
  exact ⟨ao, ap, ac, k _ _ (hP.ne_tup h0) h0, k _ _ (hP.ne_tup h1) h1, k _ _ (hP.ne_tup h2) h2, k _ _ (hP.ne_tup h3) h3⟩
theorem rot_nodup {L : List Str} (t : Nat) (h : L.Nodup) : (L.drop t ++ L.take t).Nodup := by
  refine (List.perm_append_comm.nodup_iff).mp ?_
  rw [List.take_append_drop]
  exact h
theorem rot_mem {L : List Str} {t : Nat} {x : Str} (h : x ∈ L.drop t ++ L.take t) : x ∈ L := by
  rcases List.mem_append.mp h with q | q
  · exact List.mem_of_mem_drop q
  · exact List.mem_of_mem_take q
theorem sub12 {L : List Str} {a b d : Nat} (ha : a ≤ 4) (hb : b ≤ 4) : ((L.take a) ++ (L.take (4 + b)).drop 4 ++ (L.take (8 + d)).drop 8).Sublist L := by
  have e : L = L.take 4 ++ (L.take 8).drop 4 ++ L.drop 8 := by
    have e1 : L.take 4 ++ (L.take 8).drop 4 = L.take 8 := by
      have := List.take_append_drop 4 (L.take 8)
      rw [List.take_take] at this
      exact this
    rw [e1, List.take_append_drop]
  have s1 : (L.take a).Sublist (L.take 4) := by
    have : L.take a = (L.take 4).take a := by rw [List.take_take, Nat.min_eq_left ha]
    rw [this]
    exact List.take_sublist _ _
  have s2 : ((L.take (4 + b)).drop 4).Sublist ((L.take 8).drop 4) := by
    refine List.Sublist.drop ?_ 4
    have : L.take (4 + b) = (L.take 8).take (4 + b) := by rw [List.take_take, Nat.min_eq_left (by omega)]
    rw [this]
    exact List.take_sublist _ _
  have s3 : ((L.take (8 + d)).drop 8).Sublist (L.drop 8) := List.Sublist.drop (List.take_sublist _ _) 8
  have := (s1.append s2).append s3
  rw [← e] at this
  exact this
theorem sht_of {L : List Str} (hn : L.Nodup) (hl : ∀ x ∈ L, Ltr x) (h12 : L.length = 12) {a b d : Nat} (a1 : 1 ≤ a) (a4 : a ≤ 4) (b4 : b ≤ 4) (d1 : 1 ≤ d) (d4 : d ≤ 4) : Sht (L.take a) ((L.take (4 + b)).drop 4) ((L.take (8 + d)).drop 8) := by
  refine ⟨(sub12 a4 b4).nodup hn, fun x hx => hl x ((sub12 a4 b4).subset hx), ?_, ?_, ?_, ?_, ?_⟩ <;> simp only [List.length_take, List.length_drop, h12] <;> omega
theorem menu1 {v : Nat} (h : v < 5) : ∃ x : Nat, ([.int 1, .int 1, .int 2, .int 2, .int 4] : List V)[v]? = some (.int (x : Int)) ∧ 1 ≤ x ∧ x ≤ 4 := by
  rcases (show v = 0 ∨ v = 1 ∨ v = 2 ∨ v = 3 ∨ v = 4 by omega) with rfl | rfl | rfl | rfl | rfl
  · exact ⟨1, rfl, by omega⟩
  · exact ⟨1, rfl, by omega⟩
  · exact ⟨2, rfl, by omega⟩
  · exact ⟨2, rfl, by omega⟩
  · exact ⟨4, rfl, by omega⟩
theorem menu0 {v : Nat} (h : v < 5) : ∃ x : Nat, ([.int 0, .int 1, .int 1, .int 2, .int 4] : List V)[v]? = some (.int (x : Int)) ∧ x ≤ 4 := by
  rcases (show v = 0 ∨ v = 1 ∨ v = 2 ∨ v = 3 ∨ v = 4 by omega) with rfl | rfl | rfl | rfl | rfl
  · exact ⟨0, rfl, by omega⟩
  · exact ⟨1, rfl, by omega⟩
  · exact ⟨1, rfl, by omega⟩
  · exact ⟨2, rfl, by omega⟩
  · exact ⟨4, rfl, by omega⟩
theorem minI (m x : Nat) : (if (x : Int) < (m : Int) then (x : Int) else (m : Int)) = ((min m x : Nat) : Int) := by
  split <;> omega
theorem map_cut0 (L : List Str) (n : Nat) : cutV (L.map V.str) none (some (n : Int)) = (L.take n).map V.str := by rw [cut0, List.map_take]
theorem map_cutF (L : List Str) (n : Nat) : cutV (L.map V.str) (some (n : Int)) none = (L.drop n).map V.str := by rw [cutF, List.map_drop]
theorem map_cutLH (L : List Str) (n m : Nat) : cutV (L.map V.str) (some (n : Int)) (some (m : Int)) = ((L.take m).drop n).map V.str := by rw [cutLH, List.map_drop, List.map_take]
theorem lS_ne {p c l : Addr} {ns : List Int} {H : Hp} {ws : List Str} (h : Pot p c ns H) (hl : H l = some (lS ws)) : l ≠ p := fun e => by
  obtain ⟨_, _, _, h1, _⟩ := h
  rw [e, h1] at hl
  injection hl with hl
  injection hl with hl
  cases ws <;> cases hl
theorem menu_rd {K : PySem.W.Frag} {p c : Addr} {ns : List Int} {H : Hp} {σ : L2.St} {xs : List V} {Q : VK} {ta : TA} {n : Int} (hP : Pot p c ns H) (hσ : σ[0]? = some (some (.ref p))) (n0 : 0 < n) (n1 : n < 1073741824) (hta : ∀ Q : List V → Hp → Prop, Q xs H → ta σ H Q) (hxs : xs.length ≤ 1000)
    (k : ∀ (v : Nat) H', (v : Int) < n → Keep p H H' → Pot p c ns H' → ∃ z, xs[v]? = some z ∧ Q z H') : tOp (rIxL K) (tLst ta) (tCall spPick [] E0 (tCons (tVar 0) (tCons (tC (.int n)) tNil))) σ H Q := by
  refine hta _ ⟨sz_of (by omega), fun t nt => ⟨_, hσ, p, c, ns, n, rfl, n0, n1, hP.ex (Ex.new nt), fun v H5 hv kp5 hP5 => ?_⟩⟩
  obtain ⟨z, hz, q⟩ := k v H5 hv ((Keep.ofEx (Ex.new nt)).trans kp5) hP5
  exact ⟨t, xs, (v : Int), z, rfl, rfl, sq_of (kp5 _ _ (hP.ne_new nt).1.symm upd_same), atI_nat hz, q⟩
section
variable {P : Program} {w : World} {K : PySem.W.Frag} {mg : Str → Option Value} {base : Heap}
def spSheet : Sp := fun vs H Q _ => ∃ (p c : Addr) (ns : List Int) (m : Nat), vs = [.ref p, .int (m : Int)] ∧ 1 ≤ m ∧ m ≤ 4 ∧ Pot p c ns H ∧
  ∀ (os ps qs : List Str) s H', Sht os ps qs → SheetAt H' s os ps qs → Keep p H H' → Pot p c ns H' → Q (.ref s) H'
theorem ok_sheet {f fP fL : Addr} {fd fdP fdL : FuncData} {k : Nat} (F : Fun K "_law_sheet" "_law_sheet" sSheet f fd) (FP : Fun K "_law_pick" "_law_pick" sPick fP fdP) (GP : FnOk P w K mg base CX0 (k + 1) fP fdP ["pot", "many"] spPick) (bP : Binds K fdP ["pot", "many"] []) (gP : mg "_law_pick" = some (.ref fP))
    (FL : Fun K "_law_letters" "_law_letters" sLetters fL fdL) (GL : FnOk P w K mg base CX0 (k + 2) fL fdL ["pot", "many"] spLetters) (bL : Binds K fdL ["pot", "many"] []) (gL : mg "_law_letters" = some (.ref fL)) (mm : mg "min" = none) (mt : mg "tuple" = none) :
    FnOk P w K mg base CX0 (k + 3) f fd ["pot", "most"] spSheet := by
  have nd := scSheet.nd
  refine F.ok scSheet (fun vs H Q E h => ?_) (fun cdv A outer s H vs Q E hr h => ?_)
  · obtain ⟨p, c, ns, m, rfl, _⟩ := h
    rfl
  · obtain ⟨p, c, ns, m, rfl, m1, m4, hP, q⟩ := h
    have hr1 : Room (k + 1) _ := hr.mono (Nat.le_succ _)
    refine ⟨_, pss_cons (ps_set (i := 2) nd rfl (.inl rfl) (pe_call GL hr (by rfl) gL FL.kp bL .nil pass0 (pa_cons (pv 0) (pa_cons pe_int pa_nil))))
      (pss_cons (ps_set (i := 3) nd rfl (.inl rfl) (pe_call GP hr1 (by rfl) gP FP.kp bP .nil pass0 (pa_cons (pv 0) (pa_cons pe_int pa_nil))))
      (pss_cons (ps_set (i := 2) nd rfl (.inl rfl) (pe_op op_cat (pe_slice sl_list (pv 2) (po_some (pv 3)) po_none) (pe_slice sl_list (pv 2) po_none (po_some (pv 3)))))
      (pss_cons (ps_set (i := 4) nd rfl (.inl rfl) (pe_slice sl_list (pv 2) po_none (po_some (pe_callB (call_min2 rfl) (by rfl) mm (by decide +kernel) (pa_cons (pv 1) (pa_cons (pe_ix ix_list (pe_lst (pa_cons pe_int (pa_cons pe_int (pa_cons pe_int (pa_cons pe_int (pa_cons pe_int pa_nil)))))) (pe_call GP hr1 (by rfl) gP FP.kp bP .nil pass0 (pa_cons (pv 0) (pa_cons pe_int pa_nil))) (fun _ _ => rfl)) pa_nil))))))
      (pss_cons (ps_set (i := 5) nd rfl (.inl rfl) (pe_slice sl_list (pv 2) (po_some pe_int) (po_some (pe_op op_add pe_int (pe_callB (call_min2 rfl) (by rfl) mm (by decide +kernel) (pa_cons (pv 1) (pa_cons (pe_ix ix_list (pe_lst (pa_cons pe_int (pa_cons pe_int (pa_cons pe_int (pa_cons pe_int (pa_cons pe_int pa_nil)))))) (pe_call GP hr1 (by rfl) gP FP.kp bP .nil pass0 (pa_cons (pv 0) (pa_cons pe_int pa_nil))) (fun _ _ => rfl)) pa_nil)))))))
      (pss_cons (ps_set (i := 6) nd rfl (.inl rfl) (pe_slice sl_list (pv 2) (po_some pe_int) (po_some (pe_op op_add pe_int (pe_callB (call_min2 rfl) (by rfl) mm (by decide +kernel) (pa_cons (pv 1) (pa_cons (pe_ix ix_list (pe_lst (pa_cons pe_int (pa_cons pe_int (pa_cons pe_int (pa_cons pe_int (pa_cons pe_int pa_nil)))))) (pe_call GP hr1 (by rfl) gP FP.kp bP .nil pass0 (pa_cons (pv 0) (pa_cons pe_int pa_nil))) (fun _ _ => rfl)) pa_nil)))))))
      (pss_one (ps_ret (pe_tup (pa_cons (pe_callTy call_tuple_of (by rfl) mt (by decide +kernel) (pa_cons (pv 4) pa_nil)) (pa_cons (pe_callTy call_tuple_of (by rfl) mt (by decide +kernel) (pa_cons (pv 5) pa_nil)) (pa_cons (pe_callTy call_tuple_of (by rfl) mt (by decide +kernel) (pa_cons (pv 6) pa_nil)) pa_nil)))))))))))  , ?_⟩
    refine ⟨_, rfl, p, c, ns, 12, rfl, by decide, hP, fun ws l H1 hlen hnd hlt kp1 hP1 nl hl => ?_⟩
    refine ⟨_, rfl, p, c, ns, 12, rfl, by decide, by decide, hP1, fun turn H2 hturn kp2 hP2 => ?_⟩
    have hl2 : H2 l = some (lS ws) := kp2 _ _ (lS_ne hP1 hl) hl
    refine ⟨_, rfl, _, rfl, _, rfl, l, _, rfl, sq_of hl2, fun u nu => ?_⟩
    have e2 : Ex H2 (upd H2 u (.lst (cutV (ws.map V.str) (some (turn : Int)) none))) := Ex.new nu
    refine ⟨_, rfl, _, rfl, _, rfl, l, _, rfl, sq_of (e2 _ _ hl2), fun u' nu' => ?_⟩
    have e3 : Ex H2 (upd (upd H2 u (.lst (cutV (ws.map V.str) (some (turn : Int)) none))) u' (.lst (cutV (ws.map V.str) none (some (turn : Int))))) := e2.trans (Ex.new nu')
    have nuu : u ≠ u' := ne_of_none upd_same nu'
    have hu3 : (upd (upd H2 u (.lst (cutV (ws.map V.str) (some (turn : Int)) none))) u' (.lst (cutV (ws.map V.str) none (some (turn : Int))))) u = some (.lst ((ws.drop turn).map V.str)) := by
      rw [upd_ne nuu, upd_same, map_cutF]
    have hu3' : (upd (upd H2 u (.lst (cutV (ws.map V.str) (some (turn : Int)) none))) u' (.lst (cutV (ws.map V.str) none (some (turn : Int))))) u' = some (.lst ((ws.take turn).map V.str)) := by
      rw [upd_same, map_cut0]
    generalize (upd (upd H2 u (.lst (cutV (ws.map V.str) (some (turn : Int)) none))) u' (.lst (cutV (ws.map V.str) none (some (turn : Int))))) = H3 at e3 hu3 hu3' ⊢
    have hLn : (ws.drop turn ++ ws.take turn).length = 12 := by
      rw [List.length_append, List.length_drop, List.length_take]
      omega
    refine ⟨u, u', _, _, rfl, rfl, hu3, hu3', ?_, fun r nr => ?_⟩
    · rw [← List.length_append, ← List.map_append, List.length_map]
      exact sz_of (by omega)
    rw [← List.map_append]
    have hLd := rot_nodup turn hnd
    have hLt : ∀ x ∈ ws.drop turn ++ ws.take turn, Ltr x := fun x hx => hlt x (rot_mem hx)
    generalize ws.drop turn ++ ws.take turn = L at hLn hLd hLt ⊢
    have hP3 := hP2.ex e3
    have e4 : Ex H3 (upd H3 r (lS L)) := Ex.new nr
    have hP4 := hP3.ex e4
    have kp4 : Keep p H (upd H3 r (lS L)) := ((kp1.trans kp2).trans (Keep.ofEx e3)).trans (Keep.ofEx e4)
    have hr4 : (upd H3 r (lS L)) r = some (lS L) := upd_same
    show tSeq _ _ _ [some (.ref p), some (.int (m : Int)), some (.ref r), some (.int (turn : Int)), none, none, none] (upd H3 r (lS L))
    generalize upd H3 r (lS L) = H4 at e4 hP4 kp4 hr4 ⊢
    -- opens
    refine ⟨_, rfl, _, rfl, menu_rd (xs := [.int 1, .int 1, .int 2, .int 2, .int 4]) hP4 rfl (by decide) (by decide) (fun Q z => z) (by decide) fun v H5 hv kp5 hP5 => ?_⟩
    obtain ⟨x, hx, x1, x4⟩ := menu1 (show v < 5 by omega)
    refine ⟨_, hx, _, _, rfl, _, rfl, r, _, rfl, sq_of (kp5 _ _ (lS_ne hP4 hr4) hr4), fun o no => ?_⟩
    rw [minI, map_cut0]
    have hr5 : H5 r = some (lS L) := kp5 _ _ (lS_ne hP4 hr4) hr4
    have e6 : Ex H5 (upd H5 o (lS (L.take (min m x)))) := Ex.new no
    have hP6 := hP5.ex e6
    have hr6 := e6 _ _ hr5
    have ho6 : (upd H5 o (lS (L.take (min m x)))) o = some (lS (L.take (min m x))) := upd_same
    have kp6 : Keep p H (upd H5 o (lS (L.take (min m x)))) := (kp4.trans kp5).trans (Keep.ofEx e6)
    show tSeq _ _ _ [some (.ref p), some (.int (m : Int)), some (.ref r), some (.int (turn : Int)), some (.ref o), none, none] (upd H5 o (lS (L.take (min m x))))
    generalize upd H5 o (lS (L.take (min m x))) = H6 at hP6 hr6 ho6 kp6 ⊢
    -- plains
    refine ⟨_, rfl, _, rfl, _, rfl, menu_rd (xs := [.int 0, .int 1, .int 1, .int 2, .int 4]) hP6 rfl (by decide) (by decide) (fun Q z => z) (by decide) fun v H7 hv kp7 hP7 => ?_⟩
    obtain ⟨y, hy, y4⟩ := menu0 (show v < 5 by omega)
    have hr7 : H7 r = some (lS L) := kp7 _ _ (lS_ne hP6 hr6) hr6
    have ho7 : H7 o = some (lS (L.take (min m x))) := kp7 _ _ (lS_ne hP6 ho6) ho6
    refine ⟨_, hy, _, _, rfl, _, _, rfl, rfl, _, rfl, r, _, rfl, sq_of hr7, fun u1 nu1 => ?_⟩
    have ey : (4 : Int) + (if (y : Int) < (m : Int) then (y : Int) else (m : Int)) = ((4 + min m y : Nat) : Int) := by
      rw [minI]
      omega
    rw [ey, show (some 4 : Option Int) = some ((4 : Nat) : Int) from rfl, map_cutLH]
    have e8 : Ex H7 (upd H7 u1 (lS ((L.take (4 + min m y)).drop 4))) := Ex.new nu1
    have hP8 := hP7.ex e8
    have hr8 := e8 _ _ hr7
    have ho8 := e8 _ _ ho7
    have hu8 : (upd H7 u1 (lS ((L.take (4 + min m y)).drop 4))) u1 = some (lS ((L.take (4 + min m y)).drop 4)) := upd_same
    have kp8 : Keep p H (upd H7 u1 (lS ((L.take (4 + min m y)).drop 4))) := (kp6.trans kp7).trans (Keep.ofEx e8)
    show tSeq _ _ _ [some (.ref p), some (.int (m : Int)), some (.ref r), some (.int (turn : Int)), some (.ref o), some (.ref u1), none] (upd H7 u1 (lS ((L.take (4 + min m y)).drop 4)))
    generalize upd H7 u1 (lS ((L.take (4 + min m y)).drop 4)) = H8 at hP8 hr8 ho8 hu8 kp8 ⊢
    -- closes
    refine ⟨_, rfl, _, rfl, _, rfl, menu_rd (xs := [.int 1, .int 1, .int 2, .int 2, .int 4]) hP8 rfl (by decide) (by decide) (fun Q z => z) (by decide) fun v H9 hv kp9 hP9 => ?_⟩
    obtain ⟨z, hz, z1, z4⟩ := menu1 (show v < 5 by omega)
    have hr9 : H9 r = some (lS L) := kp9 _ _ (lS_ne hP8 hr8) hr8
    have ho9 : H9 o = some (lS (L.take (min m x))) := kp9 _ _ (lS_ne hP8 ho8) ho8
    have hu9 := kp9 _ _ (lS_ne hP8 hu8) hu8
    refine ⟨_, hz, _, _, rfl, _, _, rfl, rfl, _, rfl, r, _, rfl, sq_of hr9, fun u2 nu2 => ?_⟩
    have ez : (8 : Int) + (if (z : Int) < (m : Int) then (z : Int) else (m : Int)) = ((8 + min m z : Nat) : Int) := by
      rw [minI]
      omega
    rw [ez, show (some 8 : Option Int) = some ((8 : Nat) : Int) from rfl, map_cutLH]
    have e10 : Ex H9 (upd H9 u2 (lS ((L.take (8 + min m z)).drop 8))) := Ex.new nu2
    have hP10 := hP9.ex e10
    have ho10 := e10 _ _ ho9
    have hu10 := e10 _ _ hu9
    have hv10 : (upd H9 u2 (lS ((L.take (8 + min m z)).drop 8))) u2 = some (lS ((L.take (8 + min m z)).drop 8)) := upd_same
    have kp10 : Keep p H (upd H9 u2 (lS ((L.take (8 + min m z)).drop 8))) := (kp8.trans kp9).trans (Keep.ofEx e10)
    refine ⟨_, rfl, o, _, rfl, .inl ⟨sq_of ho10, fun ao nao => ?_⟩⟩
    have f1 : Ex _ _ := Ex.new (o := .tup ((L.take (min m x)).map V.str)) nao
    refine ⟨_, rfl, u1, _, rfl, .inl ⟨sq_of (f1 _ _ hu10), fun ap nap => ?_⟩⟩
    have f2 : Ex _ _ := Ex.new (o := .tup (((L.take (4 + min m y)).drop 4).map V.str)) nap
    refine ⟨_, rfl, u2, _, rfl, .inl ⟨sq_of (f2 _ _ (f1 _ _ hv10)), fun ac nac => ?_⟩⟩
    have f3 : Ex _ _ := Ex.new (o := .tup (((L.take (8 + min m z)).drop 8).map V.str)) nac
    refine ⟨(by show 3 ≤ sizeLine; decide), fun sh nsh => ?_⟩
    have f4 : Ex _ _ := Ex.new (o := .tup [.ref ao, .ref ap, .ref ac]) nsh
    exact q _ _ _ sh _ (sht_of hLd hLt hLn (by omega) (by omega) (by omega) (by omega) (by omega)) ⟨ao, ap, ac, upd_same, f4 _ _ (f3 _ _ (f2 _ _ upd_same)), f4 _ _ (f3 _ _ upd_same), f4 _ _ upd_same⟩ (kp10.trans (Keep.ofEx (((f1.trans f2).trans f3).trans f4))) (hP10.ex (((f1.trans f2).trans f3).trans f4))
end
end Eh
set_option Elab.async false
set_option linter.all false
set_option maxRecDepth 100000
set_option maxHeartbeats 4000000
namespace Eh
open PySem PySem.Spec PyProof.Rows L2 Evl
open Sem (wp)
open AutoSeq1 (wpAny_loadPart')
/-! enumerate of a tuple -/
theorem enumT_meets {v : Value} {ob : Obj} {G : Heap → Prop} (B : Begins v ob G) : Meets (Builtin.«enumerate.__new__» ⟨[.type "enumerate", v], []⟩) (fun _ R s1 => G s1.heap ∧ R (.ok (.ret (.ref (s1.heap.push ob).objs.size))) { s1 with heap := (s1.heap.push ob).push { cls := .type "enumerate", data := .fields #[.none, .bool false, .ref s1.heap.objs.size, rawInt 0, .none, .none] } }) :=
  .of_wp fun pr wo ar R s1 hyp => by
    obtain ⟨hp, gg, dd, tt, oo⟩ := s1; obtain ⟨hg, hyp⟩ := hyp
    have hsb := sub_enumerate
    have hit : ∀ {A' : Around} {E : Value → Shared → Prop} {Q : Value → Shared → Prop}, Q (.ref hp.objs.size) ⟨hp.push ob, gg, dd, tt, oo⟩ → wpAny (model pr wo) A' (pyIter v) Q E ⟨hp, gg, dd, tt, oo⟩ := fun q => B.iter pr wo _ _ ⟨hp, gg, dd, tt, oo⟩ _ hg q
    wp_walk using hit
    refine wpAny_stack_any fun stk => wpAny_pure ?_
    split
    · rename_i cl _ _ _ _ _; cases (cl == Value.type "enumerate") <;> (wp_walk using hit; exact ⟨_, rfl, hyp⟩)
    · wp_walk using hit; exact ⟨_, rfl, hyp⟩
theorem enumT_call {prog : Program} {w : World} {A : Around} {E : Value → Shared → Prop} {s : Shared} {v : Value} {ob : Obj} {G : Heap → Prop} {Q : Value → Shared → Prop} (B : Begins v ob G) (hg : G s.heap)
    (hyp : ∀ h', IsEnum h' (s.heap.objs.size + 1) s.heap.objs.size 0 .none → h'.get? s.heap.objs.size = some ob → h'.objs.size = s.heap.objs.size + 2 → (∀ b o, s.heap.get? b = some o → h'.get? b = some o) → Q (.ref (s.heap.objs.size + 1)) { s with heap := h' }) : wpAny (model prog w) A (call (.type "enumerate") [v]) Q E s := by
  refine callType_new F.called_enumerate (by decide) (F.typeCall_enumerate_1 _) (F.newCall_enumerate_1 _) (fun x => F.args_object_init_2 x _) F.entry_enumerate_new (enumT_meets B) ⟨hg, ?_⟩
  have sz : (s.heap.push ob).objs.size = s.heap.objs.size + 1 := Heap.size_push ..
  show _ ∧ _
  rw [sz]
  have en : IsEnum ((s.heap.push ob).push { cls := .type "enumerate", data := .fields #[.none, .bool false, .ref s.heap.objs.size, rawInt 0, .none, .none] }) (s.heap.objs.size + 1) s.heap.objs.size 0 .none := by
    have z := Heap.get?_push_size (s.heap.push ob) (o := { cls := .type "enumerate", data := .fields #[.none, .bool false, .ref s.heap.objs.size, rawInt 0, .none, .none] }) rfl
    rw [sz] at z; exact z
  exact ⟨⟨_, en, rfl⟩, hyp _ en (Heap.get?_push_of_some _ (Heap.get?_push_size _ B.free)) (by rw [Heap.size_push, sz]) fun b o x => Heap.get?_push_of_some _ (Heap.get?_push_of_some _ x)⟩
def IteT (K : PySem.W.Frag) (a : Addr) : It :=
  ⟨fun i H => ∃ (xs : List V) (x : V), SqT K H a xs ∧ xs[i]? = some x, fun i H v H' => ∃ T x, v = .ref T ∧ H T = none ∧ H' = upd H T (.tup [.int (i : Nat), x]) ∧ ∀ xs, SqT K H a xs → xs[i]? = some x, fun i H => ∃ xs : List V, SqT K H a xs ∧ xs.length = i⟩
theorem apart_cls {h : Heap} {a b : Addr} {o1 o2 : Obj} {x y : String} (h1 : h.get? a = some o1) (c1 : o1.cls = .type x) (h2 : h.get? b = some o2) (c2 : o2.cls = .type y) (n : x ≠ y) : a ≠ b := fun z => by
  subst z
  rw [h1] at h2
  have e : o1 = o2 := Option.some.inj h2
  rw [e, c2] at c1
  injection c1 with c1
  exact n c1.symm
theorem turn_enumT {P : Program} {w : World} {K : PySem.W.Frag} {elts : List Expr} {kk : Nat} {tpos : Pos} (a e it : Addr) :
    Turn P w K (.Tuple elts kk tpos) (IteT K a) [e, it] e (fun i h => (∃ old, IsEnum h e it ((i : Nat) : Int) old) ∧ h.IsTupleIter it a i ∧ e ≠ it) where
  mem := by simp
  obj := fun i h tn b hb => by
    obtain ⟨⟨old, en⟩, ⟨ob, h1, h2, h3⟩, _⟩ := tn
    rcases (show b = e ∨ b = it by simpa using hb) with z | z
    · subst z; exact ⟨_, en, fun v q => nomatch q⟩
    · subst z; exact ⟨ob, h1, fun v q => by rw [h3] at q; cases q⟩
  keep := fun i h h' tn kk => let ⟨⟨old, en⟩, ti, ne⟩ := tn; ⟨⟨old, kk e (by simp) _ en⟩, ti.at fun o q => kk it (by simp) o q, ne⟩
  item := by
    intro X eP ew eK hc i pins s σ H E I fpo tn go
    subst eP ew eK
    obtain ⟨⟨old, en⟩, ti, ne⟩ := tn
    obtain ⟨xs, x, sq, hx⟩ := go
    obtain ⟨its, rv, pt, _⟩ := I.tuple sq
    obtain ⟨u, hu, ru⟩ := rv.get hx
    have le : e < s.heap.objs.size := Heap.lt_size en
    have li : it < s.heap.objs.size := by obtain ⟨_, q, _⟩ := ti; exact Heap.lt_size q
    have nai : a ≠ it := by
      obtain ⟨o1, g1, c1, _⟩ := id ti
      obtain ⟨o2, g2, c2, _⟩ := id pt
      exact apart_cls g2 c2 g1 c1 (by decide)
    have nea : e ≠ a := by
      obtain ⟨o2, g2, c2, _⟩ := id pt
      exact apart_cls en rfl g2 c2 (by decide)
    have DD := Draws.tuple (prog := X.prog) (w := X.w) (A := X.A.in1) (I.ok.hd hc) it a nai its.toArray
    refine wpAny_pyNext_enum_itemC DD en ⟨ti, pt⟩ (by have h1 := (List.getElem?_eq_some_iff.mp hu).1; rw [List.size_toArray]; exact h1) ne (by simp [ne, nea]) fun y h' tk hy out st' hT hsz kp => ?_
    have ey : y = u := by
      have hy' : its.toArray[i]? = some y := hy
      rw [List.getElem?_toArray, hu] at hy'
      exact (Option.some.inj hy').symm
    subst ey
    refine ⟨_, rfl, wpAny_letOwnedTupleGo_enum (s := { s with heap := h', toks := tk + 1 }) out fun h'' en' sb => ?_⟩
    have hT' : h''.get? s.heap.objs.size = some { cls := .type "tuple", data := .seq #[.int i tk, y] } := (sb.2 _ (Nat.ne_of_gt le)).trans hT
    have nw : ObjOk X.prog X.w (upd H s.heap.objs.size (.tup [.int (i : Nat), x])) h'' s.heap.objs.size (.tup [.int (i : Nat), x]) := ⟨by show 2 ≤ sizeLine; decide, [.int i tk, y], .cons ⟨_, rfl⟩ (.cons ru .nil), ⟨_, hT', rfl, _, rfl⟩⟩
    have J1 : Inv X pins σ (upd H s.heap.objs.size (.tup [.int (i : Nat), x])) { s with heap := h'', toks := tk + 1 } := I.turnedNew (ch := [e, it]) (fun b o hb q => (sb.2 b (fun z => hb (by simp [z]))).trans (kp b o (fun z => hb (by simp [z])) (fun z => hb (by simp [z])) q)) fpo (Nat.le_refl _) nw
    refine ⟨.ref s.heap.objs.size, _, J1, rfl, ⟨_, x, rfl, I.hok.fresh (Nat.le_refl _), rfl, fun ys hs => by rw [I.tuple_inj hs sq]; exact hx⟩, ⟨⟨y, ?_⟩, st'.1.at fun o q => (sb.2 it (Ne.symm ne)).trans q, ne⟩, fun b hb => ?_⟩
    · rw [show ((i + 1 : Nat) : Int) = (i : Int) + 1 by omega]
      exact en'
    · have lb : b < s.heap.objs.size := by
        rcases (show b = e ∨ b = it by simpa using hb) with z | z
        · subst z; exact le
        · subst z; exact li
      rw [upd_ne (Nat.ne_of_lt lb)]
      exact (fpo b hb).1
  done := by
    intro X eP ew eK hc i pins s σ H E I fpo tn stp
    subst eP ew eK
    obtain ⟨⟨old, en⟩, ti, ne⟩ := tn
    obtain ⟨xs, sq, hx⟩ := stp
    obtain ⟨its, rv, pt, _⟩ := I.tuple sq
    obtain ⟨f0, f1, _, f3, f4, f5⟩ := fpo it (by simp)
    have nai : a ≠ it := by
      obtain ⟨o1, g1, c1, _⟩ := id ti
      obtain ⟨o2, g2, c2, _⟩ := id pt
      exact apart_cls g2 c2 g1 c1 (by decide)
    have DD := Draws.tuple (prog := X.prog) (w := X.w) (A := X.A.in1) (I.ok.hd hc) it a nai its.toArray
    have en' : its.toArray.size = i := by rw [List.size_toArray, ← rv.length, hx]
    exact wpAny_pyNext_enum_endD DD en (by rw [en']; exact ⟨ti, pt⟩) fun h' eb => ⟨rfl, I.turned (t' := s.toks) (fun b o hb q => eb b o hb q) f0 f1 f3 f4 f5⟩
  self := fun A i s Q E tn hq => let ⟨⟨_, en⟩, _⟩ := tn; wpAny_pyIter_enum en hq
def iEnumT (K : PySem.W.Frag) (ta : TA) : TI := fun σ H R => ta σ H fun vs H1 => ∃ a xs, vs = [.ref a] ∧ SqT K H1 a xs ∧ R (IteT K a) H1
theorem pi_enumT {X : Cx} {e : Expr} {ta : TA} {p pos tpos : Pos} {elts : List Expr} {kk : Nat} (hg : Gl X "enumerate") (hm : X.mg "enumerate" = none) (ha : PA X [e] ta) (hs : starEach [e] X.env = [(false, eval e X.env)] := by rfl) : PI X (.Tuple elts kk tpos) (.Call (.Name "enumerate" p) [e] [] pos) (iEnumT X.K ta) := by
  refine ⟨fun pins s σ H R I hyp => Call_ (ld_blt I hg hm boot_enumerate (PyProof.Rows.callWith_type1 (thn (ha.run pos pins s σ H _ I hyp) fun us s1 ⟨vs, H1, I1, r1, q1⟩ => ?_) hs rfl))⟩
  obtain ⟨a, xs, ev, sq, q⟩ := q1
  subst ev
  obtain ⟨u, rfl, ru⟩ := vals1 r1
  cases ru
  obtain ⟨its, rv, pt, _⟩ := I1.tuple sq
  refine enumT_call (begins_tuple a its.toArray) pt fun h' en hit hsz kp => wpAny_pyIter_enum en ?_
  have I2 : Inv X pins σ H1 { s1 with heap := h' } := I1.kept (t' := s1.toks) kp
  refine ⟨s1.heap.objs.size + 1, [s1.heap.objs.size + 1, s1.heap.objs.size], _, _, H1, rfl, I2, turn_enumT a (s1.heap.objs.size + 1) s1.heap.objs.size, ⟨⟨.none, en⟩, ⟨_, hit, rfl, rfl⟩, Nat.succ_ne_self _⟩, fun b hb => ?_, q⟩
  have lb : s1.heap.objs.size ≤ b := by
    rcases (show b = s1.heap.objs.size + 1 ∨ b = s1.heap.objs.size by simpa using hb) with z | z
    · rw [z]; exact Nat.le_add_right ..
    · rw [z]; exact Nat.le_refl ..
  exact I1.fpOk lb (I1.hok.fresh lb)
end Eh
set_option Elab.async false
set_option linter.all false
set_option maxRecDepth 100000
set_option maxHeartbeats 4000000
namespace Eh
open PySem PySem.Spec PyProof.Rows L2 Evl
def ordKV : List Str → Nat → List (Key × V)
  | [], _ => []
  | x :: r, n => (.inr x, .int (n : Int)) :: ordKV r (n + 1)
theorem ordKV_app : ∀ (a b : List Str) (n : Nat), ordKV (a ++ b) n = ordKV a n ++ ordKV b (n + a.length)
  | [], b, n => rfl
  | x :: r, b, n => by
    show (.inr x, .int (n : Int)) :: ordKV (r ++ b) (n + 1) = (.inr x, .int (n : Int)) :: (ordKV r (n + 1) ++ ordKV b (n + (r.length + 1)))
    rw [ordKV_app r b (n + 1), show n + 1 + r.length = n + (r.length + 1) by omega]
theorem ordKV_len : ∀ (a : List Str) (n : Nat), (ordKV a n).length = a.length
  | [], n => rfl
  | x :: r, n => by
    show (ordKV r (n + 1)).length + 1 = r.length + 1
    rw [ordKV_len r (n + 1)]
theorem ordKV_none : ∀ (a : List Str) (n : Nat) (x : Str), ¬ x ∈ a → valV (ordKV a n) (.inr x) = none
  | [], n, x, _ => rfl
  | y :: r, n, x, h => by
    have h1 : ¬ y = x := fun e => h (by rw [e]; exact List.mem_cons_self ..)
    have h2 : ¬ x ∈ r := fun e => h (List.mem_cons_of_mem _ e)
    show valV ((Sum.inr y, V.int (n : Int)) :: ordKV r (n + 1)) (.inr x) = none
    rw [valV_neg (fun e => h1 (Sum.inr.inj e))]
    exact ordKV_none r (n + 1) x h2
theorem ordKV_some : ∀ (a : List Str) (n : Nat) (x : Str), x ∈ a → valV (ordKV a n) (.inr x) = some (.int ((n + a.idxOf x : Nat) : Int))
  | [], n, x, h => (List.not_mem_nil h).elim
  | y :: r, n, x, h => by
    show valV ((Sum.inr y, V.int (n : Int)) :: ordKV r (n + 1)) (.inr x) = _
    by_cases e : y = x
    · subst e
      rw [valV_pos (by rfl), List.idxOf_cons_self]
      rfl
    · rw [valV_neg (fun z => e (Sum.inr.inj z)), ordKV_some r (n + 1) x ((List.mem_cons.mp h).resolve_left fun z => e z.symm), List.idxOf_cons, show (y == x) = false from beq_false_of_ne e]
      show some (V.int ((n + 1 + r.idxOf x : Nat) : Int)) = some (V.int ((n + (r.idxOf x + 1) : Nat) : Int))
      rw [show n + 1 + r.idxOf x = n + (r.idxOf x + 1) by omega]
/-- one tuple behind the other, the first with something in it -/
theorem cat_rd {K : PySem.W.Frag} {a b : Addr} {xs ys : List V} {H : Hp} {Q : VK} (h1 : SqT K H a xs) (h2 : SqT K H b ys) (n0 : xs ≠ []) (hz : xs.length + ys.length ≤ 1000) (q : ∀ p H', Ex H H' → SqT K H' p (xs ++ ys) → Q (.ref p) H') : rCatT K (.ref a) (.ref b) H Q :=
  ⟨a, b, xs, ys, rfl, rfl, h1, h2, n0, sz_of (by omega), fun e => q a H (Ex.refl H) (by rw [e, List.append_nil]; exact h1), fun _ p np => q p _ (Ex.new np) (st_of upd_same)⟩
/-- {.. for i, x in enumerate(tuple)} -/
theorem dc_enumT {K : PySem.W.Frag} {a : Addr} {xs : List V} {tt : TT} {tk tv : TE} {σ : L2.St} {H1 : Hp} {Dd : Addr} {Qd : Hp → Prop} {i1 i2 : Nat} {vs : List Nat} (Pv : Nat → Hp → Prop) (h0 : Pv 0 (upd H1 Dd (.dK []))) (hl : ∀ i H, i ≤ xs.length → Pv i H → SqT K H a xs)
    (hs : ∀ i x H T, xs[i]? = some x → Pv i H → H T = none → wipe (((wipe σ vs).set i1 (some (.int (i : Nat)))).set i2 (some x)) vs = wipe σ vs ∧ tt (((wipe σ vs).set i1 (some (.int (i : Nat)))).set i2 (some x)) (upd H T (.tup [.int (i : Nat), x])) fun b H3 => if b = true then tk (((wipe σ vs).set i1 (some (.int (i : Nat)))).set i2 (some x)) H3 fun y H4 => tv (((wipe σ vs).set i1 (some (.int (i : Nat)))).set i2 (some x)) H4 fun z H5 => ∃ kvs k, y = kV k ∧ H5 Dd = some (.dK kvs) ∧ kvs.length < sizeLine ∧ Pv (i + 1) (upd H5 Dd (.dK (putK kvs k z))) else Pv (i + 1) H3)
    (hd : ∀ H, Pv xs.length H → Qd H) :
    ∃ W : Nat → Nat → Hp → Prop, (∃ m, W 0 m (upd H1 Dd (.dK []))) ∧ ∀ i m H, W i m H → ((IteT K a).stop i H ∧ Qd H) ∨ ((IteT K a).go i H ∧ ∃ Nx : Hp → Prop, (∀ H', Nx H' → ∃ m', m' < m ∧ W (i + 1) m' H') ∧ ∀ x H', (IteT K a).yld i H x H' → gTup K 2 (gCons (gName i1) (gCons (gName i2) gNil)) x (wipe σ vs) H' fun σ2 H2 => wipe σ2 vs = wipe σ vs ∧ tt σ2 H2 fun b H3 => if b = true then tk σ2 H3 fun y H4 => tv σ2 H4 fun z H5 => ∃ kvs k, y = kV k ∧ H5 Dd = some (.dK kvs) ∧ kvs.length < sizeLine ∧ Nx (upd H5 Dd (.dK (putK kvs k z))) else Nx H3) := by
  refine ⟨fun i m H => m = xs.length - i ∧ i ≤ xs.length ∧ Pv i H, ⟨xs.length, by omega, Nat.zero_le _, h0⟩, ?_⟩
  rintro i m H ⟨rfl, hi, pp⟩
  have sq := hl i H hi pp
  by_cases hlt : i < xs.length
  · refine .inr ⟨⟨xs, xs[i], sq, List.getElem?_eq_getElem hlt⟩, Pv (i + 1), fun H' p' => ⟨xs.length - (i + 1), by omega, rfl, hlt, p'⟩, fun v H' y => ?_⟩
    obtain ⟨T, x, rfl, nT, rfl, f⟩ := y
    exact ⟨T, [.int (i : Nat), x], rfl, st_of upd_same, rfl, _, _, rfl, _, _, rfl, rfl, hs i x H T (f xs sq) pp nT⟩
  · have e : i = xs.length := by omega
    subst e
    exact .inl ⟨⟨xs, sq, rfl⟩, hd H pp⟩
abbrev nOrderOf : List Str := ["sheet", "opens", "plains", "closes", "number", "letter"]
theorem scOrderOf : FnScope nOrderOf ["sheet"] (defScope sOrderOf) := ⟨rfl, rfl, rfl, by decide +kernel, rfl, by decide +kernel, by decide +kernel⟩
theorem scNeedWord : FnScope ["sheet", "word", "order", "place", "letter"] ["sheet", "word"] (defScope sNeedWord) := ⟨rfl, rfl, rfl, by decide +kernel, rfl, by decide +kernel, by decide +kernel⟩
section
variable {P : Program} {w : World} {K : PySem.W.Frag} {mg : Str → Option Value} {base : Heap}
def spOrderOf : Sp := fun vs H Q _ => ∃ (s : Addr) (os ps qs : List Str), vs = [.ref s] ∧ Sht os ps qs ∧ SheetAt H s os ps qs ∧ ∀ d H', Ex H H' → H d = none → H' d = some (.dK (ordKV (os ++ ps ++ qs) 0)) → Q (.ref d) H'
theorem ok_orderOf {f : Addr} {fd : FuncData} {k : Nat} (F : Fun K "order_of" "order_of" sOrderOf f fd) (me : mg "enumerate" = none) : FnOk P w K mg base CX0 (k + 1) f fd ["sheet"] spOrderOf := by
  have nd := scOrderOf.nd
  refine F.ok scOrderOf (fun vs H Q E h => ?_) (fun cdv A outer s H vs Q E hr h => ?_)
  · obtain ⟨s, os, ps, qs, rfl, _⟩ := h
    rfl
  · obtain ⟨s, os, ps, qs, rfl, hS, ⟨ao, ap, ac, h0, h1, h2, h3⟩, q⟩ := h
    refine ⟨_, pss_cons (ps_asg (pv 0) (pg_tup rfl (pgs_cons (pg_name (i := 1) nd rfl (.inl rfl)) (pgs_cons (pg_name (i := 2) nd rfl (.inl rfl)) (pgs_cons (pg_name (i := 3) nd rfl (.inl rfl)) pgs_nil)))))
      (pss_one (ps_ret (pe_dc (own := [("number", 4), ("letter", 5)]) (g := gTup K 2 (gCons (gName 4) (gCons (gName 5) gNil))) (tt := tYes) rfl nd (pi_enumT (by rfl) me (pa_cons (pe_op op_catT (pe_op op_catT (pv 1) (pv 2)) (pv 3)) pa_nil)) (blkOk_by (own := [("number", 4), ("letter", 5)]) (N := nOrderOf) (sc := defScope sOrderOf) (by decide +kernel))
        (fun _ _ _ _ _ => pg_tup rfl (pgs_cons (pg_name (i := 4) nd rfl (.inl rfl)) (pgs_cons (pg_name (i := 5) nd rfl (.inl rfl)) pgs_nil))) (fun _ _ _ _ _ => pts_nil) (fun _ _ _ _ _ => pv 5) (fun _ _ _ _ _ => pv 4)))), ?_⟩
    refine ⟨_, rfl, s, _, rfl, st_of h0, rfl, _, _, rfl, _, _, rfl, _, _, rfl, rfl, ?_⟩
    have on : os.map V.str ≠ [] := fun e => by
      have := hS.o1
      rw [← List.length_map (f := V.str), e] at this
      exact absurd this (by decide)
    have l1 : (os.map V.str).length + (ps.map V.str).length ≤ 1000 := by
      rw [List.length_map, List.length_map]
      have := hS.o4
      have := hS.p4
      omega
    refine ⟨_, rfl, _, rfl, cat_rd (st_of h1) (st_of h2) on l1 fun p1 H1 e1 g1 => ⟨_, rfl, cat_rd g1 (st_of (e1 _ _ h3)) (fun z => on (List.append_eq_nil_iff.mp z).1) ?_ fun p2 H2 e2 g2 => ?_⟩⟩
    · rw [List.length_append, List.length_map, List.length_map, List.length_map]
      have := hS.o4
      have := hS.p4
      have := hS.c4
      omega
    rw [← List.map_append, ← List.map_append] at g2
    generalize hL : os ++ ps ++ qs = L at *
    have hLl : L.length ≤ 12 := by
      rw [← hL, List.length_append, List.length_append]
      have := hS.o4
      have := hS.p4
      have := hS.c4
      omega
    have hLd : L.Nodup := by
      have := hS.nd
      rw [hL] at this
      exact this
    refine ⟨p2, _, rfl, g2, fun Dd nD => dc_enumT (xs := L.map V.str) (fun i H' => Ex H2 H' ∧ H' Dd = some (.dK (ordKV (L.take i) 0))) ⟨Ex.new nD, upd_same⟩ (fun i H' _ hh => ex_t hh.1 g2) ?_ ?_⟩
    · rintro i x H' T hx ⟨eH, hD⟩ nT
      refine ⟨rfl, yesT ?_⟩
      rw [List.getElem?_map] at hx
      obtain ⟨y, hy, rfl⟩ := Option.map_eq_some_iff.mp hx
      have eT : Ex H' (upd H' T (.tup [.int (i : Nat), .str y])) := Ex.new nT
      refine ⟨_, rfl, _, rfl, _, .inr y, rfl, eT _ _ hD, ?_, (eH.trans eT).mut nD, ?_⟩
      · rw [ordKV_len]
        exact sz_lt (by rw [List.length_take]; omega)
      · have hi := (List.getElem?_eq_some_iff.mp hy).1
        rw [upd_same, putK_new _ (ordKV_none _ _ _ ?_), List.take_add_one, hy, ordKV_app, List.length_take, Nat.min_eq_left (by omega), Nat.zero_add]
        · rfl
        · intro hm
          obtain ⟨j, hj, e⟩ := List.mem_take_iff_getElem.mp hm
          have : j = i := (List.getElem_inj hLd).mp (e.trans (List.getElem?_eq_some_iff.mp hy).2.symm)
          omega
    · rintro H' ⟨eH, hD⟩
      rw [List.length_map, List.take_length] at hD
      exact q Dd H' ((e1.trans e2).trans eH) (fresh_back (e1.trans e2) nD) hD
def spNeedWord (K : PySem.W.Frag) : Sp := fun vs H Q _ => ∃ (s l : Addr) (os ps qs ws : List Str), vs = [.ref s, .ref l] ∧ Sht os ps qs ∧ SheetAt H s os ps qs ∧ SqL K H l (ws.map V.str) ∧ (∀ x ∈ ws, x ∈ os ++ ps ++ qs) ∧ ∀ H', Ex H H' → Q .non H'
theorem ok_needWord {f fO : Addr} {fd fdO : FuncData} {k : Nat} (F : Fun K "need_word" "need_word" sNeedWord f fd) (FO : Fun K "order_of" "order_of" sOrderOf fO fdO) (bO : Binds K fdO ["sheet"] []) (gO : mg "order_of" = some (.ref fO)) (me : mg "enumerate" = none) : FnOk P w K mg base CX0 (k + 2) f fd ["sheet", "word"] (spNeedWord K) := by
  have GO : FnOk P w K mg base CX0 (k + 1) fO fdO ["sheet"] spOrderOf := ok_orderOf FO me
  have nd := scNeedWord.nd
  refine F.ok scNeedWord (fun vs H Q E h => ?_) (fun cdv A outer s H vs Q E hr h => ?_)
  · obtain ⟨s, l, os, ps, qs, ws, rfl, _⟩ := h
    rfl
  · obtain ⟨s, l, os, ps, qs, ws, rfl, hS, hs, hl, hw, q⟩ := h
    have hu := hu_of hr
    refine ⟨_, pss_cons (ps_set (i := 2) nd rfl (.inl rfl) (pe_call GO hr (by rfl) gO FO.kp bO .nil pass0 (pa_cons (pv 0) pa_nil)))
      (pss_one (ps_for PassesOwn.never rfl (pi_enum (by rfl) me (pa_cons (pv 1) pa_nil)) (pg_tup rfl (pgs_cons (pg_name (i := 3) nd rfl (.inl rfl)) (pgs_cons (pg_name (i := 4) nd rfl (.inl rfl)) pgs_nil)))
        (pss_one (ps_if (pt_cmp (pc_dnotin hu (pv 4) (pv 2))) (pss_one ps_never) pss_nil)))), ?_⟩
    refine ⟨_, rfl, s, os, ps, qs, rfl, hS, hs, fun d H1 e1 nd1 hd => ?_⟩
    refine ⟨_, rfl, l, _, rfl, ex_l e1 hl, for_enum (xs := ws.map V.str) (fun i σ H' => (∃ y3 y4, σ = [some (.ref s), some (.ref l), some (.ref d), y3, y4]) ∧ Ex H1 H') ⟨⟨_, _, rfl⟩, Ex.refl _⟩ (fun i σ H' _ hh => ex_l (e1.trans hh.2) hl) ?_ ?_⟩
    · rintro i x σ H' T hx ⟨⟨y3, y4, rfl⟩, eH⟩ nT
      rw [List.getElem?_map] at hx
      obtain ⟨y, hy, rfl⟩ := Option.map_eq_some_iff.mp hx
      have eT : Ex H' (upd H' T (.tup [.int (i : Nat), .str y])) := Ex.new nT
      have hin : y ∈ os ++ ps ++ qs := hw y (List.mem_of_getElem? hy)
      refine ⟨_, rfl, _, rfl, d, _, rfl, DGet.k (k := Sum.inr y) (eT _ _ (eH _ _ hd)), ?_⟩
      rw [ordKV_some _ _ _ hin]
      exact ⟨_, rfl, iteF ⟨⟨_, _, rfl⟩, eH.trans eT⟩⟩
    · rintro σ H' ⟨_, eH⟩
      exact q H' (e1.trans eH)
def spOrder : Sp := fun vs H Q _ => ∃ (s : Addr) (os ps qs : List Str), vs = [.ref s] ∧ Sht os ps qs ∧ SheetAt H s os ps qs ∧ ∀ l H', Ex H H' → H l = none → H' l = some (lS (os ++ ps ++ qs)) → Q (.ref l) H'
theorem ok_order {f : Addr} {fd : FuncData} {k : Nat} (F : Fun K "_law_order" "_law_order" sOrder f fd) (ml : mg "list" = none) : FnOk P w K mg base CX0 (k + 1) f fd ["sheet"] spOrder := by
  refine F.ok scOrder (fun vs H Q E h => ?_) (fun cdv A outer s H vs Q E hr h => ?_)
  · obtain ⟨s, os, ps, qs, rfl, _⟩ := h
    rfl
  · obtain ⟨s, os, ps, qs, rfl, hS, ⟨ao, ap, ac, h0, h1, h2, h3⟩, q⟩ := h
    refine ⟨_, pss_one (ps_ret (pe_op op_cat (pe_op op_cat (pe_callTy call_list_of (by rfl) ml (by decide +kernel) (pa_cons (pe_ix ix_tup (pv 0) pe_int (fun _ _ => rfl)) pa_nil)) (pe_callTy call_list_of (by rfl) ml (by decide +kernel) (pa_cons (pe_ix ix_tup (pv 0) pe_int (fun _ _ => rfl)) pa_nil))) (pe_callTy call_list_of (by rfl) ml (by decide +kernel) (pa_cons (pe_ix ix_tup (pv 0) pe_int (fun _ _ => rfl)) pa_nil)))), ?_⟩
    have := hS.o4
    have := hS.p4
    have := hS.c4
    refine ⟨_, rfl, s, _, 0, .ref ao, rfl, rfl, st_of h0, rfl, ao, _, rfl, .inr (st_of h1), fun l1 n1 => ?_⟩
    have e1 : Ex H _ := Ex.new (o := lS os) n1
    refine ⟨_, rfl, s, _, 1, .ref ap, rfl, rfl, st_of (e1 _ _ h0), rfl, ap, _, rfl, .inr (st_of (e1 _ _ h2)), fun l2 n2 => ?_⟩
    have e2 : Ex _ _ := Ex.new (o := lS ps) n2
    refine ⟨l1, l2, _, _, rfl, rfl, e2 _ _ upd_same, upd_same, ?_, fun l3 n3 => ?_⟩
    · rw [List.length_map, List.length_map]
      exact sz_of (by omega)
    have e3 : Ex _ _ := Ex.new (o := .lst (os.map V.str ++ ps.map V.str)) n3
    refine ⟨_, rfl, s, _, 2, .ref ac, rfl, rfl, st_of (e3 _ _ (e2 _ _ (e1 _ _ h0))), rfl, ac, _, rfl, .inr (st_of (e3 _ _ (e2 _ _ (e1 _ _ h3)))), fun l4 n4 => ?_⟩
    have e4 : Ex _ _ := Ex.new (o := lS qs) n4
    refine ⟨l3, l4, _, _, rfl, rfl, e4 _ _ upd_same, upd_same, ?_, fun l5 n5 => ?_⟩
    · rw [List.length_append, List.length_map, List.length_map, List.length_map]
      exact sz_of (by omega)
    have ee := ((e1.trans e2).trans e3).trans e4
    refine q l5 _ (ee.trans (Ex.new n5)) (fresh_back ee n5) ?_
    rw [upd_same, ← List.map_append, ← List.map_append]
end
end Eh
set_option linter.all false
namespace Eh
/-! what answers what: the mathematics -/
inductive Kd | op | pl | cl
deriving DecidableEq
def tv (t : List (Option Nat)) (j : Nat) : Option Nat := t.getD j none
theorem tv_set {t : List (Option Nat)} {a : Nat} {v : Option Nat} (h : a < t.length) (j : Nat) : tv (t.set a v) j = if j = a then v else tv t j := by
  unfold tv
  rw [List.getD_eq_getElem?_getD, List.getD_eq_getElem?_getD, List.getElem?_set]
  by_cases e : j = a
  · subst e
    simp [h]
  · rw [if_neg (fun z => e z.symm), if_neg e]
theorem tv_rep (n j : Nat) : tv (List.replicate n none) j = none := by
  unfold tv
  rw [List.getD_eq_getElem?_getD, List.getElem?_replicate]
  split <;> rfl
theorem tv_get {t : List (Option Nat)} {j : Nat} (h : j < t.length) : t[j]? = some (tv t j) := by
  unfold tv
  rw [List.getD_eq_getElem?_getD, List.getElem?_eq_getElem h]
  rfl
def step (kf : Nat → Kd) (i : Nat) (S : List (Option Nat) × List Nat) : List (Option Nat) × List Nat :=
  match kf i with
  | .op => (S.1, i :: S.2)
  | .pl => S
  | .cl => match S.2 with
    | [] => S
    | b :: r => ((S.1.set b (some i)).set i (some b), r)
def run (kf : Nat → Kd) (n : Nat) : Nat → List (Option Nat) × List Nat
  | 0 => (List.replicate n none, [])
  | i + 1 => step kf i (run kf n i)
structure Good (kf : Nat → Kd) (n i : Nat) (t : List (Option Nat)) (st : List Nat) : Prop where
  len : t.length = n
  srt : st.Pairwise (· > ·)
  bd : ∀ b ∈ st, b < i ∧ kf b = .op ∧ tv t b = none
  opn : ∀ j, j < i → kf j = .op → tv t j = none → j ∈ st
  hi : ∀ j, i ≤ j → tv t j = none
  pr : ∀ j m, tv t j = some m → j < i ∧ m < i ∧ tv t m = some j ∧ ((kf j = .op ∧ kf m = .cl ∧ j < m ∧ ∀ b ∈ st, ¬ (j ≤ b ∧ b ≤ m)) ∨ (kf j = .cl ∧ kf m = .op ∧ m < j ∧ ∀ b ∈ st, ¬ (m ≤ b ∧ b ≤ j)))
theorem good_run (kf : Nat → Kd) (n : Nat) : ∀ i, i ≤ n → Good kf n i (run kf n i).1 (run kf n i).2
  | 0, _ => by
    refine ⟨List.length_replicate, List.Pairwise.nil, fun b hb => (List.not_mem_nil hb).elim, fun j hj => absurd hj (Nat.not_lt_zero j), fun j _ => tv_rep n j, fun j m h => ?_⟩
    have := tv_rep n j
    rw [show (run kf n 0).1 = List.replicate n none from rfl, this] at h
    cases h
  | i + 1, hi => by
    have G := good_run kf n i (by omega)
    show Good kf n (i + 1) (step kf i (run kf n i)).1 (step kf i (run kf n i)).2
    generalize run kf n i = S at G ⊢
    obtain ⟨t, st⟩ := S
    replace G : Good kf n i t st := G
    unfold step
    cases hk : kf i with
    | pl =>
      refine ⟨G.len, G.srt, fun b hb => ⟨by have := (G.bd b hb).1; omega, (G.bd b hb).2⟩, fun j hj ho hn => ?_, fun j hj => G.hi j (by omega), fun j m h => ?_⟩
      · rcases Nat.lt_succ_iff_lt_or_eq.mp hj with z | z
        · exact G.opn j z ho hn
        · subst z
          rw [hk] at ho
          cases ho
      · obtain ⟨a, b, c, d⟩ := G.pr j m h
        exact ⟨by omega, by omega, c, d⟩
    | op =>
      have hn := G.hi i (Nat.le_refl i)
      refine ⟨G.len, List.Pairwise.cons (fun b hb => (G.bd b hb).1) G.srt, fun b hb => ?_, fun j hj ho hn => ?_, fun j hj => G.hi j (by omega), fun j m h => ?_⟩
      · rcases List.mem_cons.mp hb with z | z
        · subst z
          exact ⟨by omega, hk, hn⟩
        · exact ⟨by have := (G.bd b z).1; omega, (G.bd b z).2⟩
      · rcases Nat.lt_succ_iff_lt_or_eq.mp hj with z | z
        · exact List.mem_cons_of_mem _ (G.opn j z ho hn)
        · subst z
          exact List.mem_cons_self ..
      · obtain ⟨a, b, c, d⟩ := G.pr j m h
        refine ⟨by omega, by omega, c, ?_⟩
        rcases d with ⟨d1, d2, d3, d4⟩ | ⟨d1, d2, d3, d4⟩
        · refine .inl ⟨d1, d2, d3, fun x hx => ?_⟩
          rcases List.mem_cons.mp hx with z | z
          · omega
          · exact d4 x z
        · refine .inr ⟨d1, d2, d3, fun x hx => ?_⟩
          rcases List.mem_cons.mp hx with z | z
          · omega
          · exact d4 x z
    | cl =>
      cases st with
      | nil =>
        refine ⟨G.len, G.srt, fun b hb => (List.not_mem_nil hb).elim, fun j hj ho hn => ?_, fun j hj => G.hi j (by omega), fun j m h => ?_⟩
        · rcases Nat.lt_succ_iff_lt_or_eq.mp hj with z | z
          · exact G.opn j z ho hn
          · subst z
            rw [hk] at ho
            cases ho
        · obtain ⟨a, b, c, d⟩ := G.pr j m h
          exact ⟨by omega, by omega, c, d⟩
      | cons b r =>
        obtain ⟨hb1, hb2, hb3⟩ := G.bd b (List.mem_cons_self ..)
        have hlen := G.len
        obtain ⟨hs1, hs2⟩ := List.pairwise_cons.mp G.srt
        have T : ∀ j, tv ((t.set b (some i)).set i (some b)) j = if j = i then some b else if j = b then some i else tv t j := fun j => by
          rw [tv_set (by rw [List.length_set]; omega), tv_set (by omega)]
        refine ⟨by simp [G.len], hs2, fun c hc => ?_, fun j hj ho hn => ?_, fun j hj => ?_, fun j m h => ?_⟩
        · obtain ⟨c1, c2, c3⟩ := G.bd c (List.mem_cons_of_mem _ hc)
          have := hs1 c hc
          refine ⟨by omega, c2, ?_⟩
          rw [T, if_neg (by omega), if_neg (by omega)]
          exact c3
        · rw [T] at hn
          by_cases e1 : j = i
          · rw [if_pos e1] at hn
            cases hn
          · rw [if_neg e1] at hn
            by_cases e2 : j = b
            · rw [if_pos e2] at hn
              cases hn
            · rw [if_neg e2] at hn
              exact (List.mem_cons.mp (G.opn j (by omega) ho hn)).resolve_left e2
        · rw [T, if_neg (by omega), if_neg (by omega)]
          exact G.hi j (by omega)
        · rw [T] at h
          by_cases e1 : j = i
          · rw [if_pos e1] at h
            have em : b = m := Option.some.inj h
            subst em
            subst e1
            refine ⟨by omega, by omega, ?_, .inr ⟨hk, hb2, hb1, fun c hc => by have := hs1 c hc; omega⟩⟩
            rw [T, if_neg (by omega), if_pos rfl]
          · rw [if_neg e1] at h
            by_cases e2 : j = b
            · rw [if_pos e2] at h
              have em : i = m := Option.some.inj h
              subst em
              subst e2
              refine ⟨by omega, by omega, ?_, .inl ⟨hb2, hk, hb1, fun c hc => by have := hs1 c hc; omega⟩⟩
              rw [T, if_pos rfl]
            · rw [if_neg e2] at h
              obtain ⟨g1, g2, g3, g4⟩ := G.pr j m h
              refine ⟨by omega, by omega, ?_, ?_⟩
              · rw [T, if_neg (by omega), if_neg (fun z => by
                  rw [z, hb3] at g3
                  cases g3)]
                exact g3
              · rcases g4 with ⟨d1, d2, d3, d4⟩ | ⟨d1, d2, d3, d4⟩
                · exact .inl ⟨d1, d2, d3, fun c hc => d4 c (List.mem_cons_of_mem _ hc)⟩
                · exact .inr ⟨d1, d2, d3, fun c hc => d4 c (List.mem_cons_of_mem _ hc)⟩
/-- what was told stays; what is told later is of later places -/
theorem run_later (kf : Nat → Kd) (n i j : Nat) : ∀ d, i + d ≤ n → (∀ m, tv (run kf n i).1 j = some m → tv (run kf n (i + d)).1 j = some m) ∧ (j < i → tv (run kf n i).1 j = none → tv (run kf n (i + d)).1 j = none ∨ ∃ m, i ≤ m ∧ tv (run kf n (i + d)).1 j = some m)
  | 0, _ => ⟨fun m h => h, fun _ h => .inl h⟩
  | d + 1, hd => by
    obtain ⟨ih1, ih2⟩ := run_later kf n i j d (by omega)
    have G := good_run kf n (i + d) (by omega)
    show (∀ m, tv (run kf n i).1 j = some m → tv (step kf (i + d) (run kf n (i + d))).1 j = some m) ∧ (j < i → tv (run kf n i).1 j = none → tv (step kf (i + d) (run kf n (i + d))).1 j = none ∨ ∃ m, i ≤ m ∧ tv (step kf (i + d) (run kf n (i + d))).1 j = some m)
    generalize run kf n (i + d) = S at G ih1 ih2 ⊢
    obtain ⟨t, st⟩ := S
    replace G : Good kf n (i + d) t st := G
    replace ih1 : ∀ m, tv (run kf n i).1 j = some m → tv t j = some m := ih1
    replace ih2 : j < i → tv (run kf n i).1 j = none → tv t j = none ∨ ∃ m, i ≤ m ∧ tv t j = some m := ih2
    unfold step
    cases hk : kf (i + d) with
    | pl => exact ⟨ih1, ih2⟩
    | op => exact ⟨ih1, ih2⟩
    | cl =>
      cases st with
      | nil => exact ⟨ih1, ih2⟩
      | cons b r =>
        obtain ⟨hb1, hb2, hb3⟩ := G.bd b (List.mem_cons_self ..)
        have hlen := G.len
        have T : tv ((t.set b (some (i + d))).set (i + d) (some b)) j = if j = i + d then some b else if j = b then some (i + d) else tv t j := by
          rw [tv_set (by rw [List.length_set]; omega), tv_set (by omega)]
        constructor
        · intro m h
          have h' := ih1 m h
          have := (G.pr j m h').1
          show tv ((t.set b (some (i + d))).set (i + d) (some b)) j = some m
          rw [T, if_neg (by omega), if_neg (fun z => by rw [z, hb3] at h'; cases h')]
          exact h'
        · intro hj h
          show tv ((t.set b (some (i + d))).set (i + d) (some b)) j = none ∨ ∃ m, i ≤ m ∧ tv ((t.set b (some (i + d))).set (i + d) (some b)) j = some m
          rw [T, if_neg (by omega)]
          by_cases e : j = b
          · rw [if_pos e]
            exact .inr ⟨i + d, by omega, rfl⟩
          · rw [if_neg e]
            exact ih2 hj h
/-- a falling row as the places that are in it -/
theorem filter_desc : ∀ (i : Nat) (st : List Nat), st.Pairwise (· > ·) → (∀ b ∈ st, b < i) → (List.range i).filter (fun a => decide (a ∈ st)) = st.reverse
  | 0, st, _, h => by
    cases st with
    | nil => rfl
    | cons b r => exact absurd (h b (List.mem_cons_self ..)) (Nat.not_lt_zero b)
  | i + 1, st, hs, h => by
    rw [List.range_succ, List.filter_append]
    by_cases hm : i ∈ st
    · cases st with
      | nil => exact (List.not_mem_nil hm).elim
      | cons b r =>
        obtain ⟨h1, h2⟩ := List.pairwise_cons.mp hs
        have hb : b = i := by
          rcases List.mem_cons.mp hm with z | z
          · exact z.symm
          · have := h1 i z
            have := h b (List.mem_cons_self ..)
            omega
        subst hb
        have ih := filter_desc b r h2 (fun c hc => h1 c hc)
        have e : (List.range b).filter (fun a => decide (a ∈ b :: r)) = (List.range b).filter (fun a => decide (a ∈ r)) := by
          refine List.filter_congr fun a ha => ?_
          have := List.mem_range.mp ha
          have : (a ∈ b :: r) ↔ a ∈ r := ⟨fun z => (List.mem_cons.mp z).resolve_left (by omega), fun z => List.mem_cons_of_mem _ z⟩
          simp only [this]
        rw [e, ih, List.reverse_cons, List.filter_cons, if_pos (decide_eq_true hm)]
        rfl
    · have ih := filter_desc i st hs (fun b hb => by
        have := h b hb
        have : b ≠ i := fun z => hm (z ▸ hb)
        omega)
      rw [ih, List.filter_cons, if_neg (by rw [decide_eq_false hm]; exact Bool.false_ne_true)]
      exact List.append_nil _
/-- the opens ahead of a place that are answered behind it, or never, are those that wait -/
theorem waits (kf : Nat → Kd) (n i : Nat) (hi : i ≤ n) : (List.range i).filter (fun a => decide (kf a = .op) && (decide (tv (run kf n n).1 a = none) || decide (∃ m, tv (run kf n n).1 a = some m ∧ i ≤ m))) = (run kf n i).2.reverse := by
  have G := good_run kf n i hi
  rw [← filter_desc i _ G.srt fun b hb => (G.bd b hb).1]
  refine List.filter_congr fun a ha => ?_
  have ha := List.mem_range.mp ha
  obtain ⟨l1, l2⟩ := run_later kf n i a (n - i) (by omega)
  rw [show i + (n - i) = n by omega] at l1 l2
  rw [Bool.eq_iff_iff]
  simp only [Bool.and_eq_true, Bool.or_eq_true, decide_eq_true_eq]
  constructor
  · rintro ⟨ho, hn⟩
    refine G.opn a ha ho ?_
    cases e : tv (run kf n i).1 a with
    | none => rfl
    | some m =>
      have e' := l1 m e
      have := (G.pr a m e).2.1
      rcases hn with z | ⟨m', z, hm⟩
      · rw [e'] at z
        cases z
      · rw [e'] at z
        have := Option.some.inj z
        omega
  · intro hm
    obtain ⟨_, h2, h3⟩ := G.bd a hm
    refine ⟨h2, ?_⟩
    rcases l2 ha h3 with z | ⟨m, hm, z⟩
    · exact .inl z
    · exact .inr ⟨m, z, hm⟩
def dep (kf : Nat → Kd) (n : Nat) : Nat → Nat
  | 0 => 0
  | i + 1 => max (dep kf n i) (run kf n (i + 1)).2.length
theorem dep_ge (kf : Nat → Kd) (n : Nat) : ∀ i, (run kf n i).2.length ≤ dep kf n i
  | 0 => Nat.le_refl _
  | i + 1 => Nat.le_max_right _ _
end Eh
set_option Elab.async false
set_option linter.all false
set_option maxRecDepth 100000
set_option maxHeartbeats 4000000
namespace Eh
open PySem PySem.Spec PyProof.Rows L2 Evl
def kdOf (os qs : List Str) (x : Str) : Kd := if x ∈ os then .op else if x ∈ qs then .cl else .pl
def kfOf (os qs ws : List Str) (i : Nat) : Kd := match ws[i]? with
  | some x => kdOf os qs x
  | none => .pl
theorem kfOf_at {os qs ws : List Str} {i : Nat} {x : Str} (h : ws[i]? = some x) : kfOf os qs ws i = kdOf os qs x := by
  unfold kfOf
  rw [h]
theorem inV_str (x : Str) : ∀ os : List Str, inV (.str x) (os.map V.str) = decide (x ∈ os)
  | [] => rfl
  | y :: r => by
    show (eqV (.str y) (.str x) || inV (.str x) (r.map V.str)) = _
    rw [inV_str x r, show eqV (.str y) (.str x) = (y == x) from rfl]
    by_cases e : y = x
    · subst e
      simp
    · have e' : ¬ x = y := fun z => e z.symm
      simp [e, e']
theorem flat_str (os : List Str) : (os.map V.str).all flatV = true := by
  rw [List.all_eq_true]
  intro v hv
  obtain ⟨x, _, rfl⟩ := List.mem_map.mp hv
  rfl
def oV : Option Nat → V
  | none => .non
  | some j => .int (j : Int)
def nV (j : Nat) : V := .int (j : Int)
abbrev tO (t : List (Option Nat)) : HO := .lst (t.map oV)
abbrev tN (st : List Nat) : HO := .lst (st.map nV)
def ansOf (os qs ws : List Str) : List (Option Nat) := (run (kfOf os qs ws) ws.length ws.length).1
theorem scAnswers : FnScope ["sheet", "word", "told", "waiting", "place", "letter", "begun"] ["sheet", "word"] (defScope sAnswers) := ⟨rfl, rfl, rfl, by decide +kernel, rfl, by decide +kernel, by decide +kernel⟩
theorem flat_rep {α : Type} (x : α) : ∀ n, (List.replicate n [x]).flatten = List.replicate n x
  | 0 => rfl
  | n + 1 => by
    rw [List.replicate_succ, List.flatten_cons, flat_rep x n, List.replicate_succ]
    rfl
section
variable {P : Program} {w : World} {K : PySem.W.Frag} {mg : Str → Option Value} {base : Heap}
def spAnswers (K : PySem.W.Frag) : Sp := fun vs H Q _ => ∃ (s l : Addr) (os ps qs ws : List Str), vs = [.ref s, .ref l] ∧ Sht os ps qs ∧ SheetAt H s os ps qs ∧ SqL K H l (ws.map V.str) ∧ (∀ x ∈ ws, x ∈ os ++ ps ++ qs) ∧ ws.length ≤ 10000 ∧ ∀ a H', Ex H H' → H a = none → H' a = some (tO (ansOf os qs ws)) → Q (.ref a) H'
theorem ok_answers {f fN : Addr} {fd fdN : FuncData} {k : Nat} (F : Fun K "answers" "answers" sAnswers f fd) (FN : Fun K "need_word" "need_word" sNeedWord fN fdN) (GN : FnOk P w K mg base CX0 (k + 1) fN fdN ["sheet", "word"] (spNeedWord K)) (bN : Binds K fdN ["sheet", "word"] []) (gN : mg "need_word" = some (.ref fN)) (ml : mg "len" = none) (me : mg "enumerate" = none) : FnOk P w K mg base CX0 (k + 2) f fd ["sheet", "word"] (spAnswers K) := by
  have nd := scAnswers.nd
  refine F.ok scAnswers (fun vs H Q E h => ?_) (fun cdv A outer s H vs Q E hr h => ?_)
  · obtain ⟨s, l, os, ps, qs, ws, rfl, _⟩ := h
    rfl
  · obtain ⟨s, l, os, ps, qs, ws, rfl, hS, hs, hl, hw, hlen, q⟩ := h
    refine ⟨_, pss_cons (ps_expr (pe_call GN hr (by rfl) gN FN.kp bN .nil pass0 (pa_cons (pv 0) (pa_cons (pv 1) pa_nil))))
      (pss_cons (ps_set (i := 2) nd rfl (.inl rfl) (pe_op op_rep (pe_lst (pa_cons pe_non pa_nil)) (pe_callB call_len_seq (by rfl) ml PySem.boot_len (pa_cons (pv 1) pa_nil))))
      (pss_cons (ps_set (i := 3) nd rfl (.inl rfl) (pe_lst pa_nil))
      (pss_cons (ps_for PassesOwn.never rfl (pi_enum (by rfl) me (pa_cons (pv 1) pa_nil)) (pg_tup rfl (pgs_cons (pg_name (i := 4) nd rfl (.inl rfl)) (pgs_cons (pg_name (i := 5) nd rfl (.inl rfl)) pgs_nil)))
        (pss_one (ps_if (pt_cmpR op_in_seq (pv 5) (pe_ix ix_tup (pv 0) pe_int (fun _ _ => rfl)) (by rfl))
          (pss_one (ps_expr (pe_bm PySem.F.plainAttrs_list PySem.F.slot_list_append PySem.F.type_list_append mt_append (pv 3) (pa_cons (pv 4) pa_nil))))
          (pss_one (ps_if (PW.pt (pw_and (pt_cmpR op_in_seq (pv 5) (pe_ix ix_tup (pv 0) pe_int (fun _ _ => rfl)) (by rfl)) (pw_and1 (pt_truth (pv 3) (by intro _; rfl)))))
            (pss_cons (ps_set (i := 6) nd rfl (.inl rfl) (pe_bm0 PySem.F.plainAttrs_list PySem.F.slot_list_pop PySem.F.type_list_pop mt_pop (pv 3)))
            (pss_cons (ps_asg (pv 4) (pg_sub (pv 2) (pv 6) set_list))
            (pss_one (ps_asg (pv 6) (pg_sub (pv 2) (pv 4) set_list)))))
            pss_nil)))))
      (pss_one (ps_ret (pv 2)))))), ?_⟩
    refine ⟨_, rfl, _, rfl, s, l, os, ps, qs, ws, rfl, hS, hs, hl, hw, fun H1 e1 => ?_⟩
    -- told
    refine ⟨(by show 1 ≤ sizeLine; decide), fun u nu => ?_⟩
    have e2 : Ex H1 (upd H1 u (.lst [.non])) := Ex.new nu
    refine ⟨_, rfl, l, _, rfl, .inl (ex_l (e1.trans e2) hl), u, _, _, rfl, rfl, upd_same, by omega, ?_, ?_, fun T nT => ?_⟩
    · rw [List.length_map]
      omega
    · rw [List.length_map, Int.toNat_natCast]
      exact sz_of (by simp only [List.length_singleton]; omega)
    rw [List.length_map, Int.toNat_natCast, flat_rep, show List.replicate ws.length V.non = (List.replicate ws.length (none : Option Nat)).map oV by rw [List.map_replicate]; rfl]
    have e3 : Ex H (upd (upd H1 u (.lst [.non])) T (tO (List.replicate ws.length none))) := (e1.trans e2).trans (Ex.new nT)
    have nTH : H T = none := fresh_back (e1.trans e2) nT
    have hT3 : (upd (upd H1 u (.lst [.non])) T (tO (List.replicate ws.length none))) T = some (tO (List.replicate ws.length none)) := upd_same
    show tSeq _ _ _ [some (.ref s), some (.ref l), some (.ref T), none, none, none, none] (upd (upd H1 u (.lst [.non])) T (tO (List.replicate ws.length none)))
    generalize upd (upd H1 u (.lst [.non])) T (tO (List.replicate ws.length none)) = H3 at e3 hT3 ⊢
    -- waiting
    refine ⟨Nat.zero_le _, fun W nW => ?_⟩
    have nWH : H W = none := fresh_back e3 nW
    have nTW : T ≠ W := ne_of_none hT3 nW
    have e4 : Ex H (upd H3 W (tN [])) := e3.trans (Ex.new nW)
    obtain ⟨ao, ap, ac, g0, g1, g2, g3⟩ := hs
    refine ⟨_, rfl, l, _, rfl, ex_l e4 hl, for_enum (xs := ws.map V.str) (fun i σ H' => (∃ y4 y5 y6, σ = [some (.ref s), some (.ref l), some (.ref T), some (.ref W), y4, y5, y6]) ∧ Ex H H' ∧ H' T = some (tO (run (kfOf os qs ws) ws.length i).1) ∧ H' W = some (tN (run (kfOf os qs ws) ws.length i).2.reverse)) ⟨⟨_, _, _, rfl⟩, e4, by rw [upd_ne nTW]; exact hT3, upd_same⟩ (fun i σ H' _ hh => ex_l hh.2.1 hl) ?_ ?_⟩
    · rintro i x σ H' Tp hx ⟨⟨y4, y5, y6, rfl⟩, eH, hT, hW⟩ nTp
      rw [List.getElem?_map] at hx
      obtain ⟨y, hy, rfl⟩ := Option.map_eq_some_iff.mp hx
      have hi := (List.getElem?_eq_some_iff.mp hy).1
      have GR := good_run (kfOf os qs ws) ws.length i (by omega)
      have hrun : run (kfOf os qs ws) ws.length (i + 1) = step (kfOf os qs ws) i (run (kfOf os qs ws) ws.length i) := rfl
      have hk : kfOf os qs ws i = kdOf os qs y := kfOf_at hy
      have eT : Ex H' (upd H' Tp (.tup [.int (i : Nat), .str y])) := Ex.new nTp
      have eHT := eH.trans eT
      replace hT := eT _ _ hT
      replace hW := eT _ _ hW
      generalize upd H' Tp (.tup [.int (i : Nat), .str y]) = H'' at eHT hT hW ⊢
      generalize run (kfOf os qs ws) ws.length i = S at GR hrun hT hW ⊢
      obtain ⟨t, st⟩ := S
      replace GR : Good _ _ i t st := GR
      replace hT : H'' T = some (tO t) := hT
      replace hW : H'' W = some (tN st.reverse) := hW
      have hlt := GR.len
      have hst : st.length ≤ i := by
        have := congrArg List.length (filter_desc i st GR.srt fun b hb => (GR.bd b hb).1)
        rw [List.length_reverse] at this
        rw [← this]
        have h2 := List.length_filter_le (fun a => decide (a ∈ st)) (List.range i)
        rw [List.length_range] at h2
        exact h2
      refine ⟨_, rfl, _, rfl, s, _, 0, .ref ao, rfl, rfl, st_of (eHT _ _ g0), rfl, ao, _, rfl, .inr (st_of (eHT _ _ g1)), rfl, flat_str os, _, rfl, ?_⟩
      show if inV (.str y) (os.map V.str) = true then _ else _
      rw [inV_str]
      refine ite2 (fun ho => ?_) (fun ho => ?_)
      · have hko : kfOf os qs ws i = .op := by
          rw [hk]
          unfold kdOf
          rw [if_pos (of_decide_eq_true ho)]
        refine ⟨_, rfl, .inl ⟨rfl, _, sq_of hW⟩, _, rfl, W, _, _, rfl, rfl, hW, ?_, ⟨_, _, _, rfl⟩, eHT.mut nWH, ?_, ?_⟩
        · rw [List.length_map, List.length_reverse]
          exact sz_lt (by omega)
        · rw [upd_ne nTW, hT, hrun]
          unfold step
          rw [hko]
        · rw [upd_same, hrun]
          unfold step
          rw [hko]
          show some (HO.lst (st.reverse.map nV ++ [nV i])) = some (HO.lst ((i :: st).reverse.map nV))
          rw [List.reverse_cons, List.map_append]
          rfl
      · have hno : ¬ y ∈ os := fun z => ho (decide_eq_true z)
        refine ⟨_, rfl, _, rfl, s, _, 2, .ref ac, rfl, rfl, st_of (eHT _ _ g0), rfl, ac, _, rfl, .inr (st_of (eHT _ _ g3)), rfl, flat_str qs, _, rfl, ?_⟩
        show if inV (.str y) (qs.map V.str) = true then _ else _
        rw [inV_str]
        refine ite2 (fun hc => ?_) (fun hc => ?_)
        · have hkc : kfOf os qs ws i = .cl := by
            rw [hk]
            unfold kdOf
            rw [if_neg hno, if_pos (of_decide_eq_true hc)]
          refine ⟨_, rfl, _, .inl ⟨_, sq_of hW, rfl⟩, ?_⟩
          cases st with
          | nil =>
            refine iteF ?_
            refine ⟨⟨_, _, _, rfl⟩, eHT, ?_, ?_⟩
            · rw [hT, hrun]
              unfold step
              rw [hkc]
            · rw [hW, hrun]
              unfold step
              rw [hkc]
          | cons b r =>
            obtain ⟨hb1, hb2, hb3⟩ := GR.bd b (List.mem_cons_self ..)
            have er : ((b :: r).reverse.map nV) = r.reverse.map nV ++ [nV b] := by
              rw [List.reverse_cons, List.map_append]
              rfl
            rw [er]
            have hemp : (!(r.reverse.map nV ++ [nV b]).isEmpty) = true := by
              rw [Bool.not_eq_true']
              cases r.reverse.map nV <;> rfl
            rw [hemp]
            refine iteT ?_
            have hW' : H'' W = some (.lst (r.reverse.map nV ++ [nV b])) := by
              rw [hW]
              unfold tN
              rw [er]
            refine ⟨_, rfl, .inl ⟨rfl, _, sq_of hW'⟩, W, _, nV b, rfl, rfl, hW', ?_, ?_⟩
            · rw [List.length_append, List.length_singleton, Nat.add_sub_cancel, List.getElem?_append_right (Nat.le_refl _), Nat.sub_self]
              rfl
            · rw [List.dropLast_concat]
              have hT1 : (upd H'' W (.lst (r.reverse.map nV))) T = some (tO t) := by
                rw [upd_ne nTW]
                exact hT
              refine ⟨_, rfl, _, rfl, _, rfl, T, _, _, b, rfl, rfl, hT1, ixN_nat (by rw [List.length_map]; omega), ?_⟩
              refine ⟨_, rfl, _, rfl, _, rfl, T, _, _, i, rfl, rfl, upd_same, ixN_nat (by rw [List.length_set, List.length_map]; omega), ⟨_, _, _, rfl⟩, ((eHT.mut nWH).mut nTH).mut nTH, ?_, ?_⟩
              · rw [upd_same, hrun]
                unfold step
                rw [hkc]
                show some (HO.lst (((t.map oV).set b (oV (some i))).set i (oV (some b)))) = some (tO ((t.set b (some i)).set i (some b)))
                rw [← List.map_set, ← List.map_set]
              · rw [upd_ne nTW.symm, upd_ne nTW.symm, upd_same, hrun]
                unfold step
                rw [hkc]
        · have hkp : kfOf os qs ws i = .pl := by
            rw [hk]
            unfold kdOf
            rw [if_neg hno, if_neg (fun z => hc (decide_eq_true z))]
          refine iteF ?_
          refine ⟨⟨_, _, _, rfl⟩, eHT, ?_, ?_⟩
          · rw [hT, hrun]
            unfold step
            rw [hkp]
          · rw [hW, hrun]
            unfold step
            rw [hkp]
    · rintro σ H' ⟨⟨y4, y5, y6, rfl⟩, eH, hT, hW⟩
      rw [List.length_map] at hT
      exact ⟨_, rfl, q T H' eH nTH hT⟩
end
end Eh
set_option Elab.async false
set_option linter.all false
set_option maxRecDepth 100000
set_option maxHeartbeats 4000000
namespace Eh
open PySem PySem.Spec PyProof.Rows L2 Evl
theorem Sht.apart {os ps qs : List Str} (h : Sht os ps qs) {x : Str} (h1 : x ∈ os) (h2 : x ∈ qs) : False := by
  have := List.nodup_append.mp h.nd
  exact this.2.2 x (List.mem_append.mpr (.inl h1)) x h2 rfl
theorem kd_op {os qs : List Str} {x : Str} : kdOf os qs x = .op ↔ x ∈ os := by
  unfold kdOf
  by_cases h : x ∈ os
  · rw [if_pos h]
    exact ⟨fun _ => h, fun _ => rfl⟩
  · rw [if_neg h]
    refine ⟨fun e => ?_, fun z => absurd z h⟩
    split at e <;> cases e
theorem kd_cl {os ps qs : List Str} (hS : Sht os ps qs) {x : Str} : kdOf os qs x = .cl ↔ x ∈ qs := by
  unfold kdOf
  by_cases h : x ∈ os
  · rw [if_pos h]
    exact ⟨fun e => (nomatch e), fun z => (hS.apart h z).elim⟩
  · rw [if_neg h]
    by_cases h2 : x ∈ qs
    · rw [if_pos h2]
      exact ⟨fun _ => h2, fun _ => rfl⟩
    · rw [if_neg h2]
      exact ⟨fun e => (nomatch e), fun z => absurd z h2⟩
theorem given_map (xs : List Nat) (f : Nat → Bool) (g : Nat → V) : given xs.length (fun i => f (xs.getD i 0)) (fun i => g (xs.getD i 0)) = (xs.filter f).map g := by
  have e : (List.range xs.length).map (fun i => xs.getD i 0) = xs := by
    apply List.ext_getElem
    · rw [List.length_map, List.length_range]
    · intro i h1 h2
      rw [List.getElem_map, List.getElem_range, List.getD_eq_getElem?_getD, List.getElem?_eq_getElem h2]
      rfl
  unfold given
  conv => rhs; rw [← e]
  rw [List.filter_map, List.map_map]
  rfl
def aloneOf (os qs ws : List Str) (t : List (Option Nat)) : List Nat :=
  ((List.range ws.length).filter fun i => decide (tv t i = none)).filter (fun i => decide (kfOf os qs ws i = .cl)) ++ ((List.range ws.length).filter fun i => decide (tv t i = none)).filter (fun i => decide (kfOf os qs ws i = .op))
theorem aloneOf_nil {os qs ws : List Str} {t : List (Option Nat)} : aloneOf os qs ws t = [] ↔ ∀ i, i < ws.length → tv t i = none → kfOf os qs ws i = .pl := by
  unfold aloneOf
  rw [List.append_eq_nil_iff, List.filter_eq_nil_iff, List.filter_eq_nil_iff]
  constructor
  · rintro ⟨h1, h2⟩ i hi hn
    have hm : i ∈ (List.range ws.length).filter fun i => decide (tv t i = none) := List.mem_filter.mpr ⟨List.mem_range.mpr hi, decide_eq_true hn⟩
    cases hk : kfOf os qs ws i with
    | pl => rfl
    | op => exact absurd (decide_eq_true hk) (h2 i hm)
    | cl => exact absurd (decide_eq_true hk) (h1 i hm)
  · intro h
    constructor
    · intro i hm
      obtain ⟨a, b⟩ := List.mem_filter.mp hm
      rw [h i (List.mem_range.mp a) (of_decide_eq_true b)]
      decide
    · intro i hm
      obtain ⟨a, b⟩ := List.mem_filter.mp hm
      rw [h i (List.mem_range.mp a) (of_decide_eq_true b)]
      decide
abbrev nAlone : List Str := ["sheet", "word", "told", "places", "bare", "place"]
theorem scAlone : FnScope nAlone ["sheet", "word", "told"] (defScope sAlone) := ⟨rfl, rfl, rfl, by decide +kernel, rfl, by decide +kernel, by decide +kernel⟩
theorem scIsShut : FnScope ["sheet", "word"] ["sheet", "word"] (defScope sIsShut) := ⟨rfl, rfl, rfl, by decide +kernel, rfl, by decide +kernel, by decide +kernel⟩
theorem scDepthOf : FnScope ["sheet", "word", "depth", "waiting", "letter"] ["sheet", "word"] (defScope sDepthOf) := ⟨rfl, rfl, rfl, by decide +kernel, rfl, by decide +kernel, by decide +kernel⟩
theorem rv_isN {K : PySem.W.Frag} {x : V} {H : Hp} : RV (fun x y H Q => y = V.non ∧ Q (.bl (decide (x = .non))) H) x .non H (.bl (decide (x = .non))) := fun H1 _ _ q => ⟨rfl, q H1 (Ex.refl H1)⟩
theorem oV_non (o : Option Nat) : decide (oV o = .non) = decide (o = none) := by
  cases o with
  | none => rfl
  | some j => exact (decide_eq_false (fun z => nomatch z)).trans (decide_eq_false (fun z => nomatch z)).symm
section
variable {P : Program} {w : World} {K : PySem.W.Frag} {mg : Str → Option Value} {base : Heap}
def spAlone (K : PySem.W.Frag) : Sp := fun vs H Q _ => ∃ (s l a : Addr) (os ps qs ws : List Str) (t : List (Option Nat)), vs = [.ref s, .ref l, .ref a] ∧ Sht os ps qs ∧ SheetAt H s os ps qs ∧ SqL K H l (ws.map V.str) ∧ SqL K H a (t.map oV) ∧ t.length = ws.length ∧ ws.length ≤ 10000 ∧ ∀ r H', Ex H H' → H r = none → H' r = some (tN (aloneOf os qs ws t)) → Q (.ref r) H'
theorem ok_alone {f : Addr} {fd : FuncData} {k : Nat} (F : Fun K "alone" "alone" sAlone f fd) (ml : mg "len" = none) (mr : mg "range" = none) : FnOk P w K mg base CX0 (k + 1) f fd ["sheet", "word", "told"] (spAlone K) := by
  have nd := scAlone.nd
  refine F.ok scAlone (fun vs H Q E h => ?_) (fun cdv A outer s H vs Q E hr h => ?_)
  · obtain ⟨s, l, a, os, ps, qs, ws, t, rfl, _⟩ := h
    rfl
  · obtain ⟨s, l, a, os, ps, qs, ws, t, rfl, hS, ⟨ao, ap, ac, g0, g1, g2, g3⟩, hl, ha, htl, hlen, q⟩ := h
    have bk := fun (scope : Scope) (h : blkC nAlone (defScope sAlone) scope [("place", 5)] = true) => blkOk_by (own := [("place", 5)]) h
    refine ⟨_, pss_cons (ps_setLc (i := 3) (own := [("place", 5)]) (g := gName 5) (tt := tTest (tOp (fun x y H Q => y = V.non ∧ Q (.bl (decide (x = .non))) H) (tOp (rIxL K) (tVar 2) (tVar 5)) (tC .non))) rfl nd rfl rfl (sw_true rfl rfl rfl (by decide +kernel)) (pi_range1 (by rfl) mr (pa_cons (pe_callB call_len_seq (by rfl) ml PySem.boot_len (pa_cons (pv 1) pa_nil)) pa_nil)) (bk _ (by decide +kernel)) (fun _ _ _ _ _ => pg_name (i := 5) nd rfl (Or.inl rfl)) (fun _ _ _ _ _ => pts_one (pt_cmpR op_isN (pe_ix ix_list (pv 2) (pv 5) (fun _ _ => rfl)) pe_non (nomark _))) (fun _ _ _ _ _ => pv 5))
      (pss_cons (ps_setLc (i := 4) (own := [("place", 5)]) (g := gName 5) (tt := tTest (tOp (rIn K false) (tOp (rIxL K) (tVar 1) (tVar 5)) (tOp (rIxT K) (tVar 0) (tC (.int 2))))) rfl nd rfl rfl (sw_true rfl rfl rfl (by decide +kernel)) (pi_list (pv 3)) (bk _ (by decide +kernel)) (fun _ _ _ _ _ => pg_name (i := 5) nd rfl (Or.inl rfl)) (fun _ _ _ _ _ => pts_one (pt_cmpR op_in_seq (pe_ix ix_list (pv 1) (pv 5) (fun _ _ => rfl)) (pe_ix ix_tup (pv 0) pe_int (fun _ _ => rfl)) (by rfl))) (fun _ _ _ _ _ => pv 5))
      (pss_one (ps_ret (pe_op op_cat (pv 4) (pe_lc (own := [("place", 5)]) (g := gName 5) (tt := tTest (tOp (rIn K false) (tOp (rIxL K) (tVar 1) (tVar 5)) (tOp (rIxT K) (tVar 0) (tC (.int 0))))) rfl nd (pi_list (pv 3)) (bk _ (by decide +kernel)) (fun _ _ _ _ _ => pg_name (i := 5) nd rfl (Or.inl rfl)) (fun _ _ _ _ _ => pts_one (pt_cmpR op_in_seq (pe_ix ix_list (pv 1) (pv 5) (fun _ _ => rfl)) (pe_ix ix_tup (pv 0) pe_int (fun _ _ => rfl)) (by rfl))) (fun _ _ _ _ _ => pv 5)))))), ?_⟩
    have n0 : (ws.map V.str).length = ws.length := List.length_map _
    refine q_asgL (el_lcR1 (fun i => decide (tv t i = none)) nV (ea_cons (ev_len (ev_var rfl) hl) ea_nil) (by rw [n0]; omega) (fun x => rfl) (fun i H1 e1 hi => ?_) (fun i H1 e1 hi _ => ev_var rfl)) fun p1 H1 np1 e1 hp1 => ?_
    · have hi' : i < t.length := by omega
      refine et_is (et_test (ev_op (ev_op (ev_var rfl) (ev_var rfl) (rv_ixL (ex_l e1 ha) (atI_nat (v := oV (tv t i)) ?_))) ev_c (rv_isN (K := K)))) (oV_non _)
      rw [List.getElem?_map, tv_get hi']
      rfl
    rw [n0, Int.toNat_natCast] at hp1
    generalize hpl : ((List.range ws.length).filter fun i => decide (tv t i = none)) = pl
    have epl : given ws.length (fun i => decide (tv t i = none)) nV = pl.map nV := by
      unfold given
      rw [hpl]
    rw [epl] at hp1
    have hplm : ∀ i x, (pl.map nV)[i]? = some x → ∃ j, x = nV j ∧ pl.getD i 0 = j ∧ j < ws.length := fun i x hx => by
      rw [List.getElem?_map] at hx
      obtain ⟨j, hj, rfl⟩ := Option.map_eq_some_iff.mp hx
      refine ⟨j, rfl, ?_, ?_⟩
      · rw [List.getD_eq_getElem?_getD, hj]
        rfl
      · have := List.mem_of_getElem? hj
        rw [← hpl] at this
        exact List.mem_range.mp (List.mem_filter.mp this).1
    have pll : (pl.map nV).length ≤ 40000 := by
      rw [List.length_map, ← hpl]
      have h2 := List.length_filter_le (fun i => decide (tv t i = none)) (List.range ws.length)
      rw [List.length_range] at h2
      omega
    have rd : ∀ (H2 : Hp), Ex H H2 → ∀ (j : Nat), j < ws.length → ∀ (σ' : L2.St) (y : List Str) (ad : Addr) (z : Int) (kd : Kd), σ'[0]? = some (some (.ref s)) → σ'[1]? = some (some (.ref l)) → σ'[5]? = some (some (nV j)) → atI [V.ref ao, .ref ap, .ref ac] z = some (.ref ad) → SqT K H2 ad (y.map V.str) → (∀ x, kdOf os qs x = kd ↔ x ∈ y) →
        EvT (tTest (tOp (rIn K false) (tOp (rIxL K) (tVar 1) (tVar 5)) (tOp (rIxT K) (tVar 0) (tC (.int z))))) σ' H2 (decide (kfOf os qs ws j = kd)) := fun H2 e2 j hj σ' y ad z kd h0 h1 h5 hat hsq hkd => by
      have hwj : ws[j]? = some ws[j] := List.getElem?_eq_getElem hj
      refine et_is (et_test (ev_op (ev_op (ev_var h1) (ev_var h5) (rv_ixL (ex_l e2 hl) (atI_nat (v := .str ws[j]) (by rw [List.getElem?_map, hwj]; rfl)))) (ev_op (ev_var h0) ev_c (rv_ixT (st_of (e2 _ _ g0)) hat)) (rv_isT hsq rfl (flat_str y)))) ?_
      rw [inV_str, kfOf_at hwj]
      exact decide_eq_decide.mpr (hkd _).symm
    have hc := fun x => kd_cl hS (x := x)
    refine q_asgL (el_lcL (fun i => decide (kfOf os qs ws (pl.getD i 0) = .cl)) (fun i => nV (pl.getD i 0)) (ev_var rfl) (sq_of hp1) pll (fun x => rfl) (fun i x H2 e2 hx => ?_) (fun i x H2 e2 hx _ => ?_)) fun p2 H2 np2 e2 hp2 => ?_
    · obtain ⟨j, rfl, hj, hj2⟩ := hplm i x hx
      rw [hj]
      exact rd H2 (e1.trans e2) j hj2 _ qs ac 2 .cl rfl rfl rfl rfl (st_of ((e1.trans e2) _ _ g3)) hc
    · obtain ⟨j, rfl, hj, hj2⟩ := hplm i x hx
      rw [hj]
      exact ev_var rfl
    rw [List.length_map, given_map pl (fun j => decide (kfOf os qs ws j = .cl)) nV] at hp2
    refine ⟨_, rfl, ?_⟩
    refine (el_lcL (fun i => decide (kfOf os qs ws (pl.getD i 0) = .op)) (fun i => nV (pl.getD i 0)) (ev_var rfl) (sq_of (e2 _ _ hp1)) pll (fun x => rfl) (fun i x H4 e4 hx => ?_) (fun i x H4 e4 hx _ => ?_)) H2 (Ex.refl _) _ fun p3 H4 np3 e4 hp3 => ?_
    · obtain ⟨j, rfl, hj, hj2⟩ := hplm i x hx
      rw [hj]
      exact rd H4 ((e1.trans e2).trans e4) j hj2 _ os ao 0 .op rfl rfl rfl rfl (st_of (((e1.trans e2).trans e4) _ _ g1)) (fun x => kd_op)
    · obtain ⟨j, rfl, hj, hj2⟩ := hplm i x hx
      rw [hj]
      exact ev_var rfl
    rw [List.length_map, given_map pl (fun j => decide (kfOf os qs ws j = .op)) nV] at hp3
    have ee := ((e1.trans e2).trans e4)
    refine ⟨p2, p3, _, _, rfl, rfl, e4 _ _ hp2, hp3, ?_, fun p4 np4 => q p4 _ (ee.trans (Ex.new np4)) (fresh_back ee np4) ?_⟩
    · rw [List.length_map, List.length_map]
      have a1 := List.length_filter_le (fun j => decide (kfOf os qs ws j = .cl)) pl
      have a2 := List.length_filter_le (fun j => decide (kfOf os qs ws j = .op)) pl
      rw [List.length_map] at pll
      exact sz_of (by omega)
    · rw [upd_same]
      unfold aloneOf tN
      rw [hpl, List.map_append]
def spWordV (K : PySem.W.Frag) (v : List Str → List Str → List Str → V) : Sp := fun vs H Q _ => ∃ (s l : Addr) (os ps qs ws : List Str), vs = [.ref s, .ref l] ∧ Sht os ps qs ∧ SheetAt H s os ps qs ∧ SqL K H l (ws.map V.str) ∧ (∀ x ∈ ws, x ∈ os ++ ps ++ qs) ∧ ws.length ≤ 10000 ∧ ∀ H', Ex H H' → Q (v os qs ws) H'
theorem ansOf_len (os qs ws : List Str) : (ansOf os qs ws).length = ws.length := (good_run (kfOf os qs ws) ws.length ws.length (Nat.le_refl _)).len
theorem ok_isShut {f fA fL : Addr} {fd fdA fdL : FuncData} {k : Nat} (F : Fun K "is_shut" "is_shut" sIsShut f fd) (FA : Fun K "answers" "answers" sAnswers fA fdA) (GA : FnOk P w K mg base CX0 (k + 1) fA fdA ["sheet", "word"] (spAnswers K)) (bA : Binds K fdA ["sheet", "word"] []) (gA : mg "answers" = some (.ref fA))
    (FL : Fun K "alone" "alone" sAlone fL fdL) (GL : FnOk P w K mg base CX0 (k + 1) fL fdL ["sheet", "word", "told"] (spAlone K)) (bL : Binds K fdL ["sheet", "word", "told"] []) (gL : mg "alone" = some (.ref fL)) : FnOk P w K mg base CX0 (k + 2) f fd ["sheet", "word"] (spWordV K fun os qs ws => .bl (aloneOf os qs ws (ansOf os qs ws)).isEmpty) := by
  refine F.ok scIsShut (fun vs H Q E h => ?_) (fun cdv A outer s H vs Q E hr h => ?_)
  · obtain ⟨s, l, os, ps, qs, ws, rfl, _⟩ := h
    rfl
  · obtain ⟨s, l, os, ps, qs, ws, rfl, hS, hs, hl, hw, hlen, q⟩ := h
    refine ⟨_, pss_one (ps_ret (pe_notT (pe_call GL hr (by rfl) gL FL.kp bL .nil pass0 (pa_cons (pv 0) (pa_cons (pv 1) (pa_cons (pe_call GA hr (by rfl) gA FA.kp bA .nil pass0 (pa_cons (pv 0) (pa_cons (pv 1) pa_nil))) pa_nil)))))), ?_⟩
    refine ⟨_, rfl, _, rfl, _, rfl, _, rfl, s, l, os, ps, qs, ws, rfl, hS, hs, hl, hw, hlen, fun a H1 e1 na ha => ?_⟩
    refine ⟨s, l, a, os, ps, qs, ws, ansOf os qs ws, rfl, hS, hs.ex e1, ex_l e1 hl, sq_of ha, ansOf_len _ _ _, hlen, fun r H2 e2 nr hr2 => ?_⟩
    refine ⟨_, .inl ⟨_, sq_of hr2, rfl⟩, ?_⟩
    rw [Bool.not_not, List.isEmpty_map]
    exact q H2 (e1.trans e2)
theorem run_st_len {kf : Nat → Kd} {n i : Nat} (h : i ≤ n) : (run kf n i).2.length ≤ i := by
  have GR := good_run kf n i h
  have := congrArg List.length (filter_desc i _ GR.srt fun b hb => (GR.bd b hb).1)
  rw [List.length_reverse] at this
  rw [← this]
  have h2 := List.length_filter_le (fun a => decide (a ∈ (run kf n i).2)) (List.range i)
  rw [List.length_range] at h2
  exact h2
theorem ok_depthOf {f fN : Addr} {fd fdN : FuncData} {k : Nat} (F : Fun K "depth_of" "depth_of" sDepthOf f fd) (FN : Fun K "need_word" "need_word" sNeedWord fN fdN) (GN : FnOk P w K mg base CX0 (k + 1) fN fdN ["sheet", "word"] (spNeedWord K)) (bN : Binds K fdN ["sheet", "word"] []) (gN : mg "need_word" = some (.ref fN)) (mm : mg "max" = none) : FnOk P w K mg base CX0 (k + 2) f fd ["sheet", "word"] (spWordV K fun os qs ws => nV (dep (kfOf os qs ws) ws.length ws.length)) := by
  have nd := scDepthOf.nd
  refine F.ok scDepthOf (fun vs H Q E h => ?_) (fun cdv A outer s H vs Q E hr h => ?_)
  · obtain ⟨s, l, os, ps, qs, ws, rfl, _⟩ := h
    rfl
  · obtain ⟨s, l, os, ps, qs, ws, rfl, hS, hs, hl, hw, hlen, q⟩ := h
    refine ⟨_, pss_cons (ps_expr (pe_call GN hr (by rfl) gN FN.kp bN .nil pass0 (pa_cons (pv 0) (pa_cons (pv 1) pa_nil))))
      (pss_cons (ps_set (i := 2) nd rfl (.inl rfl) pe_int)
      (pss_cons (ps_set (i := 3) nd rfl (.inl rfl) pe_int)
      (pss_cons (ps_for PassesOwn.never rfl (pi_list (pv 1)) (pg_name (i := 4) nd rfl (.inl rfl))
        (pss_one (ps_if (pt_cmpR op_in_seq (pv 4) (pe_ix ix_tup (pv 0) pe_int (fun _ _ => rfl)) (by rfl))
          (pss_cons (ps_aug (i := 3) nd rfl (.inl rfl) pe_int ip_add)
          (pss_one (ps_set (i := 2) nd rfl (.inl rfl) (pe_callB (call_max2 rfl) (by rfl) mm (by decide +kernel) (pa_cons (pv 2) (pa_cons (pv 3) pa_nil))))))
          (pss_one (ps_if (PW.pt (pw_and (pt_cmpR op_in_seq (pv 4) (pe_ix ix_tup (pv 0) pe_int (fun _ _ => rfl)) (by rfl)) (pw_and1 (pt_cmpR op_gt (pv 3) pe_int (nomark _)))))
            (pss_one (ps_aug (i := 3) nd rfl (.inl rfl) pe_int ip_sub)) pss_nil)))))
      (pss_one (ps_ret (pv 2)))))), ?_⟩
    refine ⟨_, rfl, _, rfl, s, l, os, ps, qs, ws, rfl, hS, hs, hl, hw, fun H1 e1 => ?_⟩
    obtain ⟨ao, ap, ac, g0, g1, g2, g3⟩ := hs.ex e1
    refine ⟨_, rfl, l, rfl, ⟨_, ex_l e1 hl⟩, for_list (xs := ws.map V.str) (fun i σ H' => (∃ y4, σ = [some (.ref s), some (.ref l), some (nV (dep (kfOf os qs ws) ws.length i)), some (nV (run (kfOf os qs ws) ws.length i).2.length), y4]) ∧ H' = H1) ⟨⟨_, rfl⟩, rfl⟩ (fun i σ H' _ hh => by rw [hh.2]; exact ex_l e1 hl) ?_ ?_⟩
    · rintro i x σ H' hx ⟨⟨y4, rfl⟩, rfl⟩
      rw [List.getElem?_map] at hx
      obtain ⟨y, hy, rfl⟩ := Option.map_eq_some_iff.mp hx
      have hi := (List.getElem?_eq_some_iff.mp hy).1
      have hrun : run (kfOf os qs ws) ws.length (i + 1) = step (kfOf os qs ws) i (run (kfOf os qs ws) ws.length i) := rfl
      have hdep : dep (kfOf os qs ws) ws.length (i + 1) = max (dep (kfOf os qs ws) ws.length i) (run (kfOf os qs ws) ws.length (i + 1)).2.length := rfl
      have hge := dep_ge (kfOf os qs ws) ws.length i
      have hk : kfOf os qs ws i = kdOf os qs y := kfOf_at hy
      rw [hdep, hrun]
      generalize dep (kfOf os qs ws) ws.length i = dp at hge ⊢
      generalize run (kfOf os qs ws) ws.length i = S at hge ⊢
      obtain ⟨t, st⟩ := S
      replace hge : st.length ≤ dp := hge
      refine ⟨_, rfl, _, rfl, s, _, 0, .ref ao, rfl, rfl, st_of g0, rfl, ao, _, rfl, .inr (st_of g1), rfl, flat_str os, _, rfl, ?_⟩
      show if inV (.str y) (os.map V.str) = true then _ else _
      rw [inV_str]
      refine ite2 (fun ho => ?_) (fun ho => ?_)
      · have hko : kfOf os qs ws i = .op := by
          rw [hk]
          exact kd_op.mpr (of_decide_eq_true ho)
        refine ⟨_, rfl, _, _, rfl, rfl, _, rfl, _, rfl, _, _, rfl, ⟨some (V.str y), ?_⟩, rfl⟩
        unfold step
        rw [hko]
        show [_, _, some (V.int (if ((st.length : Int) + 1 > (dp : Int)) then (st.length : Int) + 1 else (dp : Int))), some (V.int ((st.length : Int) + 1)), some (V.str y)] = [_, _, some (V.int ((max dp (st.length + 1) : Nat) : Int)), some (V.int ((st.length + 1 : Nat) : Int)), some (V.str y)]
        rw [show ((st.length + 1 : Nat) : Int) = (st.length : Int) + 1 from rfl, show (if ((st.length : Int) + 1 > (dp : Int)) then (st.length : Int) + 1 else (dp : Int)) = ((max dp (st.length + 1) : Nat) : Int) by split <;> omega]
      · have hno : ¬ y ∈ os := fun z => ho (decide_eq_true z)
        refine ⟨_, rfl, _, rfl, s, _, 2, .ref ac, rfl, rfl, st_of g0, rfl, ac, _, rfl, .inr (st_of g3), rfl, flat_str qs, _, rfl, ?_⟩
        show if inV (.str y) (qs.map V.str) = true then _ else _
        rw [inV_str]
        refine ite2 (fun hc => ?_) (fun hc => ?_)
        · have hkc : kfOf os qs ws i = .cl := by
            rw [hk]
            exact (kd_cl hS).mpr (of_decide_eq_true hc)
          refine ⟨_, rfl, _, _, rfl, rfl, _, rfl, ?_⟩
          unfold step
          rw [hkc]
          cases st with
          | nil =>
            refine iteF ⟨⟨some (V.str y), ?_⟩, rfl⟩
            show [_, _, some (nV dp), some (nV 0), some (V.str y)] = [_, _, some (nV (max dp 0)), some (nV 0), some (V.str y)]
            rw [Nat.max_zero]
          | cons b r =>
            have h0 : decide ((0 : Int) < (((b :: r).length : Nat) : Int)) = true := decide_eq_true (by rw [List.length_cons]; omega)
            rw [h0]
            refine iteT ⟨_, rfl, _, _, rfl, rfl, ⟨some (V.str y), ?_⟩, rfl⟩
            show [_, _, some (nV dp), some (V.int (((b :: r).length : Int) - 1)), some (V.str y)] = [_, _, some (nV (max dp r.length)), some (nV r.length), some (V.str y)]
            rw [List.length_cons] at hge ⊢
            rw [Nat.max_eq_left (by omega), show ((r.length + 1 : Nat) : Int) - 1 = (r.length : Int) by omega]
            rfl
        · have hkp : kfOf os qs ws i = .pl := by
            rw [hk]
            unfold kdOf
            rw [if_neg hno, if_neg (fun z => hc (decide_eq_true z))]
          refine iteF ⟨⟨some (V.str y), ?_⟩, rfl⟩
          unfold step
          rw [hkp]
          show [_, _, some (nV dp), some (nV st.length), some (V.str y)] = [_, _, some (nV (max dp st.length)), some (nV st.length), some (V.str y)]
          rw [Nat.max_eq_left hge]
    · rintro σ H' ⟨⟨y4, rfl⟩, rfl⟩
      rw [List.length_map]
      exact ⟨_, rfl, q _ e1⟩
end
end Eh
set_option Elab.async false
set_option linter.all false
set_option maxRecDepth 100000
set_option maxHeartbeats 4000000
namespace Eh
open PySem PySem.Spec PyProof.Rows L2 Evl
/-! texts compared at depth -/
theorem strOk_ltr {x : Str} (h : ∀ c ∈ cs x, az c) : PyData.strOk x = true := by
  unfold PyData.strOk
  rw [Array.all_eq_true_iff_forall_mem]
  intro c hc
  have := (h c (by simpa using hc)).2
  simp
  omega
theorem dpStrs {K : PySem.W.Frag} {H : Hp} : ∀ ws : List Str, DpAll K H (ws.map V.str) (ws.map PyData.str)
  | [] => .nil
  | x :: r => .cons (.str x) (dpStrs r)
theorem layStrs : ∀ ws : List Str, (∀ x ∈ ws, ∀ c ∈ cs x, az c) → PyData.canLayAll0 (ws.map PyData.str) = true
  | [], _ => rfl
  | x :: r, h => by
    show (PyData.strOk x && PyData.canLayAll0 (r.map PyData.str)) = true
    rw [layStrs r fun y hy => h y (List.mem_cons_of_mem _ hy), strOk_ltr (h x (List.mem_cons_self ..))]
    rfl
theorem deepStrs : ∀ ws : List Str, PyData.depthAll (ws.map PyData.str) = 0
  | [] => rfl
  | x :: r => by
    show max 0 (PyData.depthAll (r.map PyData.str)) = 0
    rw [deepStrs r]
    rfl
theorem shapedT {ws : List Str} (h : ∀ x ∈ ws, ∀ c ∈ cs x, az c) : SeqAt.shaped (.tuple (ws.map PyData.str)) = true := by
  unfold SeqAt.shaped
  rw [show PyData.canLay0 (.tuple (ws.map PyData.str)) = true from layStrs ws h, show PyData.depth (.tuple (ws.map PyData.str)) = 1 by
    show PyData.depthAll (ws.map PyData.str) + 1 = 1
    rw [deepStrs]]
  rfl
theorem shapedL {ws : List Str} (h : ∀ x ∈ ws, ∀ c ∈ cs x, az c) : SeqAt.shaped (.list (ws.map PyData.str)) = true := by
  unfold SeqAt.shaped
  rw [show PyData.canLay0 (.list (ws.map PyData.str)) = true from layStrs ws h, show PyData.depth (.list (ws.map PyData.str)) = 1 by
    show PyData.depthAll (ws.map PyData.str) + 1 = 1
    rw [deepStrs]]
  rfl
theorem shapedT0 : SeqAt.shaped (.tuple []) = true := by decide +kernel
theorem eqv_nilT (ws : List Str) : PyData.eqv (.tuple (ws.map PyData.str)) (.tuple []) = decide (ws = []) := by
  cases ws with
  | nil => rfl
  | cons x r => exact (decide_eq_false (fun z => nomatch z)).symm
/-! a letter of one part drawn -/
theorem draw_rd {K : PySem.W.Frag} {p c s ad : Addr} {ns : List Int} {H : Hp} {σ : L2.St} {xs : List V} {ys : List Str} {Q : VK} {j : Nat} {z : Int} (hP : Pot p c ns H) (h0 : σ[0]? = some (some (.ref p))) (hj : σ[j]? = some (some (.ref s))) (hs : H s = some (.tup xs)) (ha : atI xs z = some (.ref ad)) (hy : H ad = some (.tup (ys.map V.str))) (y0 : ys ≠ []) (y1 : ys.length ≤ 1000)
    (k : ∀ x H', x ∈ ys → Keep p H H' → Pot p c ns H' → Q (.str x) H') : tOp (rIxT K) (tOp (rIxT K) (tVar j) (tC (.int z))) (tCall spPick [] E0 (tCons (tVar 0) (tCons (tCB (rLenS K) (tCons (tOp (rIxT K) (tVar j) (tC (.int z))) tNil)) tNil))) σ H Q := by
  have hl : 0 < ys.length := by
    cases ys with
    | nil => exact absurd rfl y0
    | cons _ _ => exact Nat.succ_pos _
  refine ⟨_, hj, s, xs, z, _, rfl, rfl, st_of hs, ha, _, h0, _, hj, s, xs, z, _, rfl, rfl, st_of hs, ha, ad, _, rfl, .inr (st_of hy), p, c, ns, _, rfl, ?_, ?_, hP, fun v H' hv kp hP' => ?_⟩
  · rw [List.length_map]
    omega
  · rw [List.length_map]
    omega
  · rw [List.length_map] at hv
    have hv' : v < ys.length := by omega
    refine ⟨ad, _, _, .str ys[v], rfl, rfl, st_of (kp _ _ (hP.ne_tup hy) hy), atI_nat ?_, k _ H' (List.getElem_mem hv') kp hP'⟩
    rw [List.getElem?_map, List.getElem?_eq_getElem hv']
    rfl
theorem app_rd {K : PySem.W.Frag} {p c s l ad : Addr} {ns : List Int} {H : Hp} {σ : L2.St} {xs : List V} {ys ws : List Str} {D : Ends} {z : Int} (hP : Pot p c ns H) (h0 : σ[0]? = some (some (.ref p))) (h1 : σ[1]? = some (some (.ref s))) (h3 : σ[3]? = some (some (.ref l))) (hs : H s = some (.tup xs)) (ha : atI xs z = some (.ref ad)) (hy : H ad = some (.tup (ys.map V.str))) (y0 : ys ≠ []) (y1 : ys.length ≤ 1000) (hl : H l = some (lS ws)) (hlp : l ≠ p) (hz : ws.length < 100000)
    (k : ∀ x H', x ∈ ys → Keep p H H' → Pot p c ns H' → D.nx σ (upd H' l (.lst (ws.map V.str ++ [.str x])))) : tDrop (tBM K "list" rAppend (tVar 3) (tCons (tOp (rIxT K) (tOp (rIxT K) (tVar 1) (tC (.int z))) (tCall spPick [] E0 (tCons (tVar 0) (tCons (tCB (rLenS K) (tCons (tOp (rIxT K) (tVar 1) (tC (.int z))) tNil)) tNil)))) tNil)) D σ H :=
  ⟨_, h3, .inl ⟨rfl, _, sq_of hl⟩, draw_rd hP h0 h1 hs ha hy y0 y1 fun x H6 hx kp6 hP6 => ⟨l, _, _, rfl, rfl, kp6 _ _ hlp hl, by rw [List.length_map]; exact sz_lt hz, k x H6 hx kp6 hP6⟩⟩
/-- how many opens wait behind letters; none where a close is bare -/
def bal (os qs : List Str) : List Str → Nat → Option Nat
  | [], n => some n
  | x :: r, n => match kdOf os qs x with
    | .op => bal os qs r (n + 1)
    | .pl => bal os qs r n
    | .cl => match n with
      | 0 => none
      | m + 1 => bal os qs r m
theorem bal_app (os qs : List Str) : ∀ (a b : List Str) (n : Nat), bal os qs (a ++ b) n = (bal os qs a n).bind (bal os qs b)
  | [], b, n => rfl
  | x :: r, b, n => by
    show bal os qs (x :: (r ++ b)) n = (bal os qs (x :: r) n).bind (bal os qs b)
    unfold bal
    cases kdOf os qs x with
    | op => exact bal_app os qs r b (n + 1)
    | pl => exact bal_app os qs r b n
    | cl =>
      cases n with
      | zero => rfl
      | succ m => exact bal_app os qs r b m
theorem bal_one_op {os qs : List Str} {x : Str} (h : x ∈ os) (n : Nat) : bal os qs [x] n = some (n + 1) := by
  unfold bal
  rw [kd_op.mpr h]
  rfl
theorem bal_one_cl {os ps qs : List Str} (hS : Sht os ps qs) {x : Str} (h : x ∈ qs) (n : Nat) : bal os qs [x] (n + 1) = some n := by
  unfold bal
  rw [(kd_cl hS).mpr h]
  rfl
theorem Sht.plain {os ps qs : List Str} (hS : Sht os ps qs) {x : Str} (h : x ∈ ps) : kdOf os qs x = .pl := by
  have h1 := List.nodup_append.mp hS.nd
  have h2 := List.nodup_append.mp h1.1
  unfold kdOf
  rw [if_neg (fun z => h2.2.2 x z x h rfl), if_neg (fun z => h1.2.2 x (List.mem_append.mpr (.inr h)) x z rfl)]
theorem bal_one_pl {os ps qs : List Str} (hS : Sht os ps qs) {x : Str} (h : x ∈ ps) (n : Nat) : bal os qs [x] n = some n := by
  unfold bal
  rw [hS.plain h]
  rfl
abbrev nShut : List Str := ["pot", "sheet", "most", "word", "waiting", "turn", "way"]
theorem scShut : FnScope nShut ["pot", "sheet", "most"] (defScope sShut) := ⟨rfl, rfl, rfl, by decide +kernel, rfl, by decide +kernel, by decide +kernel⟩
theorem lS_add (ws : List Str) (x : Str) : HO.lst (ws.map V.str ++ [.str x]) = lS (ws ++ [x]) := by
  unfold lS
  rw [List.map_append]
  rfl
theorem Keep.fresh {p q : Addr} {H H' : Hp} (k : Keep p H H') (hq : q ≠ p) (h : H' q = none) : H q = none := by
  cases e : H q with
  | none => rfl
  | some o =>
    rw [k q o hq e] at h
    cases h
section
variable {P : Program} {w : World} {K : PySem.W.Frag} {mg : Str → Option Value} {base : Heap}
def spShut : Sp := fun vs H Q _ => ∃ (p c s : Addr) (ns : List Int) (os ps qs : List Str) (m : Nat), vs = [.ref p, .ref s, .int (m : Int)] ∧ m ≤ 1000 ∧ Pot p c ns H ∧ Sht os ps qs ∧ SheetAt H s os ps qs ∧
  ∀ (ws : List Str) l H', (∀ x ∈ ws, x ∈ os ++ ps ++ qs) → ws.length ≤ 2 * m → bal os qs ws 0 = some 0 → Keep p H H' → Pot p c ns H' → H l = none → H' l = some (lS ws) → Q (.ref l) H'
theorem ok_shut {f fP : Addr} {fd fdP : FuncData} {k : Nat} (F : Fun K "_law_shut" "_law_shut" sShut f fd) (FP : Fun K "_law_pick" "_law_pick" sPick fP fdP) (GP : FnOk P w K mg base CX0 (k + 1) fP fdP ["pot", "many"] spPick) (bP : Binds K fdP ["pot", "many"] []) (gP : mg "_law_pick" = some (.ref fP)) (ml : mg "len" = none) (mr : mg "range" = none) :
    FnOk P w K mg base CX0 (k + 2) f fd ["pot", "sheet", "most"] spShut := by
  have nd := scShut.nd
  refine F.ok scShut (fun vs H Q E h => ?_) (fun cdv A outer s H vs Q E hr h => ?_)
  · obtain ⟨p, c, s, ns, os, ps, qs, m, rfl, _⟩ := h
    rfl
  · obtain ⟨p, c, s, ns, os, ps, qs, m, rfl, m1, hP, hS, hs, q⟩ := h
    refine ⟨_, pss_cons (ps_set (i := 3) nd rfl (.inl rfl) (pe_lst pa_nil))
      (pss_cons (ps_set (i := 4) nd rfl (.inl rfl) pe_int)
      (pss_cons (ps_for PassesOwn.never rfl (pi_range1 (by rfl) mr (pa_cons (pe_call GP hr (by rfl) gP FP.kp bP .nil pass0 (pa_cons (pv 0) (pa_cons (pe_op op_add (pv 2) pe_int) pa_nil))) pa_nil)) (pg_name (i := 5) nd rfl (.inl rfl))
        (pss_cons (ps_set (i := 6) nd rfl (.inl rfl) (pe_call GP hr (by rfl) gP FP.kp bP .nil pass0 (pa_cons (pv 0) (pa_cons pe_int pa_nil))))
        (pss_one (ps_if (PW.pt (pw_or (pt_cmpR op_lt (pv 6) pe_int (nomark _)) (pw_or1 (PW.pt (pw_and (pt_cmpR (op_eqD hr.units) (pe_ix ix_tup (pv 1) pe_int (fun _ _ => rfl)) (pe_tup pa_nil) (nomark _)) (pw_and1 (pt_cmpR op_eq (pv 4) pe_int (nomark _))))))))
          (pss_cons (ps_expr (pe_bm PySem.F.plainAttrs_list PySem.F.slot_list_append PySem.F.type_list_append mt_append (pv 3) (pa_cons (pe_ix ix_tup (pe_ix ix_tup (pv 1) pe_int (fun _ _ => rfl)) (pe_call GP hr (by rfl) gP FP.kp bP .nil pass0 (pa_cons (pv 0) (pa_cons (pe_callB call_len_seq (by rfl) ml PySem.boot_len (pa_cons (pe_ix ix_tup (pv 1) pe_int (fun _ _ => rfl)) pa_nil)) pa_nil))) (fun _ _ => rfl)) pa_nil)))
          (pss_one (ps_set (i := 4) nd rfl (.inl rfl) (pe_op op_add (pv 4) pe_int))))
          (pss_one (ps_if (PW.pt (pw_or (PW.pt (pw_and (pt_cmpR op_eq (pv 6) pe_int (nomark _)) (pw_and1 (pt_cmpR (op_neD hr.units) (pe_ix ix_tup (pv 1) pe_int (fun _ _ => rfl)) (pe_tup pa_nil) (nomark _))))) (pw_or1 (pt_cmpR op_eq (pv 4) pe_int (nomark _)))))
            (pss_one (ps_expr (pe_bm PySem.F.plainAttrs_list PySem.F.slot_list_append PySem.F.type_list_append mt_append (pv 3) (pa_cons (pe_ix ix_tup (pe_ix ix_tup (pv 1) pe_int (fun _ _ => rfl)) (pe_call GP hr (by rfl) gP FP.kp bP .nil pass0 (pa_cons (pv 0) (pa_cons (pe_callB call_len_seq (by rfl) ml PySem.boot_len (pa_cons (pe_ix ix_tup (pv 1) pe_int (fun _ _ => rfl)) pa_nil)) pa_nil))) (fun _ _ => rfl)) pa_nil))))
            (pss_cons (ps_expr (pe_bm PySem.F.plainAttrs_list PySem.F.slot_list_append PySem.F.type_list_append mt_append (pv 3) (pa_cons (pe_ix ix_tup (pe_ix ix_tup (pv 1) pe_int (fun _ _ => rfl)) (pe_call GP hr (by rfl) gP FP.kp bP .nil pass0 (pa_cons (pv 0) (pa_cons (pe_callB call_len_seq (by rfl) ml PySem.boot_len (pa_cons (pe_ix ix_tup (pv 1) pe_int (fun _ _ => rfl)) pa_nil)) pa_nil))) (fun _ _ => rfl)) pa_nil)))
            (pss_one (ps_set (i := 4) nd rfl (.inl rfl) (pe_op op_sub (pv 4) pe_int))))))))))
      (pss_one (ps_ret (pe_op op_cat (pv 3) (pe_lc (own := [("turn", 5)]) (g := gName 5) (tt := tYes) (te := tOp (rIxT K) (tOp (rIxT K) (tVar 1) (tC (.int 2))) (tCall spPick [] E0 (tCons (tVar 0) (tCons (tCB (rLenS K) (tCons (tOp (rIxT K) (tVar 1) (tC (.int 2))) tNil)) tNil)))) rfl nd (pi_range1 (by rfl) mr (pa_cons (pv 4) pa_nil)) (blkOk_by (own := [("turn", 5)]) (N := nShut) (sc := defScope sShut) (by decide +kernel)) (fun _ _ _ _ _ => pg_name (i := 5) nd rfl (Or.inl rfl)) (fun _ _ _ _ _ => pts_nil)
        (fun _ _ _ _ _ => pe_ix ix_tup (pe_ix ix_tup (pv 1) pe_int (fun _ _ => rfl)) (pe_call GP hr (by rfl) gP FP.kp bP .nil pass0 (pa_cons (pv 0) (pa_cons (pe_callB call_len_seq (by rfl) ml PySem.boot_len (pa_cons (pe_ix ix_tup (pv 1) pe_int (fun _ _ => rfl)) pa_nil)) pa_nil))) (fun _ _ => rfl)))))))), ?_⟩
    refine ⟨Nat.zero_le _, fun l nl => ?_⟩
    have e1 : Ex H (upd H l (lS [])) := Ex.new nl
    have hpl := hP.ne_new nl
    refine ⟨_, rfl, _, rfl, _, _, rfl, rfl, p, c, ns, _, rfl, by omega, by omega, hP.ex e1, fun n H2 hn kp2 hP2 => ?_⟩
    have kH2 : Keep p H H2 := (Keep.ofEx e1).trans kp2
    refine ⟨_, rfl, by omega, by omega, for_range (lo := 0) (n := ((n : Int)).toNat) (fun i σ H' => ∃ (wt : Nat) (ws : List Str), (∃ y5 y6, σ = [some (.ref p), some (.ref s), some (.int (m : Int)), some (.ref l), some (nV wt), y5, y6]) ∧ wt ≤ i ∧ ws.length = i ∧ (∀ x ∈ ws, x ∈ os ++ ps ++ qs) ∧ bal os qs ws 0 = some wt ∧ Keep p H H' ∧ Pot p c ns H' ∧ H' l = some (lS ws)) ?_ ?_ ?_⟩
    · exact ⟨0, [], ⟨_, _, rfl⟩, Nat.le_refl _, rfl, fun x hx => (List.not_mem_nil hx).elim, rfl, kH2, hP2, kp2 _ _ hpl.1.symm upd_same⟩
    · rintro i σ H3 hi ⟨wt, ws, ⟨y5, y6, rfl⟩, hwt, hwl, hwm, hb, kp3, hP3, hl3⟩
      have hi' : i < 1001 := by omega
      refine ⟨_, rfl, p, c, ns, 5, rfl, by decide, by decide, hP3, fun way H4 hway kp4 hP4 => ?_⟩
      have kp04 := kp3.trans kp4
      have hl4 : H4 l = some (lS ws) := kp4 _ _ hpl.1.symm hl3
      obtain ⟨ao, ap, ac, g0, g1, g2, g3⟩ := (hs.keep hP kp3).keep hP3 kp4
      have hps : ∀ x ∈ ps, ∀ d ∈ cs x, az d := fun x hx => (hS.lt x (List.mem_append.mpr (.inl (List.mem_append.mpr (.inr hx))))).1
      -- what each way adds
      have fin : ∀ (z : Str) (wt' : Nat) (H5 : Hp), z ∈ os ++ ps ++ qs → bal os qs [z] wt = some wt' → wt' ≤ i + 1 → Keep p H4 H5 → Pot p c ns H5 → ∀ y5 y6, ∃ (wt2 : Nat) (ws2 : List Str), (∃ y5' y6', [some (V.ref p), some (.ref s), some (.int (m : Int)), some (.ref l), some (nV wt'), y5, y6] = [some (.ref p), some (.ref s), some (.int (m : Int)), some (.ref l), some (nV wt2), y5', y6']) ∧ wt2 ≤ i + 1 ∧ ws2.length = i + 1 ∧ (∀ x ∈ ws2, x ∈ os ++ ps ++ qs) ∧ bal os qs ws2 0 = some wt2 ∧ Keep p H (upd H5 l (.lst (ws.map V.str ++ [.str z]))) ∧ Pot p c ns (upd H5 l (.lst (ws.map V.str ++ [.str z]))) ∧ (upd H5 l (.lst (ws.map V.str ++ [.str z]))) l = some (lS ws2) := by
        intro z wt' H5 hz hbz hw' kp5 hP5 y5 y6
        refine ⟨wt', ws ++ [z], ⟨_, _, rfl⟩, hw', by rw [List.length_append, hwl]; rfl, fun x hx => ?_, ?_, (kp04.trans kp5).new nl, hP5.new hpl.1 hpl.2, ?_⟩
        · rcases List.mem_append.mp hx with a | a
          · exact hwm x a
          · rw [List.mem_singleton.mp a]
            exact hz
        · rw [bal_app, hb]
          exact hbz
        · rw [upd_same, lS_add]
      have wsz : ws.length < 100000 := by omega
      have o0 : os ≠ [] := fun z => by have := hS.o1; rw [z] at this; exact absurd this (by decide)
      have c0 : qs ≠ [] := fun z => by have := hS.c1; rw [z] at this; exact absurd this (by decide)
      have o4 := hS.o4
      have p4 := hS.p4
      have c4 := hS.c4
      have mo : ∀ x, x ∈ os → x ∈ os ++ ps ++ qs := fun x hx => List.mem_append.mpr (.inl (List.mem_append.mpr (.inl hx)))
      have mp : ∀ x, x ∈ ps → x ∈ os ++ ps ++ qs := fun x hx => List.mem_append.mpr (.inl (List.mem_append.mpr (.inr hx)))
      have mc : ∀ x, x ∈ qs → x ∈ os ++ ps ++ qs := fun x hx => List.mem_append.mpr (.inr hx)
      have tst : ∀ (H5 : Hp), Ex H4 H5 → ∀ (σ' : L2.St), σ'[1]? = some (some (.ref s)) → Ev (tOp (rEqD K) (tOp (rIxT K) (tVar 1) (tC (.int 1))) (tTup tNil)) σ' H5 (.bl (decide (ps = []))) ∧ Ev (tOp (rNeD K) (tOp (rIxT K) (tVar 1) (tC (.int 1))) (tTup tNil)) σ' H5 (.bl (!decide (ps = []))) := fun H5 e5 σ' h1 => by
        constructor
        · refine ev_opU (ev_op (ev_var h1) ev_c (rv_ixT (st_of (e5 _ _ g0)) (show atI [V.ref ao, .ref ap, .ref ac] 1 = some (.ref ap) from rfl))) (eu_tup ea_nil (by decide)) fun u H6 hu e6 => ?_
          refine fun H7 e7 Q qq => ⟨.tuple (ps.map PyData.str), .tuple [], .tup (st_of (e7 _ _ (e6 _ _ (e5 _ _ g2)))) (dpStrs ps), .tup (st_of (e7 _ _ hu)) .nil, shapedT hps, shapedT0, ?_⟩
          rw [eqv_nilT]
          exact qq H7 (Ex.refl _)
        · refine ev_opU (ev_op (ev_var h1) ev_c (rv_ixT (st_of (e5 _ _ g0)) (show atI [V.ref ao, .ref ap, .ref ac] 1 = some (.ref ap) from rfl))) (eu_tup ea_nil (by decide)) fun u H6 hu e6 => ?_
          refine fun H7 e7 Q qq => ⟨.tuple (ps.map PyData.str), .tuple [], .tup (st_of (e7 _ _ (e6 _ _ (e5 _ _ g2)))) (dpStrs ps), .tup (st_of (e7 _ _ hu)) .nil, shapedT hps, shapedT0, ?_⟩
          rw [eqv_nilT]
          exact qq H7 (Ex.refl _)
      have wz : decide (nV wt = .int 0) = decide (wt = 0) := by
        by_cases z : wt = 0
        · subst z
          rfl
        · rw [decide_eq_false z, decide_eq_false (fun e => z (by have := V.int.inj e; omega))]
      refine s_if (b := decide ((way : Int) < 2) || (decide (ps = []) && decide (nV wt = .int 0))) (et_or (et_test (ev_op (ev_var rfl) ev_c rv_I0)) (fun _ => et_and (et_test (tst H4 (Ex.refl _) _ rfl).1) (fun _ => et_test (ev_op (ev_var rfl) ev_c (rv_eq rfl))))) (fun hb1 H5 e5 => ?_) (fun hb1 H5 e5 => ?_)
      · refine app_rd (hP4.ex e5) rfl rfl rfl (e5 _ _ g0) (show atI [V.ref ao, .ref ap, .ref ac] 0 = some (.ref ao) from rfl) (e5 _ _ g1) o0 (by omega) (e5 _ _ hl4) hpl.1.symm wsz fun x H6 hx kp6 hP6 => ?_
        exact ⟨_, rfl, _, _, rfl, rfl, fin x (wt + 1) H6 (mo x hx) (bal_one_op hx _) (by omega) ((Keep.ofEx e5).trans kp6) hP6 _ _⟩
      · rw [wz, Bool.or_eq_false_iff, Bool.and_eq_false_iff] at hb1
        refine s_if (b := (decide (V.int (way : Int) = .int 2) && !decide (ps = [])) || decide (nV wt = .int 0)) (et_or (et_and (et_test (ev_op (ev_var rfl) ev_c (rv_eq rfl))) (fun _ => et_test (tst H5 e5 _ rfl).2)) (fun _ => et_test (ev_op (ev_var rfl) ev_c (rv_eq rfl)))) (fun hb2 H6 e6 => ?_) (fun hb2 H6 e6 => ?_)
        · have p0 : ps ≠ [] := fun z => by
            rw [wz, Bool.or_eq_true, Bool.and_eq_true] at hb2
            rcases hb2 with ⟨_, h2⟩ | h2
            · rw [decide_eq_true z] at h2
              exact absurd h2 (by decide)
            · rcases hb1.2 with h3 | h3
              · rw [decide_eq_true z] at h3
                exact absurd h3 (by decide)
              · rw [h2] at h3
                cases h3
          have e56 := e5.trans e6
          exact app_rd (hP4.ex e56) rfl rfl rfl (e56 _ _ g0) (show atI [V.ref ao, .ref ap, .ref ac] 1 = some (.ref ap) from rfl) (e56 _ _ g2) p0 (by omega) (e56 _ _ hl4) hpl.1.symm wsz fun x H7 hx kp7 hP7 => fin x wt H7 (mp x hx) (bal_one_pl hS hx _) (by omega) ((Keep.ofEx e56).trans kp7) hP7 _ _
        · rw [wz, Bool.or_eq_false_iff] at hb2
          have w0 : wt ≠ 0 := of_decide_eq_false hb2.2
          obtain ⟨w', rfl⟩ : ∃ w', wt = w' + 1 := ⟨wt - 1, by omega⟩
          have e56 := e5.trans e6
          refine app_rd (hP4.ex e56) rfl rfl rfl (e56 _ _ g0) (show atI [V.ref ao, .ref ap, .ref ac] 2 = some (.ref ac) from rfl) (e56 _ _ g3) c0 (by omega) (e56 _ _ hl4) hpl.1.symm wsz fun x H7 hx kp7 hP7 => ?_
          have ew : ((w' + 1 : Nat) : Int) - 1 = (w' : Int) := by omega
          refine ⟨_, rfl, _, _, rfl, rfl, ?_⟩
          show ∃ (wt : Nat) (ws : List Str), (∃ y5 y6, [some (V.ref p), some (.ref s), some (.int (m : Int)), some (.ref l), some (.int (((w' + 1 : Nat) : Int) - 1)), _, _] = _) ∧ _
          rw [ew]
          exact fin x w' H7 (mc x hx) (bal_one_cl hS hx _) (by omega) ((Keep.ofEx e56).trans kp7) hP7 _ _
    · rintro σ H3 ⟨wt, ws, ⟨y5, y6, rfl⟩, hwt, hwl, hwm, hb, kp3, hP3, hl3⟩
      obtain ⟨ao, ap, ac, g0, g1, g2, g3⟩ := hs.keep hP kp3
      have c0 : qs ≠ [] := fun z => by have := hS.c1; rw [z] at this; exact absurd this (by decide)
      have c4 := hS.c4
      have hwn : wt ≤ n := by
        rw [Int.toNat_natCast] at hwt
        exact hwt
      have hln : ws.length = n := by
        rw [Int.toNat_natCast] at hwl
        exact hwl
      refine ⟨_, rfl, _, rfl, (wt : Int), rfl, by omega, by omega, fun D nD => ?_⟩
      have hpD := hP3.ne_new nD
      have nDH : H D = none := kp3.fresh hpD.1.symm nD
      have nlD : l ≠ D := ne_of_none hl3 nD
      refine lc_range (lo := 0) (n := ((wt : Int)).toNat) (fun i H' => ∃ ds : List Str, ds.length = i ∧ (∀ d ∈ ds, d ∈ qs) ∧ H' D = some (lS ds) ∧ Keep p H3 H' ∧ Pot p c ns H') ?_ ?_ ?_
      · exact ⟨[], rfl, fun d hd => (List.not_mem_nil hd).elim, upd_same, (Keep.refl p H3).new nD, hP3.new hpD.1 hpD.2⟩
      · rintro i H' hi ⟨ds, hds, hdm, hD, kp, hP'⟩
        refine ⟨rfl, yesT (draw_rd hP' rfl rfl (kp _ _ (hP3.ne_tup g0) g0) (show atI [V.ref ao, .ref ap, .ref ac] 2 = some (.ref ac) from rfl) (kp _ _ (hP3.ne_tup g3) g3) c0 (by omega) fun x H2' hx kp2' hP2' => ?_)⟩
        refine ⟨_, kp2' _ _ hpD.1.symm hD, ?_, ds ++ [x], ?_, ?_, ?_, (kp.trans kp2').new nD, hP2'.new hpD.1 hpD.2⟩
        · rw [List.length_map]
          exact sz_lt (by omega)
        · rw [List.length_append, hds]
          rfl
        · intro d hd
          rcases List.mem_append.mp hd with a | a
          · exact hdm d a
          · rw [List.mem_singleton.mp a]
            exact hx
        · rw [upd_same, lS_add]
      · rintro H5 ⟨ds, hds, hdm, hD, kp5, hP5⟩
        rw [Int.toNat_natCast] at hds
        have hl5 : H5 l = some (lS ws) := kp5 _ _ hpl.1.symm hl3
        refine ⟨l, D, _, _, rfl, rfl, hl5, hD, ?_, fun r nr => ?_⟩
        · rw [List.length_map, List.length_map]
          exact sz_of (by omega)
        · have kp05 := kp3.trans kp5
          have hpr := hP5.ne_new nr
          refine q (ws ++ ds) r _ (fun x hx => ?_) ?_ ?_ (kp05.new (kp05.fresh hpr.1.symm nr)) (hP5.new hpr.1 hpr.2) (kp05.fresh hpr.1.symm nr) ?_
          · rcases List.mem_append.mp hx with a | a
            · exact hwm x a
            · exact List.mem_append.mpr (.inr (hdm x a))
          · rw [List.length_append]
            omega
          · rw [bal_app, hb]
            show bal os qs ds wt = some 0
            rw [← hds]
            clear hD hds hpD nDH nlD kp5 hP5 hl5 kp05 nr hpr
            induction ds with
            | nil => rfl
            | cons d r ih =>
              have h1 := bal_app os qs [d] r (d :: r).length
              rw [List.singleton_append, List.length_cons, bal_one_cl hS (hdm d (List.mem_cons_self ..))] at h1
              rw [List.length_cons, h1]
              exact ih fun x hx => hdm x (List.mem_cons_of_mem _ hx)
          · rw [upd_same, ← List.map_append]
end
end Eh
set_option Elab.async false
set_option linter.all false
set_option maxRecDepth 100000
set_option maxHeartbeats 4000000
namespace Eh
open PySem PySem.Spec PyProof.Rows L2 Evl
theorem draw_ord {K : PySem.W.Frag} {p c r : Addr} {ns : List Int} {H : Hp} {σ : L2.St} {ys : List Str} {Q : VK} {j : Nat} (hP : Pot p c ns H) (h0 : σ[0]? = some (some (.ref p))) (hj : σ[j]? = some (some (.ref r))) (hy : H r = some (lS ys)) (y0 : ys ≠ []) (y1 : ys.length ≤ 1000)
    (k : ∀ x H', x ∈ ys → Keep p H H' → Pot p c ns H' → Q (.str x) H') : tOp (rIxL K) (tVar j) (tCall spPick [] E0 (tCons (tVar 0) (tCons (tCB (rLenS K) (tCons (tVar j) tNil)) tNil))) σ H Q := by
  have hl : 0 < ys.length := by
    cases ys with
    | nil => exact absurd rfl y0
    | cons _ _ => exact Nat.succ_pos _
  refine ⟨_, hj, _, h0, _, hj, r, _, rfl, .inl (sq_of hy), p, c, ns, _, rfl, ?_, ?_, hP, fun v H' hv kp hP' => ?_⟩
  · rw [List.length_map]
    omega
  · rw [List.length_map]
    omega
  · rw [List.length_map] at hv
    have hv' : v < ys.length := by omega
    refine ⟨r, _, _, .str ys[v], rfl, rfl, sq_of (kp _ _ (lS_ne hP hy) hy), atI_nat ?_, k _ H' (List.getElem_mem hv') kp hP'⟩
    rw [List.getElem?_map, List.getElem?_eq_getElem hv']
    rfl
abbrev nWord : List Str := ["pot", "sheet", "order", "way", "word", "turn", "at", "k"]
theorem scWord : FnScope nWord ["pot", "sheet"] (defScope sWord) := ⟨rfl, rfl, rfl, by decide +kernel, rfl, by decide +kernel, by decide +kernel⟩
section
variable {P : Program} {w : World} {K : PySem.W.Frag} {mg : Str → Option Value} {base : Heap}
def spWord : Sp := fun vs H Q _ => ∃ (p c s : Addr) (ns : List Int) (os ps qs : List Str), vs = [.ref p, .ref s] ∧ Pot p c ns H ∧ Sht os ps qs ∧ SheetAt H s os ps qs ∧
  ∀ (ws : List Str) l H', (∀ x ∈ ws, x ∈ os ++ ps ++ qs) → ws.length ≤ 1000 → Keep p H H' → Pot p c ns H' → H' l = some (lS ws) → Q (.ref l) H'
theorem ok_word {f fP fO fS : Addr} {fd fdP fdO fdS : FuncData} {k : Nat} (F : Fun K "_law_word" "_law_word" sWord f fd) (FP : Fun K "_law_pick" "_law_pick" sPick fP fdP) (GP : FnOk P w K mg base CX0 (k + 1) fP fdP ["pot", "many"] spPick) (bP : Binds K fdP ["pot", "many"] []) (gP : mg "_law_pick" = some (.ref fP))
    (FO : Fun K "_law_order" "_law_order" sOrder fO fdO) (GO : FnOk P w K mg base CX0 (k + 1) fO fdO ["sheet"] spOrder) (bO : Binds K fdO ["sheet"] []) (gO : mg "_law_order" = some (.ref fO))
    (FS : Fun K "_law_shut" "_law_shut" sShut fS fdS) (GS : FnOk P w K mg base CX0 (k + 2) fS fdS ["pot", "sheet", "most"] spShut) (bS : Binds K fdS ["pot", "sheet", "most"] []) (gS : mg "_law_shut" = some (.ref fS)) (ml : mg "len" = none) (mr : mg "range" = none) :
    FnOk P w K mg base CX0 (k + 3) f fd ["pot", "sheet"] spWord := by
  have nd := scWord.nd
  refine F.ok scWord (fun vs H Q E h => ?_) (fun cdv A outer s H vs Q E hr h => ?_)
  · obtain ⟨p, c, s, ns, os, ps, qs, rfl, _⟩ := h
    rfl
  · obtain ⟨p, c, s, ns, os, ps, qs, rfl, hP, hS, hs, q⟩ := h
    have hr1 : Room (k + 1) _ := hr.mono (Nat.le_succ _)
    have pick := fun {X : Cx} (e : Expr) => (0 : Nat)
    refine ⟨_, pss_cons (ps_set (i := 2) nd rfl (.inr rfl) (pe_call GO hr1 (by rfl) gO FO.kp bO .nil pass0 (pa_cons (pv 1) pa_nil)))
      (pss_cons (ps_set (i := 3) nd rfl (.inl rfl) (pe_call GP hr1 (by rfl) gP FP.kp bP .nil pass0 (pa_cons (pv 0) (pa_cons pe_int pa_nil))))
      (pss_cut (ps_if (PW.pt (pw_and (pt_cmpR op_eq (pv 3) pe_int (nomark _)) (pw_and1 (pt_cmpR op_eq (pe_call GP hr1 (by rfl) gP FP.kp bP .nil pass0 (pa_cons (pv 0) (pa_cons pe_int pa_nil))) pe_int (nomark _)))))
        (pss_one (ps_ret (pe_call GS hr (by rfl) gS FS.kp bS .nil pass0 (pa_cons (pv 0) (pa_cons (pv 1) (pa_cons pe_int pa_nil)))))) pss_nil)
      (pss_cons (ps_if (pt_cmpR op_eq (pv 3) pe_int (nomark _))
        (pss_one (ps_ret (pe_lc (own := [("k", 7)]) (g := gName 7) (tt := tYes) (te := tOp (rIxL K) (tVar 2) (tCall spPick [] E0 (tCons (tVar 0) (tCons (tCB (rLenS K) (tCons (tVar 2) tNil)) tNil)))) rfl nd (pi_range1 (by rfl) mr (pa_cons (pe_call GP hr1 (by rfl) gP FP.kp bP .nil pass0 (pa_cons (pv 0) (pa_cons pe_int pa_nil))) pa_nil)) (blkOk_by (own := [("k", 7)]) (N := nWord) (sc := defScope sWord) (by decide +kernel)) (fun _ _ _ _ _ => pg_name (i := 7) nd rfl (Or.inl rfl)) (fun _ _ _ _ _ => pts_nil)
          (fun _ _ _ _ _ => pe_ix ix_list (pv 2) (pe_call GP hr1 (by rfl) gP FP.kp bP .nil pass0 (pa_cons (pv 0) (pa_cons (pe_callB call_len_seq (by rfl) ml PySem.boot_len (pa_cons (pv 2) pa_nil)) pa_nil))) (fun _ _ => rfl))))) pss_nil)
      (pss_cons (ps_set (i := 4) nd rfl (.inl rfl) (pe_call GS hr (by rfl) gS FS.kp bS .nil pass0 (pa_cons (pv 0) (pa_cons (pv 1) (pa_cons pe_int pa_nil)))))
      (pss_cons (ps_if (pt_cmpR op_eq (pv 3) pe_int (nomark _)) (pss_one (ps_ret (pv 4))) pss_nil)
      (pss_cons (ps_for PassesOwn.never rfl (pi_range1 (by rfl) mr (pa_cons (pe_op op_sub (pv 3) pe_int) pa_nil)) (pg_name (i := 5) nd rfl (.inl rfl))
        (pss_cons (ps_set (i := 6) nd rfl (.inl rfl) (pe_call GP hr1 (by rfl) gP FP.kp bP .nil pass0 (pa_cons (pv 0) (pa_cons (pe_op op_add (pe_callB call_len_seq (by rfl) ml PySem.boot_len (pa_cons (pv 4) pa_nil)) pe_int) pa_nil))))
        (pss_one (ps_set (i := 4) nd rfl (.inl rfl) (pe_op op_cat (pe_op op_cat (pe_slice sl_list (pv 4) po_none (po_some (pv 6))) (pe_slice sl_list (pe_lst (pa_cons (pe_ix ix_list (pv 2) (pe_call GP hr1 (by rfl) gP FP.kp bP .nil pass0 (pa_cons (pv 0) (pa_cons (pe_callB call_len_seq (by rfl) ml PySem.boot_len (pa_cons (pv 2) pa_nil)) pa_nil))) (fun _ _ => rfl)) pa_nil)) po_none (po_some (pe_call GP hr1 (by rfl) gP FP.kp bP .nil pass0 (pa_cons (pv 0) (pa_cons pe_int pa_nil))))))
          (pe_slice sl_list (pv 4) (po_some (pe_op op_add (pv 6) (pe_call GP hr1 (by rfl) gP FP.kp bP .nil pass0 (pa_cons (pv 0) (pa_cons pe_int pa_nil))))) po_none))))))
      (pss_one (ps_ret (pv 4))))))))), ?_⟩
    refine ⟨_, rfl, s, os, ps, qs, rfl, hS, hs, fun r H1 e1 nr hr1' => ?_⟩
    have hP1 := hP.ex e1
    refine ⟨_, rfl, p, c, ns, 4, rfl, by decide, by decide, hP1, fun way H2 hway kp2 hP2 => ?_⟩
    have kp02 := (Keep.ofEx e1).trans kp2
    have hr2 : H2 r = some (lS (os ++ ps ++ qs)) := kp2 _ _ (lS_ne hP1 hr1') hr1'
    have y0 : os ++ ps ++ qs ≠ [] := fun z => by
      have h1 := hS.o1
      have := congrArg List.length z
      rw [List.length_append, List.length_append] at this
      simp only [List.length_nil] at this
      omega
    have y1 : (os ++ ps ++ qs).length ≤ 1000 := by
      rw [List.length_append, List.length_append]
      have := hS.o4
      have := hS.p4
      have := hS.c4
      omega
    refine ⟨fun σ' H' => σ' = [some (.ref p), some (.ref s), some (.ref r), some (.int (way : Int)), none, none, none, none] ∧ Keep p H H' ∧ Pot p c ns H' ∧ H' r = some (lS (os ++ ps ++ qs)), ?_, ?_⟩
    · refine ⟨_, rfl, rfl, _, rfl, ite2 (fun hb => ?_) (fun hb => ?_)⟩
      · refine ⟨_, rfl, p, c, ns, 12, rfl, by decide, by decide, hP2, fun v H3 hv kp3 hP3 => ⟨rfl, _, rfl, ite2 (fun hb2 => ?_) (fun hb2 => ?_)⟩⟩
        · have kp03 := kp02.trans kp3
          refine ⟨_, rfl, _, rfl, p, c, s, ns, os, ps, qs, 200, rfl, by decide, hP3, hS, hs.keep hP kp03, fun ws l H4 hwm hwl _ kp4 hP4 nl hl => ?_⟩
          exact q ws l H4 hwm (by omega) (kp03.trans kp4) hP4 hl
        · exact ⟨rfl, kp02.trans kp3, hP3, kp3 _ _ (lS_ne hP2 hr2) hr2⟩
      · exact iteF ⟨rfl, kp02, hP2, hr2⟩
    · rintro σ' H3 ⟨rfl, kp3, hP3, hr3⟩
      refine ⟨_, rfl, rfl, _, rfl, ite2 (fun hb => ?_) (fun hb => ?_)⟩
      · -- drawn freely
        refine ⟨_, rfl, p, c, ns, 61, rfl, by decide, by decide, hP3, fun n H4 hn kp4 hP4 => ⟨_, rfl, by omega, by omega, fun D nD => ?_⟩⟩
        have kp04 := kp3.trans kp4
        have hr4 : H4 r = some (lS (os ++ ps ++ qs)) := kp4 _ _ (lS_ne hP3 hr3) hr3
        have hpD := hP4.ne_new nD
        refine lc_range (lo := 0) (n := ((n : Int)).toNat) (fun i H' => ∃ ds : List Str, ds.length = i ∧ (∀ d ∈ ds, d ∈ os ++ ps ++ qs) ∧ H' D = some (lS ds) ∧ Keep p H4 H' ∧ Pot p c ns H') ?_ ?_ ?_
        · exact ⟨[], rfl, fun d hd => (List.not_mem_nil hd).elim, upd_same, (Keep.refl p H4).new nD, hP4.new hpD.1 hpD.2⟩
        · rintro i H' hi ⟨ds, hds, hdm, hD, kp, hP'⟩
          refine ⟨rfl, yesT (draw_ord hP' rfl rfl (kp _ _ (lS_ne hP4 hr4) hr4) y0 y1 fun x H2' hx kp2' hP2' => ?_)⟩
          refine ⟨_, kp2' _ _ hpD.1.symm hD, ?_, ds ++ [x], ?_, ?_, ?_, (kp.trans kp2').new nD, hP2'.new hpD.1 hpD.2⟩
          · rw [List.length_map]
            exact sz_lt (by omega)
          · rw [List.length_append, hds]
            rfl
          · intro d hd
            rcases List.mem_append.mp hd with a | a
            · exact hdm d a
            · rw [List.mem_singleton.mp a]
              exact hx
          · rw [upd_same, lS_add]
        · rintro H5 ⟨ds, hds, hdm, hD, kp5, hP5⟩
          rw [Int.toNat_natCast] at hds
          exact q ds D H5 hdm (by omega) (kp04.trans kp5) hP5 hD
      · refine ⟨_, rfl, _, rfl, p, c, s, ns, os, ps, qs, 30, rfl, by decide, hP3, hS, hs.keep hP kp3, fun ws l H4 hwm hwl _ kp4 hP4 nl hl => ?_⟩
        have kp04 := kp3.trans kp4
        have hr4 : H4 r = some (lS (os ++ ps ++ qs)) := kp4 _ _ (lS_ne hP3 hr3) hr3
        refine ⟨_, rfl, rfl, _, rfl, ite2 (fun hb2 => ?_) (fun hb2 => ?_)⟩
        · exact ⟨_, rfl, q ws l H4 hwm (by omega) kp04 hP4 hl⟩
        · have hw2 : 2 ≤ way := by
            have h0 : way ≠ 0 := fun z => hb (by rw [z]; rfl)
            have h1 : way ≠ 1 := fun z => hb2 (by rw [z]; rfl)
            omega
          refine ⟨_, rfl, _, _, rfl, rfl, _, rfl, by omega, by omega, for_range (lo := 0) (n := ((way : Int) - 1).toNat) (fun i σ H' => ∃ (vs : List Str) (l : Addr), (∃ y5 y6, σ = [some (.ref p), some (.ref s), some (.ref r), some (.int (way : Int)), some (.ref l), y5, y6, none]) ∧ vs.length ≤ 60 + i ∧ (∀ x ∈ vs, x ∈ os ++ ps ++ qs) ∧ Keep p H H' ∧ Pot p c ns H' ∧ H' r = some (lS (os ++ ps ++ qs)) ∧ H' l = some (lS vs)) ?_ ?_ ?_⟩
          · exact ⟨ws, l, ⟨_, _, rfl⟩, by omega, hwm, kp04, hP4, hr4, hl⟩
          · rintro i σ H5 hi ⟨vs, l5, ⟨y5, y6, rfl⟩, hvl, hvm, kp5, hP5, hr5, hl5⟩
            have hi3 : i < 3 := by omega
            refine ⟨_, rfl, _, rfl, l5, _, rfl, .inl (sq_of hl5), _, _, rfl, rfl, p, c, ns, _, rfl, by rw [List.length_map]; omega, by rw [List.length_map]; omega, hP5, fun at_ H6 hat kp6 hP6 => ?_⟩
            have hl6 : H6 l5 = some (lS vs) := kp6 _ _ (lS_ne hP5 hl5) hl5
            have hr6 := kp6 _ _ (lS_ne hP5 hr5) hr5
            -- word[:at]
            refine ⟨_, rfl, _, rfl, _, rfl, l5, _, rfl, sq_of hl6, fun a1 na1 => ?_⟩
            rw [map_cut0]
            have x7 : Ex H6 (upd H6 a1 (lS (vs.take at_))) := Ex.new na1
            have ha7 : (upd H6 a1 (lS (vs.take at_))) a1 = some (lS (vs.take at_)) := upd_same
            have hP7 := hP6.ex x7
            have hl7 := x7 _ _ hl6
            have hr7 := x7 _ _ hr6
            have kp7 : Keep p H (upd H6 a1 (lS (vs.take at_))) := (kp5.trans kp6).trans (Keep.ofEx x7)
            show tSl _ _ _ _ _ (upd H6 a1 (lS (vs.take at_))) _
            generalize upd H6 a1 (lS (vs.take at_)) = H7 at ha7 hP7 hl7 hr7 kp7 ⊢
            -- [order[..]][:..]
            refine draw_ord hP7 rfl rfl hr7 y0 y1 fun z H8 hz kp8 hP8 => ⟨(by show 1 ≤ sizeLine; decide), fun b1 nb1 => ?_⟩
            have x9 : Ex H8 (upd H8 b1 (.lst [.str z])) := Ex.new nb1
            refine ⟨_, rfl, p, c, ns, 2, rfl, by decide, by decide, hP8.ex x9, fun v1 H10 hv1 kp10 hP10 => ?_⟩
            have hb10 : H10 b1 = some (lS [z]) := kp10 _ _ (hP8.ne_new nb1).1.symm upd_same
            refine ⟨_, rfl, b1, _, rfl, sq_of hb10, fun b2 nb2 => ?_⟩
            rw [map_cut0]
            have x11 : Ex H10 (upd H10 b2 (lS ([z].take v1))) := Ex.new nb2
            have ha8 := kp8 _ _ (lS_ne hP7 ha7) ha7
            have ha10 := kp10 _ _ (lS_ne (hP8.ex x9) (x9 _ _ ha8)) (x9 _ _ ha8)
            have hl8 := kp8 _ _ (lS_ne hP7 hl7) hl7
            have hl10 := kp10 _ _ (lS_ne (hP8.ex x9) (x9 _ _ hl8)) (x9 _ _ hl8)
            have hr8 := kp8 _ _ (lS_ne hP7 hr7) hr7
            have hr10 := kp10 _ _ (lS_ne (hP8.ex x9) (x9 _ _ hr8)) (x9 _ _ hr8)
            have kp100 : Keep p H H10 := ((kp7.trans kp8).trans (Keep.ofEx x9)).trans kp10
            refine ⟨a1, b2, _, _, rfl, rfl, x11 _ _ ha10, upd_same, ?_, fun c1 nc1 => ?_⟩
            · rw [List.length_map, List.length_map, List.length_take, List.length_take]
              exact sz_of (by simp only [List.length_singleton]; omega)
            rw [← List.map_append]
            have x12 := x11.trans (Ex.new (o := lS (vs.take at_ ++ [z].take v1)) nc1)
            -- word[at + ..:]
            refine ⟨_, rfl, _, rfl, _, rfl, p, c, ns, 2, rfl, by decide, by decide, hP10.ex x12, fun v2 H13 hv2 kp13 hP13 => ?_⟩
            have hc13 := kp13 _ _ (lS_ne (hP10.ex x12) upd_same) (upd_same (a := c1))
            have hl13 := kp13 _ _ (lS_ne (hP10.ex x12) (x12 _ _ hl10)) (x12 _ _ hl10)
            have hr13 := kp13 _ _ (lS_ne (hP10.ex x12) (x12 _ _ hr10)) (x12 _ _ hr10)
            refine ⟨_, _, rfl, rfl, _, rfl, l5, _, rfl, sq_of hl13, fun d1 nd1 => ?_⟩
            rw [show (at_ : Int) + (v2 : Int) = ((at_ + v2 : Nat) : Int) from rfl, map_cutF]
            have x14 : Ex H13 (upd H13 d1 (lS (vs.drop (at_ + v2)))) := Ex.new nd1
            refine ⟨c1, d1, _, _, rfl, rfl, x14 _ _ hc13, upd_same, ?_, fun e1' ne1 => ?_⟩
            · rw [List.length_map, List.length_map, List.length_append, List.length_take, List.length_take, List.length_drop]
              exact sz_of (by simp only [List.length_singleton]; omega)
            rw [← List.map_append]
            have x15 := x14.trans (Ex.new (o := lS (vs.take at_ ++ [z].take v1 ++ vs.drop (at_ + v2))) ne1)
            refine ⟨vs.take at_ ++ [z].take v1 ++ vs.drop (at_ + v2), e1', ⟨_, _, rfl⟩, ?_, fun x hx => ?_, ((kp100.trans (Keep.ofEx x12)).trans kp13).trans (Keep.ofEx x15), hP13.ex x15, x15 _ _ hr13, upd_same⟩
            · rw [List.length_append, List.length_append, List.length_take, List.length_take, List.length_drop]
              simp only [List.length_singleton]
              omega
            · rcases List.mem_append.mp hx with a | a
              · rcases List.mem_append.mp a with a | a
                · exact hvm x (List.mem_of_mem_take a)
                · rw [List.mem_singleton.mp (List.mem_of_mem_take a)]
                  exact hz
              · exact hvm x (List.mem_of_mem_drop a)
          · rintro σ H5 ⟨vs, l5, ⟨y5, y6, rfl⟩, hvl, hvm, kp5, hP5, hr5, hl5⟩
            exact ⟨_, rfl, q vs l5 H5 hvm (by omega) kp5 hP5 hl5⟩
end
end Eh
set_option Elab.async false
set_option linter.all false
set_option maxRecDepth 100000
set_option maxHeartbeats 4000000
namespace Eh
open PySem PySem.Spec PyProof.Rows L2 Evl
abbrev rIsN : R2 := fun x y H Q => y = V.non ∧ Q (.bl (decide (x = .non))) H
abbrev rNotN : R2 := fun x y H Q => y = V.non ∧ Q (.bl (!decide (x = .non))) H
theorem rv_notN {x : V} {H : Hp} : RV rNotN x .non H (.bl (!decide (x = .non))) := fun H1 _ _ q => ⟨rfl, q H1 (Ex.refl H1)⟩
theorem et_yes {σ : L2.St} {H : Hp} : EvT tYes σ H true := fun H1 _ _ q => q H1 (Ex.refl H1)
theorem kd_rd {K : PySem.W.Frag} {os qs ws y : List Str} {s l ad : Addr} {xs : List V} {H : Hp} {σ : L2.St} {iz a : Nat} {z : Int} {kd : Kd} (hl : SqL K H l (ws.map V.str)) (hs : H s = some (.tup xs)) (hz : atI xs z = some (.ref ad)) (hy : H ad = some (.tup (y.map V.str))) (hkd : ∀ x, kdOf os qs x = kd ↔ x ∈ y) (h0 : σ[0]? = some (some (.ref s))) (h1 : σ[1]? = some (some (.ref l))) (hi : σ[iz]? = some (some (nV a))) (ha : a < ws.length) :
    EvT (tTest (tOp (rIn K false) (tOp (rIxL K) (tVar 1) (tVar iz)) (tOp (rIxT K) (tVar 0) (tC (.int z))))) σ H (decide (kfOf os qs ws a = kd)) := by
  have hwj : ws[a]? = some ws[a] := List.getElem?_eq_getElem ha
  refine et_is (et_test (ev_op (ev_op (ev_var h1) (ev_var hi) (rv_ixL hl (atI_nat (v := .str ws[a]) (by rw [List.getElem?_map, hwj]; rfl)))) (ev_op (ev_var h0) ev_c (rv_ixT (st_of hs) hz)) (rv_isT (st_of hy) rfl (flat_str y)))) ?_
  rw [inV_str, kfOf_at hwj]
  exact decide_eq_decide.mpr (hkd _).symm
theorem t_at {t : List (Option Nat)} {a : Nat} (ha : a < t.length) : atI (t.map oV) (a : Int) = some (oV (tv t a)) := by
  refine atI_nat ?_
  rw [List.getElem?_map, tv_get ha]
  rfl
theorem none_rd {K : PySem.W.Frag} {t : List (Option Nat)} {F : Addr} {H : Hp} {σ : L2.St} {f iz a : Nat} (hF : SqL K H F (t.map oV)) (h2 : σ[f]? = some (some (.ref F))) (hi : σ[iz]? = some (some (nV a))) (ha : a < t.length) : EvT (tTest (tOp rIsN (tOp (rIxL K) (tVar f) (tVar iz)) (tC .non))) σ H (decide (tv t a = none)) :=
  et_is (et_test (ev_op (ev_op (ev_var h2) (ev_var hi) (rv_ixL hF (t_at ha))) ev_c (rv_isN (K := K)))) (oV_non _)
theorem some_rd {K : PySem.W.Frag} {t : List (Option Nat)} {F : Addr} {H : Hp} {σ : L2.St} {f iz a : Nat} (hF : SqL K H F (t.map oV)) (h2 : σ[f]? = some (some (.ref F))) (hi : σ[iz]? = some (some (nV a))) (ha : a < t.length) : EvT (tTest (tOp rNotN (tOp (rIxL K) (tVar f) (tVar iz)) (tC .non))) σ H (!decide (tv t a = none)) :=
  et_is (et_test (ev_op (ev_op (ev_var h2) (ev_var hi) (rv_ixL hF (t_at ha))) ev_c rv_notN)) (by rw [oV_non])
abbrev nAns : List Str := ["sheet", "word", "found", "place", "at", "letter"]
theorem scAns : FnScope nAns ["sheet", "word"] (defScope sAns) := ⟨rfl, rfl, rfl, by decide +kernel, rfl, by decide +kernel, by decide +kernel⟩
theorem given_non (n : Nat) : given n (fun _ => true) (fun _ => V.non) = (List.replicate n (none : Option Nat)).map oV := by
  unfold given
  rw [List.filter_eq_self.mpr (fun _ _ => rfl), List.map_replicate]
  apply List.ext_getElem
  · rw [List.length_map, List.length_range, List.length_replicate]
  · intro i h1 h2
    rw [List.getElem_map, List.getElem_replicate]
    rfl
section
variable {P : Program} {w : World} {K : PySem.W.Frag} {mg : Str → Option Value} {base : Heap}
theorem ok_ans {f : Addr} {fd : FuncData} {k : Nat} (F : Fun K "_law_answers" "_law_answers" sAns f fd) (ml : mg "len" = none) (mr : mg "range" = none) : FnOk P w K mg base CX0 (k + 1) f fd ["sheet", "word"] (spAnswers K) := by
  have nd := scAns.nd
  refine F.ok scAns (fun vs H Q E h => ?_) (fun cdv A outer s H vs Q E hr h => ?_)
  · obtain ⟨s, l, os, ps, qs, ws, rfl, _⟩ := h
    rfl
  · obtain ⟨s, l, os, ps, qs, ws, rfl, hS, ⟨ao, ap, ac, g0, g1, g2, g3⟩, hl, hw, hlen, q⟩ := h
    refine ⟨_, pss_cons (ps_setLc (i := 2) (own := [("letter", 5)]) (g := gName 5) (tt := tYes) (te := tC .non) rfl nd rfl rfl (sw_true rfl rfl rfl (by decide +kernel)) (pi_list (pv 1)) (blkOk_by (own := [("letter", 5)]) (N := nAns) (sc := defScope sAns) (by decide +kernel)) (fun _ _ _ _ _ => pg_name (i := 5) nd rfl (Or.inl rfl)) (fun _ _ _ _ _ => pts_nil) (fun _ _ _ _ _ => pe_non))
      (pss_cons (ps_for PassesOwn.never rfl (pi_range1 (by rfl) mr (pa_cons (pe_callB call_len_seq (by rfl) ml PySem.boot_len (pa_cons (pv 1) pa_nil)) pa_nil)) (pg_name (i := 3) nd rfl (.inl rfl))
        (pss_one (ps_if (pt_cmpR op_in_seq (pe_ix ix_list (pv 1) (pv 3) (fun _ _ => rfl)) (pe_ix ix_tup (pv 0) pe_int (fun _ _ => rfl)) (by rfl))
          (pss_cons (ps_set (i := 4) nd rfl (.inl rfl) (pe_op op_sub (pv 3) pe_int))
          (pss_one (ps_while PassesOwn.never (PW.pt (pw_and (pt_cmpR op_ge (pv 4) pe_int (nomark _)) (pw_and1 (pt_cmpR op_isN (pe_ix ix_list (pv 2) (pv 3) (fun _ _ => rfl)) pe_non (nomark _)))))
            (pss_cons (ps_if (PW.pt (pw_and (pt_cmpR op_in_seq (pe_ix ix_list (pv 1) (pv 4) (fun _ _ => rfl)) (pe_ix ix_tup (pv 0) pe_int (fun _ _ => rfl)) (by rfl)) (pw_and1 (pt_cmpR op_notN (pe_ix ix_list (pv 2) (pv 4) (fun _ _ => rfl)) pe_non (nomark _)))))
              (pss_one (ps_set (i := 4) nd rfl (.inl rfl) (pe_ix ix_list (pv 2) (pv 4) (fun _ _ => rfl))))
              (pss_one (ps_if (PW.pt (pw_and (pt_cmpR op_in_seq (pe_ix ix_list (pv 1) (pv 4) (fun _ _ => rfl)) (pe_ix ix_tup (pv 0) pe_int (fun _ _ => rfl)) (by rfl)) (pw_and1 (pt_cmpR op_isN (pe_ix ix_list (pv 2) (pv 4) (fun _ _ => rfl)) pe_non (nomark _)))))
                (pss_cons (ps_asg (pv 3) (pg_sub (pv 2) (pv 4) set_list)) (pss_one (ps_asg (pv 4) (pg_sub (pv 2) (pv 3) set_list)))) pss_nil)))
            (pss_one (ps_set (i := 4) nd rfl (.inl rfl) (pe_op op_sub (pv 4) pe_int)))))))
          pss_nil)))
      (pss_one (ps_ret (pv 2)))), ?_⟩
    have n0 : (ws.map V.str).length = ws.length := List.length_map _
    refine q_asgL (el_lcL (fun _ => true) (fun _ => V.non) (ev_var rfl) hl (by rw [n0]; omega) (fun x => rfl) (fun i x H1 e1 hx => et_yes) (fun i x H1 e1 hx _ => ev_c)) fun T H1 nT e1 hT => ?_
    rw [n0, given_non] at hT
    generalize hkf : kfOf os qs ws = kf
    refine q_forR1 (ea_cons (ev_len (ev_var rfl) (ex_l e1 hl)) ea_nil) (by rw [n0]; omega) (fun i σ H' => (∃ y3 y4, σ = [some (.ref s), some (.ref l), some (.ref T), y3, y4, none]) ∧ Ex H H' ∧ H' T = some (tO (run kf ws.length i).1)) (fun H2 e2 => ⟨⟨_, _, rfl⟩, e1.trans e2, e2 _ _ hT⟩) ?_ ?_
    · rintro i σ H2 hi ⟨⟨y3, y4, rfl⟩, e2, hT2⟩
      rw [n0] at hi
      have hi' : i < ws.length := by omega
      have G := good_run kf ws.length i (by omega)
      have hrun : run kf ws.length (i + 1) = step kf i (run kf ws.length i) := rfl
      generalize run kf ws.length i = S at G hrun hT2
      obtain ⟨t, st⟩ := S
      replace G : Good kf ws.length i t st := G
      replace hT2 : H2 T = some (tO t) := hT2
      rw [hrun]
      have hcl : ∀ x, kdOf os qs x = .cl ↔ x ∈ qs := fun x => kd_cl hS
      have hop : ∀ x, kdOf os qs x = .op ↔ x ∈ os := fun x => kd_op
      have tl := G.len
      refine s_when (b := decide (kf i = .cl)) (by rw [← hkf]; exact kd_rd (ex_l e2 hl) (e2 _ _ g0) (show atI [V.ref ao, .ref ap, .ref ac] 2 = some (.ref ac) from rfl) (e2 _ _ g3) hcl rfl rfl rfl hi') (fun hb H3 e3 => ?_) (fun hb H3 e3 => ?_)
      · have hk : kf i = .cl := of_decide_eq_true hb
        have nTH : H T = none := nT
        -- behind the search what is found is as behind the step
        refine ⟨_, rfl, _, _, rfl, rfl, ?_⟩
        refine s_while (fun m σ' H' => (∃ z : Int, σ' = [some (.ref s), some (.ref l), some (.ref T), some (nV i), some (.int z), none] ∧ -1 ≤ z ∧ z < (i : Int) ∧ (∀ b ∈ st, (b : Int) ≤ z) ∧ m = (z + 1).toNat + 1 ∧ Ex H H' ∧ H' T = some (tO t)) ∨ (∃ z : Int, σ' = [some (.ref s), some (.ref l), some (.ref T), some (nV i), some (.int z), none] ∧ m = 0 ∧ Ex H H' ∧ H' T = some (tO (step kf i (t, st)).1) ∧ ∃ b, tv (step kf i (t, st)).1 i = some b)) (((i : Int) - 1 + 1).toNat + 1) (.inl ⟨(i : Int) - 1, rfl, by omega, by omega, fun b hb' => by have := (G.bd b hb').1; omega, rfl, e2.trans e3, e3 _ _ hT2⟩) ?_
        rintro m σ' H4 (⟨z, rfl, z1, z2, hz, hm, e4, hT4⟩ | ⟨z, rfl, hm, e4, hT4, b, hb'⟩)
        · -- still seeking
          have tvi : tv t i = none := G.hi i (Nat.le_refl _)
          refine ⟨decide (0 ≤ z), ?_, fun hb' H5 e5 => ?_, fun hb' H5 e5 => ?_⟩
          · refine et_is (et_and (et_test (ev_op (ev_var rfl) ev_c rv_I0)) (fun _ => none_rd (K := K) (a := i) (sq_of hT4) rfl rfl (by omega))) ?_
            rw [tvi]
            simp
          · have z0 : 0 ≤ z := of_decide_eq_true hb'
            obtain ⟨a, rfl⟩ : ∃ a : Nat, z = (a : Int) := ⟨z.toNat, by omega⟩
            have ha : a < i := by omega
            have hT5 := e5 _ _ hT4
            have e45 := e4.trans e5
            refine ⟨fun σ2 H6 => (∃ z' : Int, σ2 = [some (.ref s), some (.ref l), some (.ref T), some (nV i), some (.int z'), none] ∧ -1 ≤ z' ∧ z' < (a : Int) ∧ (∀ b ∈ st, (b : Int) ≤ z') ∧ Ex H H6 ∧ H6 T = some (tO t)) ∨ (∃ z' : Int, σ2 = [some (.ref s), some (.ref l), some (.ref T), some (nV i), some (.int z'), none] ∧ Ex H H6 ∧ H6 T = some (tO (step kf i (t, st)).1) ∧ ∃ b, tv (step kf i (t, st)).1 i = some b), ?_, ?_⟩
            · rintro σ2 H6 (⟨z', rfl, q1, q2, q3, q4, q5⟩ | ⟨z', rfl, q4, q5, q6⟩)
              · exact ⟨(z' + 1).toNat + 1, by omega, .inl ⟨z', rfl, q1, by omega, q3, rfl, q4, q5⟩⟩
              · exact ⟨0, by omega, .inr ⟨z', rfl, rfl, q4, q5, q6⟩⟩
            · refine q_if (b := decide (kf a = .cl) && !decide (tv t a = none)) (et_and (by rw [← hkf]; exact kd_rd (ex_l e45 hl) (e45 _ _ g0) (show atI [V.ref ao, .ref ap, .ref ac] 2 = some (.ref ac) from rfl) (e45 _ _ g3) hcl rfl rfl rfl (by omega)) (fun _ => some_rd (K := K) (a := a) (sq_of hT5) rfl rfl (by omega))) (fun h1 H6 e6 => ?_) (fun h1 H6 e6 => ?_)
              · -- over an answered close
                rw [Bool.and_eq_true] at h1
                have hka : kf a = .cl := of_decide_eq_true h1.1
                cases hta : tv t a with
                | none =>
                  rw [hta] at h1
                  exact absurd h1.2 (by decide)
                | some j =>
                  obtain ⟨p1, p2, p3, p4⟩ := G.pr a j hta
                  rcases p4 with ⟨c1, _⟩ | ⟨_, c2, c3, c4⟩
                  · rw [hka] at c1
                    cases c1
                  · refine ⟨_, rfl, _, rfl, T, _, _, nV j, rfl, rfl, sq_of (e6 _ _ hT5), by rw [show nV j = oV (tv t a) by rw [hta]; rfl]; exact t_at (by omega), _, rfl, _, _, rfl, rfl, ?_⟩
                    refine .inl ⟨(j : Int) - 1, rfl, by omega, by omega, fun b hb2 => ?_, e45.trans e6, e6 _ _ hT5⟩
                    have := hz b hb2
                    have := c4 b hb2
                    omega
              · refine s_if (b := decide (kf a = .op) && decide (tv t a = none)) (et_and (by rw [← hkf]; exact kd_rd (ex_l (e45.trans e6) hl) ((e45.trans e6) _ _ g0) (show atI [V.ref ao, .ref ap, .ref ac] 0 = some (.ref ao) from rfl) ((e45.trans e6) _ _ g1) hop rfl rfl rfl (by omega)) (fun _ => none_rd (K := K) (a := a) (sq_of (e6 _ _ hT5)) rfl rfl (by omega))) (fun h2 H7 e7 => ?_) (fun h2 H7 e7 => ?_)
                · -- the open that waits
                  rw [Bool.and_eq_true] at h2
                  have hka : kf a = .op := of_decide_eq_true h2.1
                  have hta : tv t a = none := of_decide_eq_true h2.2
                  have hm' := G.opn a ha hka hta
                  cases st with
                  | nil => exact (List.not_mem_nil hm').elim
                  | cons b r =>
                    have hba : b = a := by
                      obtain ⟨s1, s2⟩ := List.pairwise_cons.mp G.srt
                      have h3 := hz b (List.mem_cons_self ..)
                      rcases List.mem_cons.mp hm' with x | x
                      · exact x.symm
                      · have := s1 a x
                        omega
                    subst hba
                    have hst : step kf i (t, b :: r) = ((t.set b (some i)).set i (some b), r) := by
                      unfold step
                      rw [hk]
                    have hT7 := e7 _ _ (e6 _ _ hT5)
                    have e47 := (e45.trans e6).trans e7
                    refine ⟨_, rfl, _, rfl, _, rfl, T, _, _, b, rfl, rfl, hT7, ixN_nat (by rw [List.length_map]; omega), ?_⟩
                    refine ⟨_, rfl, _, rfl, _, rfl, T, _, _, i, rfl, rfl, upd_same, ixN_nat (by rw [List.length_set, List.length_map]; omega), _, rfl, _, _, rfl, rfl, ?_⟩
                    refine .inr ⟨(b : Int) - 1, rfl, (e47.mut nTH).mut nTH, ?_, ?_⟩
                    · rw [upd_same, hst]
                      show some (HO.lst (((t.map oV).set b (oV (some i))).set i (oV (some b)))) = some (tO ((t.set b (some i)).set i (some b)))
                      rw [← List.map_set, ← List.map_set]
                    · rw [hst]
                      refine ⟨b, ?_⟩
                      show tv ((t.set b (some i)).set i (some b)) i = some b
                      rw [tv_set (by rw [List.length_set]; omega), if_pos rfl]
                · -- neither
                  refine ⟨_, rfl, _, _, rfl, rfl, .inl ⟨(a : Int) - 1, rfl, by omega, by omega, fun b hb2 => ?_, (e45.trans e6).trans e7, e7 _ _ (e6 _ _ hT5)⟩⟩
                  have h3 := hz b hb2
                  have h4 : b ≠ a := fun x => by
                    subst x
                    obtain ⟨_, c2, c3⟩ := G.bd b hb2
                    rw [decide_eq_true c2, decide_eq_true c3] at h2
                    cases h2
                  omega
          · -- none waits
            have z0 : ¬ 0 ≤ z := of_decide_eq_false hb'
            have hst : st = [] := by
              cases st with
              | nil => rfl
              | cons b r =>
                have := hz b (List.mem_cons_self ..)
                omega
            refine ⟨⟨_, _, rfl⟩, e4.trans e5, ?_⟩
            rw [e5 _ _ hT4]
            unfold step
            rw [hk, hst]
        · -- found
          have hl2 : i < (step kf i (t, st)).1.length := by
            have := (good_run kf ws.length (i + 1) (by omega)).len
            rw [hrun] at this
            omega
          refine ⟨false, ?_, (fun hf => by cases hf), fun _ H5 e5 => ⟨⟨_, _, rfl⟩, e4.trans e5, e5 _ _ hT4⟩⟩
          refine et_is (et_and (et_test (ev_op (ev_var rfl) ev_c rv_I0)) (fun _ => none_rd (K := K) (a := i) (sq_of hT4) rfl rfl hl2)) ?_
          rw [hb', show decide ((some b : Option Nat) = none) = false from rfl, Bool.and_false]
      · refine ⟨⟨_, _, rfl⟩, e2.trans e3, ?_⟩
        rw [e3 _ _ hT2]
        unfold step
        cases hk : kf i with
        | pl => rfl
        | op => rfl
        | cl =>
          rw [decide_eq_true hk] at hb
          cases hb
    · rintro σ H2 ⟨⟨y3, y4, rfl⟩, e2, hT2⟩
      rw [n0, Int.toNat_natCast] at hT2
      refine ⟨_, rfl, q T H2 e2 nT ?_⟩
      unfold ansOf
      rw [hkf]
      exact hT2
end
end Eh
set_option Elab.async false
set_option linter.all false
set_option maxRecDepth 100000
set_option maxHeartbeats 4000000
namespace Eh
open PySem PySem.Spec PyProof.Rows L2 Evl
abbrev nDeep : List Str := ["opens", "told", "most", "place", "some", "at"]
theorem scDeep : FnScope nDeep ["opens", "told"] (defScope sDeep) := ⟨rfl, rfl, rfl, by decide +kernel, rfl, by decide +kernel, by decide +kernel⟩
abbrev nSame : List Str := ["found", "due", "one", "other"]
theorem scSame : FnScope nSame ["found", "due"] (defScope sSame) := ⟨rfl, rfl, rfl, by decide +kernel, rfl, by decide +kernel, by decide +kernel⟩
def opsOf (kf : Nat → Kd) (n : Nat) : List V := (List.range n).map fun i => .bl (decide (kf i = .op))
theorem ops_at {kf : Nat → Kd} {n a : Nat} (h : a < n) : atI (opsOf kf n) (a : Int) = some (.bl (decide (kf a = .op))) := by
  refine atI_nat ?_
  unfold opsOf
  rw [List.getElem?_map, List.getElem?_range h]
  rfl
def atom : V → Bool
  | .non => true
  | .bl _ => true
  | .int _ => true
  | _ => false
section
variable {P : Program} {w : World} {K : PySem.W.Frag} {mg : Str → Option Value} {base : Heap}
def spDeep (K : PySem.W.Frag) : Sp := fun vs H Q _ => ∃ (a b : Addr) (kf : Nat → Kd) (n : Nat), vs = [.ref a, .ref b] ∧ SqL K H a (opsOf kf n) ∧ SqL K H b ((run kf n n).1.map oV) ∧ n ≤ 10000 ∧ ∀ H', Ex H H' → Q (nV (dep kf n n)) H'
theorem ok_deep {f : Addr} {fd : FuncData} {k : Nat} (F : Fun K "_law_deep" "_law_deep" sDeep f fd) (ml : mg "len" = none) (mr : mg "range" = none) (mm : mg "max" = none) : FnOk P w K mg base CX0 (k + 1) f fd ["opens", "told"] (spDeep K) := by
  have nd := scDeep.nd
  refine F.ok scDeep (fun vs H Q E h => ?_) (fun cdv A outer s H vs Q E hr h => ?_)
  · obtain ⟨a, b, kf, n, rfl, _⟩ := h
    rfl
  · obtain ⟨a, b, kf, n, rfl, ha, hb, hn, q⟩ := h
    refine ⟨_, pss_cons (ps_set (i := 2) nd rfl (.inl rfl) pe_int)
      (pss_cons (ps_for PassesOwn.never rfl (pi_range1 (by rfl) mr (pa_cons (pe_callB call_len_seq (by rfl) ml PySem.boot_len (pa_cons (pv 1) pa_nil)) pa_nil)) (pg_name (i := 3) nd rfl (.inr rfl))
        (pss_cons (ps_setLc (i := 4) (own := [("at", 5)]) (g := gName 5) (tt := tAnd (tB (tOp (rIxL K) (tVar 0) (tVar 5))) (tOr (tTest (tOp rIsN (tOp (rIxL K) (tVar 1) (tVar 5)) (tC .non))) (tTest (tOp (rI0 fun i j => .bl (decide (j < i))) (tOp (rIxL K) (tVar 1) (tVar 5)) (tVar 3))))) (te := tVar 5) rfl nd rfl rfl (sw_true rfl rfl rfl (by decide +kernel)) (pi_range1 (by rfl) mr (pa_cons (pe_op op_add (pv 3) pe_int) pa_nil)) (blkOk_by (own := [("at", 5)]) (N := nDeep) (sc := defScope sDeep) (by decide +kernel)) (fun _ _ _ _ _ => pg_name (i := 5) nd rfl (Or.inl rfl))
          (fun _ _ _ _ _ => pts_one (PW.pt (pw_and (pt_val (pe_ix ix_list (pv 0) (pv 5) (fun _ _ => rfl))) (pw_and1 (PW.pt (pw_or (pt_cmpR op_isN (pe_ix ix_list (pv 1) (pv 5) (fun _ _ => rfl)) pe_non (nomark _)) (pw_or1 (pt_cmpR op_gt (pe_ix ix_list (pv 1) (pv 5) (fun _ _ => rfl)) (pv 3) (nomark _)))))))))
          (fun _ _ _ _ _ => pv 5))
        (pss_one (ps_set (i := 2) nd rfl (.inl rfl) (pe_callB (call_max2 rfl) (by rfl) mm (by decide +kernel) (pa_cons (pv 2) (pa_cons (pe_callB call_len_seq (by rfl) ml PySem.boot_len (pa_cons (pv 4) pa_nil)) pa_nil)))))))
      (pss_one (ps_ret (pv 2)))), ?_⟩
    have tl := (good_run kf n n (Nat.le_refl _)).len
    have n0 : ((run kf n n).1.map oV).length = n := by rw [List.length_map, tl]
    refine q_asg ev_c fun H1 e1 => ?_
    refine q_forR1 (ea_cons (ev_len (ev_var rfl) (ex_l e1 hb)) ea_nil) (by rw [n0]; omega) (fun i σ H' => (∃ y3 y4, σ = [some (.ref a), some (.ref b), some (nV (dep kf n i)), y3, y4, none]) ∧ Ex H H') (fun H2 e2 => ⟨⟨_, _, rfl⟩, e1.trans e2⟩) ?_ ?_
    · rintro i σ H2 hi ⟨⟨y3, y4, rfl⟩, e2⟩
      rw [n0] at hi
      refine q_asgL (el_lcR1 (fun a => decide (kf a = .op) && (decide (tv (run kf n n).1 a = none) || decide (∃ m, tv (run kf n n).1 a = some m ∧ i + 1 ≤ m))) nV (ea_cons (ev_op (ev_var rfl) ev_c rv_I0) ea_nil) (by omega) (fun x => rfl) (fun j H3 e3 hj => ?_) (fun j H3 e3 hj _ => ev_var rfl)) fun L H3 nL e3 hL => ?_
      · have hj' : j < n := by omega
        have hb3 := ex_l (e2.trans e3) hb
        cases htv : tv (run kf n n).1 j with
        | none =>
          refine et_is (et_and (et_B (ev_op (ev_var rfl) (ev_var rfl) (rv_ixL (ex_l (e2.trans e3) ha) (ops_at hj')))) (fun _ => et_or (b := false) (none_rd (K := K) (a := j) hb3 rfl rfl (by omega)) (fun hf => ?_))) ?_
          · rw [htv] at hf
            cases hf
          · rw [htv]
            simp
        | some m =>
          have hat := t_at (t := (run kf n n).1) (a := j) (by omega)
          rw [htv] at hat
          refine et_is (et_and (et_B (ev_op (ev_var rfl) (ev_var rfl) (rv_ixL (ex_l (e2.trans e3) ha) (ops_at hj')))) (fun _ => et_or (none_rd (K := K) (a := j) hb3 rfl rfl (by omega)) (fun _ => et_test (ev_op (ev_op (ev_var rfl) (ev_var rfl) (rv_ixL hb3 hat)) (ev_var rfl) rv_I0)))) ?_
          rw [htv]
          congr 2
          refine decide_eq_decide.mpr ⟨fun z => ⟨m, rfl, by omega⟩, fun ⟨m', e, z⟩ => ?_⟩
          have := Option.some.inj e
          omega
      · have eL : given ((i : Int) + 1).toNat (fun a => decide (kf a = .op) && (decide (tv (run kf n n).1 a = none) || decide (∃ m, tv (run kf n n).1 a = some m ∧ i + 1 ≤ m))) nV = (run kf n (i + 1)).2.reverse.map nV := by
          unfold given
          rw [show ((i : Int) + 1).toNat = i + 1 by omega, waits kf n (i + 1) (by omega)]
        rw [eL] at hL
        refine ⟨_, rfl, _, rfl, L, _, rfl, .inl (sq_of hL), _, _, rfl, ⟨some (nV i), some (.ref L), ?_⟩, e2.trans e3⟩
        rw [List.length_map, List.length_reverse]
        show [some (V.ref a), some (V.ref b), some (V.int (if (((run kf n (i + 1)).2.length : Nat) : Int) > ((dep kf n i : Nat) : Int) then (((run kf n (i + 1)).2.length : Nat) : Int) else ((dep kf n i : Nat) : Int))), some (nV i), some (.ref L), none] = [some (V.ref a), some (V.ref b), some (V.int ((max (dep kf n i) (run kf n (i + 1)).2.length : Nat) : Int)), some (nV i), some (.ref L), none]
        rw [show (if (((run kf n (i + 1)).2.length : Nat) : Int) > ((dep kf n i : Nat) : Int) then (((run kf n (i + 1)).2.length : Nat) : Int) else ((dep kf n i : Nat) : Int)) = ((max (dep kf n i) (run kf n (i + 1)).2.length : Nat) : Int) by split <;> omega]
    · rintro σ H2 ⟨⟨y3, y4, rfl⟩, e2⟩
      rw [n0, Int.toNat_natCast]
      exact ⟨_, rfl, q H2 e2⟩
/-! told and due compared -/
def spSame0 : Sp := fun vs H Q _ => ∃ v : V, vs = [v, v] ∧ atom v = true ∧ Q (.bl true) H
def spSame1 : Sp := fun vs H Q _ => ∃ (a b : Addr) (xs : List V), vs = [.ref a, .ref b] ∧ H a = some (.lst xs) ∧ H b = some (.lst xs) ∧ xs.all atom = true ∧ xs.length ≤ 10000 ∧ ∀ H', Ex H H' → Q (.bl true) H'
structure SameK (mg : Str → Option Value) : Prop where
  isi : mg "isinstance" = none
  bool : mg "bool" = none
  str : mg "str" = none
  int : mg "int" = none
  tuple : mg "tuple" = none
  list : mg "list" = none
  len : mg "len" = none
  all : mg "all" = none
  zip : mg "zip" = none
end
end Eh
set_option Elab.async false
set_option linter.all false
set_option maxRecDepth 100000
set_option maxHeartbeats 4000000
namespace Eh
open PySem PySem.Spec PyProof.Rows L2 Evl
theorem ev_isi {K : PySem.W.Frag} {σ : L2.St} {H : Hp} {te : TE} {x : V} {a S : String} {b : Bool} (he : Ev te σ H x) (ht : ∀ H1, Ex H H1 → TyX K H1 x (.type a)) (hk : kitB a S = some b) : Ev (tCB (rIsi K) (tCons te (tCons (tC (.ty S)) tNil))) σ H (.bl b) := fun H1 e1 Q q =>
  he H1 e1 _ fun H2 e2 => ⟨x, .ty S, .type a, .type S, b, rfl, .ty S, ht H2 (e1.trans e2), kit_ty hk, q H2 e2⟩
/-- a comprehension over zip of two lists of one length -/
theorem lc_zip {K : PySem.W.Frag} {a b : Addr} {xs ys : List V} {tt : TT} {te : TE} {σ : L2.St} {H1 : Hp} {Dd : Addr} {Qd : Hp → Prop} {i1 i2 : Nat} {vs : List Nat} (hl : xs.length = ys.length) (Pv : Nat → Hp → Prop) (h0 : Pv 0 (upd H1 Dd (.lst []))) (hq : ∀ i H, i ≤ xs.length → Pv i H → SqL K H a xs ∧ SqL K H b ys)
    (hs : ∀ i x y H T, xs[i]? = some x → ys[i]? = some y → Pv i H → H T = none → wipe (((wipe σ vs).set i1 (some x)).set i2 (some y)) vs = wipe σ vs ∧ tt (((wipe σ vs).set i1 (some x)).set i2 (some y)) (upd H T (.tup [x, y])) fun b H3 => if b = true then te (((wipe σ vs).set i1 (some x)).set i2 (some y)) H3 fun z H4 => ∃ acc, H4 Dd = some (.lst acc) ∧ acc.length < sizeLine ∧ Pv (i + 1) (upd H4 Dd (.lst (acc ++ [z]))) else Pv (i + 1) H3)
    (hd : ∀ H, Pv xs.length H → Qd H) :
    ∃ W : Nat → Nat → Hp → Prop, (∃ m, W 0 m (upd H1 Dd (.lst []))) ∧ ∀ i m H, W i m H → ((Itz K a b).stop i H ∧ Qd H) ∨ ((Itz K a b).go i H ∧ ∃ Nx : Hp → Prop, (∀ H', Nx H' → ∃ m', m' < m ∧ W (i + 1) m' H') ∧ ∀ x H', (Itz K a b).yld i H x H' → gTup K 2 (gCons (gName i1) (gCons (gName i2) gNil)) x (wipe σ vs) H' fun σ2 H2 => wipe σ2 vs = wipe σ vs ∧ tt σ2 H2 fun b H3 => if b = true then te σ2 H3 fun z H4 => ∃ acc, H4 Dd = some (.lst acc) ∧ acc.length < sizeLine ∧ Nx (upd H4 Dd (.lst (acc ++ [z]))) else Nx H3) := by
  refine ⟨fun i m H => m = xs.length - i ∧ i ≤ xs.length ∧ Pv i H, ⟨xs.length, by omega, Nat.zero_le _, h0⟩, ?_⟩
  rintro i m H ⟨rfl, hi, pp⟩
  obtain ⟨q1, q2⟩ := hq i H hi pp
  by_cases hlt : i < xs.length
  · have g1 : xs[i]? = some xs[i] := List.getElem?_eq_getElem hlt
    have g2 : ys[i]? = some ys[i] := List.getElem?_eq_getElem (by omega)
    refine .inr ⟨⟨xs, ys, _, _, q1, q2, g1, g2⟩, Pv (i + 1), fun H' p' => ⟨xs.length - (i + 1), by omega, rfl, hlt, p'⟩, fun v H' y => ?_⟩
    obtain ⟨T, x, y, rfl, nT, rfl, f1, f2⟩ := y
    exact ⟨T, [x, y], rfl, st_of upd_same, rfl, _, _, rfl, _, _, rfl, rfl, hs i x y H T (f1 xs q1) (f2 ys q2) pp nT⟩
  · have e : i = xs.length := by omega
    subst e
    exact .inl ⟨⟨xs, ys, q1, q2, .inl (Nat.le_refl _)⟩, hd H pp⟩
section
variable {P : Program} {w : World} {K : PySem.W.Frag} {mg : Str → Option Value} {base : Heap}
theorem ok_same0 {f : Addr} {fd : FuncData} {k : Nat} (F : Fun K "_law_same" "_law_same" sSame f fd) (T : SameK mg) : FnOk P w K mg base CX0 (k + 1) f fd ["found", "due"] spSame0 := by
  have nd := scSame.nd
  refine F.ok scSame (fun vs H Q E h => ?_) (fun cdv A outer s H vs Q E hr h => ?_)
  · obtain ⟨v, rfl, _⟩ := h
    rfl
  · obtain ⟨v, rfl, hv, q⟩ := h
    refine ⟨_, pss_cons (ps_if (PW.pt (pw_or (pt_cmpR op_isN (pv 1) pe_non (nomark _)) (pw_or1 (pt_val (pe_callB call_isi (by rfl) T.isi (by decide +kernel) (pa_cons (pv 1) (pa_cons (pe_bltn (v := .ty "bool") (by rfl) T.bool (by decide +kernel) rfl) pa_nil))))))) (pss_one (ps_ret (pe_and (pe_cmpR op_eq (pe_callB call_isi (by rfl) T.isi (by decide +kernel) (pa_cons (pv 0) (pa_cons (pe_bltn (v := .ty "bool") (by rfl) T.bool (by decide +kernel) rfl) pa_nil))) (pe_callB call_isi (by rfl) T.isi (by decide +kernel) (pa_cons (pv 1) (pa_cons (pe_bltn (v := .ty "bool") (by rfl) T.bool (by decide +kernel) rfl) pa_nil))) (nomark _)) (pe_one (pe_cmpR op_eq (pv 0) (pv 1) (nomark _)))))) pss_nil)
      (pss_cons (ps_if (pt_val (pe_callB call_isi (by rfl) T.isi (by decide +kernel) (pa_cons (pv 1) (pa_cons (pe_bltn (v := .ty "str") (by rfl) T.str (by decide +kernel) rfl) pa_nil)))) (pss_one (ps_ret (pe_and (pe_callB call_isi (by rfl) T.isi (by decide +kernel) (pa_cons (pv 0) (pa_cons (pe_bltn (v := .ty "str") (by rfl) T.str (by decide +kernel) rfl) pa_nil))) (pe_one (pe_cmpR op_eq (pv 0) (pv 1) (nomark _)))))) pss_nil)
      (pss_cons (ps_if (pt_val (pe_callB call_isi (by rfl) T.isi (by decide +kernel) (pa_cons (pv 1) (pa_cons (pe_bltn (v := .ty "int") (by rfl) T.int (by decide +kernel) rfl) pa_nil)))) (pss_one (ps_ret (pe_and (pe_callB call_isi (by rfl) T.isi (by decide +kernel) (pa_cons (pv 0) (pa_cons (pe_bltn (v := .ty "int") (by rfl) T.int (by decide +kernel) rfl) pa_nil))) (pe_and (pe_not (pe_callB call_isi (by rfl) T.isi (by decide +kernel) (pa_cons (pv 0) (pa_cons (pe_bltn (v := .ty "bool") (by rfl) T.bool (by decide +kernel) rfl) pa_nil)))) (pe_one (pe_cmpR op_eq (pv 0) (pv 1) (nomark _))))))) pss_nil)
      (pss_never))), ?_⟩
    cases v with
    | non =>
      exact ⟨_, rfl, rfl, _, rfl, iteT ⟨_, rfl, _, _, _, _, false, rfl, .ty _, .base .non, kit_ty (by decide +kernel), _, rfl, _, _, _, _, false, rfl, .ty _, .base .non, kit_ty (by decide +kernel), rfl, _, rfl, iteT ⟨_, rfl, _, rfl, rfl, q⟩⟩⟩
    | bl b =>
      refine ⟨_, rfl, rfl, _, rfl, iteF ⟨_, rfl, _, _, _, _, true, rfl, .ty _, .base (.bl b), kit_ty (by decide +kernel), _, rfl, iteT ⟨_, rfl, _, _, _, _, true, rfl, .ty _, .base (.bl b), kit_ty (by decide +kernel), _, rfl, _, _, _, _, true, rfl, .ty _, .base (.bl b), kit_ty (by decide +kernel), rfl, _, rfl, iteT ⟨_, rfl, _, rfl, rfl, ?_⟩⟩⟩⟩
      rw [decide_eq_true rfl]
      exact q
    | int i =>
      refine ⟨_, rfl, rfl, _, rfl, iteF ⟨_, rfl, _, _, _, _, false, rfl, .ty _, .base (.int i), kit_ty (by decide +kernel), _, rfl, iteF ?_⟩⟩
      refine ⟨_, rfl, _, _, _, _, false, rfl, .ty _, .base (.int i), kit_ty (by decide +kernel), _, rfl, iteF ?_⟩
      refine ⟨_, rfl, _, _, _, _, true, rfl, .ty _, .base (.int i), kit_ty (by decide +kernel), _, rfl, iteT ?_⟩
      refine ⟨_, rfl, _, _, _, _, true, rfl, .ty _, .base (.int i), kit_ty (by decide +kernel), _, rfl, iteT ⟨_, rfl, _, _, _, _, false, rfl, .ty _, .base (.int i), kit_ty (by decide +kernel), _, rfl, _, rfl, iteT ⟨_, rfl, _, rfl, rfl, ?_⟩⟩⟩
      rw [decide_eq_true rfl]
      exact q
    | _ => exact absurd hv Bool.false_ne_true
theorem ok_same1 {f : Addr} {fd : FuncData} {k : Nat} (F : Fun K "_law_same" "_law_same" sSame f fd) (T : SameK mg) (bS : Binds K fd ["found", "due"] []) (gS : mg "_law_same" = some (.ref f)) : FnOk P w K mg base CX0 (k + 2) f fd ["found", "due"] spSame1 := by
  have nd := scSame.nd
  have G0 : FnOk P w K mg base CX0 (k + 1) f fd ["found", "due"] spSame0 := ok_same0 F T
  refine F.ok scSame (fun vs H Q E h => ?_) (fun cdv A outer s H vs Q E hr h => ?_)
  · obtain ⟨a, b, xs, rfl, _⟩ := h
    rfl
  · obtain ⟨a, b, xs, rfl, ha, hb, hat, hlen, q⟩ := h
    refine ⟨_, pss_cons (ps_if (PW.pt (pw_or (pt_cmpR op_isN (pv 1) pe_non (nomark _)) (pw_or1 (pt_val (pe_callB call_isi (by rfl) T.isi (by decide +kernel) (pa_cons (pv 1) (pa_cons (pe_bltn (v := .ty "bool") (by rfl) T.bool (by decide +kernel) rfl) pa_nil))))))) (pss_one (ps_ret (pe_and (pe_cmpR op_eq (pe_callB call_isi (by rfl) T.isi (by decide +kernel) (pa_cons (pv 0) (pa_cons (pe_bltn (v := .ty "bool") (by rfl) T.bool (by decide +kernel) rfl) pa_nil))) (pe_callB call_isi (by rfl) T.isi (by decide +kernel) (pa_cons (pv 1) (pa_cons (pe_bltn (v := .ty "bool") (by rfl) T.bool (by decide +kernel) rfl) pa_nil))) (nomark _)) (pe_one (pe_cmpR op_eq (pv 0) (pv 1) (nomark _)))))) pss_nil)
      (pss_cons (ps_if (pt_val (pe_callB call_isi (by rfl) T.isi (by decide +kernel) (pa_cons (pv 1) (pa_cons (pe_bltn (v := .ty "str") (by rfl) T.str (by decide +kernel) rfl) pa_nil)))) (pss_one (ps_ret (pe_and (pe_callB call_isi (by rfl) T.isi (by decide +kernel) (pa_cons (pv 0) (pa_cons (pe_bltn (v := .ty "str") (by rfl) T.str (by decide +kernel) rfl) pa_nil))) (pe_one (pe_cmpR op_eq (pv 0) (pv 1) (nomark _)))))) pss_nil)
      (pss_cons (ps_if (pt_val (pe_callB call_isi (by rfl) T.isi (by decide +kernel) (pa_cons (pv 1) (pa_cons (pe_bltn (v := .ty "int") (by rfl) T.int (by decide +kernel) rfl) pa_nil)))) (pss_one (ps_ret (pe_and (pe_callB call_isi (by rfl) T.isi (by decide +kernel) (pa_cons (pv 0) (pa_cons (pe_bltn (v := .ty "int") (by rfl) T.int (by decide +kernel) rfl) pa_nil))) (pe_and (pe_not (pe_callB call_isi (by rfl) T.isi (by decide +kernel) (pa_cons (pv 0) (pa_cons (pe_bltn (v := .ty "bool") (by rfl) T.bool (by decide +kernel) rfl) pa_nil)))) (pe_one (pe_cmpR op_eq (pv 0) (pv 1) (nomark _))))))) pss_nil)
      (pss_cons (ps_if (PW.pt (pw_or (pt_cmpR op_ne (pe_callB call_isi (by rfl) T.isi (by decide +kernel) (pa_cons (pv 1) (pa_cons (pe_bltn (v := .ty "tuple") (by rfl) T.tuple (by decide +kernel) rfl) pa_nil))) (pe_callB call_isi (by rfl) T.isi (by decide +kernel) (pa_cons (pv 0) (pa_cons (pe_bltn (v := .ty "tuple") (by rfl) T.tuple (by decide +kernel) rfl) pa_nil))) (nomark _)) (pw_or1 (pt_cmpR op_ne (pe_callB call_isi (by rfl) T.isi (by decide +kernel) (pa_cons (pv 1) (pa_cons (pe_bltn (v := .ty "list") (by rfl) T.list (by decide +kernel) rfl) pa_nil))) (pe_callB call_isi (by rfl) T.isi (by decide +kernel) (pa_cons (pv 0) (pa_cons (pe_bltn (v := .ty "list") (by rfl) T.list (by decide +kernel) rfl) pa_nil))) (nomark _))))) (pss_one (ps_ret pe_bl)) pss_nil)
      (pss_one (ps_ret (pe_and (pe_cmpR op_eq (pe_callB call_len_seq (by rfl) T.len PySem.boot_len (pa_cons (pv 0) pa_nil)) (pe_callB call_len_seq (by rfl) T.len PySem.boot_len (pa_cons (pv 1) pa_nil)) (nomark _)) (pe_one (pe_callB (cr_all rfl) (by rfl) T.all (by decide +kernel) (pa_cons (pe_lc (own := [("one", 2), ("other", 3)]) (g := gTup K 2 (gCons (gName 2) (gCons (gName 3) gNil))) (tt := tYes) (te := tCall spSame0 [] E0 (tCons (tVar 2) (tCons (tVar 3) tNil))) rfl nd (pi_zip (by rfl) T.zip (pa_cons (pv 0) (pa_cons (pv 1) pa_nil))) (blkOk_by (own := [("one", 2), ("other", 3)]) (N := nSame) (sc := defScope sSame) (by decide +kernel)) (fun _ _ _ _ _ => pg_tup rfl (pgs_cons (pg_name (i := 2) nd rfl (.inl rfl)) (pgs_cons (pg_name (i := 3) nd rfl (.inl rfl)) pgs_nil))) (fun _ _ _ _ _ => pts_nil) (fun _ _ _ _ _ => pe_call G0 hr (by rfl) gS F.kp bS .nil pass0 (pa_cons (pv 2) (pa_cons (pv 3) pa_nil)))) pa_nil))))))))), ?_⟩
    refine ⟨_, rfl, rfl, _, rfl, iteF ⟨_, rfl, _, _, _, _, false, rfl, .ty _, .base (.lst hb), kit_ty (by decide +kernel), _, rfl, iteF ?_⟩⟩
    refine ⟨_, rfl, _, _, _, _, false, rfl, .ty _, .base (.lst hb), kit_ty (by decide +kernel), _, rfl, iteF ?_⟩
    refine ⟨_, rfl, _, _, _, _, false, rfl, .ty _, .base (.lst hb), kit_ty (by decide +kernel), _, rfl, iteF ?_⟩
    refine ⟨_, rfl, _, _, _, _, false, rfl, .ty _, .base (.lst hb), kit_ty (by decide +kernel), _, rfl, _, _, _, _, false, rfl, .ty _, .base (.lst ha), kit_ty (by decide +kernel), rfl, _, rfl, iteF ?_⟩
    refine ⟨_, rfl, _, _, _, _, true, rfl, .ty _, .base (.lst hb), kit_ty (by decide +kernel), _, rfl, _, _, _, _, true, rfl, .ty _, .base (.lst ha), kit_ty (by decide +kernel), rfl, _, rfl, iteF ?_⟩
    refine ⟨_, rfl, a, _, rfl, .inl (sq_of ha), _, rfl, b, _, rfl, .inl (sq_of hb), rfl, _, rfl, ?_⟩
    rw [decide_eq_true rfl]
    refine iteT ⟨_, rfl, _, rfl, a, b, xs, xs, rfl, sq_of ha, sq_of hb, fun D nD => ?_⟩
    have xD := Ex.new (o := .lst []) nD
    refine lc_zip (xs := xs) (ys := xs) rfl (fun i H' => Ex H H' ∧ H' D = some (.lst ((List.replicate i true).map V.bl))) ⟨xD, upd_same⟩ (fun i H' _ hh => ⟨sq_of (hh.1 _ _ ha), sq_of (hh.1 _ _ hb)⟩) ?_ ?_
    · rintro i x y H' Tp hx hy ⟨eH, hD⟩ nT
      have exy : x = y := Option.some.inj (hx.symm.trans hy)
      subst exy
      have hax : atom x = true := List.all_eq_true.mp hat x (List.mem_of_getElem? hx)
      have hi := (List.getElem?_eq_some_iff.mp hx).1
      have eT : Ex H' (upd H' Tp (.tup [x, x])) := Ex.new nT
      refine ⟨rfl, yesT ⟨_, rfl, _, rfl, x, rfl, hax, _, eT _ _ hD, ?_, (eH.trans eT).mut nD, ?_⟩⟩
      · rw [List.length_map, List.length_replicate]
        exact sz_lt (by omega)
      · rw [upd_same, List.replicate_succ', List.map_append]
        rfl
    · rintro H' ⟨eH, hD⟩
      refine ⟨D, List.replicate xs.length true, rfl, sq_of hD, ?_⟩
      rw [show (List.replicate xs.length true).all id = true by
        rw [List.all_eq_true]
        intro z hz
        exact List.eq_of_mem_replicate hz]
      exact q H' eH
end
end Eh
set_option Elab.async false
set_option linter.all false
set_option maxRecDepth 100000
set_option maxHeartbeats 4000000
namespace Eh
open PySem PySem.Spec PyProof.Rows L2 Evl
abbrev nLaw : List Str := ["script", "pot", "turn", "sheet", "word", "due", "opens", "closes", "shut", "handed", "time", "found", "letter", "at"]
theorem scLaw : FnScope nLaw ["script"] (defScope sLaw) := ⟨rfl, rfl, rfl, by decide +kernel, rfl, by decide +kernel, by decide +kernel⟩
def clsOf (kf : Nat → Kd) (n : Nat) : List V := (List.range n).map fun i => .bl (decide (kf i = .cl))
theorem cls_at {kf : Nat → Kd} {n a : Nat} (h : a < n) : atI (clsOf kf n) (a : Int) = some (.bl (decide (kf a = .cl))) := by
  refine atI_nat ?_
  unfold clsOf
  rw [List.getElem?_map, List.getElem?_range h]
  rfl
theorem given_all (n : Nat) (v : Nat → V) : given n (fun _ => true) v = (List.range n).map v := by
  unfold given
  rw [List.filter_eq_self.mpr (fun _ _ => rfl)]
theorem oV_atoms (t : List (Option Nat)) : (t.map oV).all atom = true := by
  rw [List.all_eq_true]
  intro v hv
  obtain ⟨o, _, rfl⟩ := List.mem_map.mp hv
  cases o <;> rfl
def openAt (kf : Nat → Kd) (n : Nat) : List Nat := (List.range n).filter fun a => (decide (kf a = .op) || decide (kf a = .cl)) && decide (tv (run kf n n).1 a = none)
theorem shut_same (os qs ws : List Str) : decide (openAt (kfOf os qs ws) ws.length = []) = (aloneOf os qs ws (ansOf os qs ws)).isEmpty := by
  rw [Bool.eq_iff_iff, decide_eq_true_eq, List.isEmpty_iff, aloneOf_nil]
  unfold openAt
  rw [List.filter_eq_nil_iff]
  constructor
  · intro h i hi hn
    have := h i (List.mem_range.mpr hi)
    cases hk : kfOf os qs ws i with
    | pl => rfl
    | op =>
      exfalso
      apply this
      rw [hk, show tv (run (kfOf os qs ws) ws.length ws.length).1 i = none from hn]
      rfl
    | cl =>
      exfalso
      apply this
      rw [hk, show tv (run (kfOf os qs ws) ws.length ws.length).1 i = none from hn]
      rfl
  · intro h i hi hb
    rw [Bool.and_eq_true] at hb
    have h2 := h i (List.mem_range.mp hi) (of_decide_eq_true hb.2)
    rw [h2] at hb
    exact absurd hb.1 (by decide)
theorem eqv_nilN (xs : List Nat) : PyData.eqv (.list (xs.map fun j : Nat => PyData.int (j : Int))) (.list []) = decide (xs = []) := by
  cases xs with
  | nil => rfl
  | cons x r =>
    have : ¬ (x :: r = []) := List.cons_ne_nil _ _
    rw [decide_eq_false this]
    rfl
theorem dpNs {K : PySem.W.Frag} {H : Hp} : ∀ xs : List Nat, DpAll K H (xs.map nV) (xs.map fun j : Nat => PyData.int (j : Int))
  | [] => .nil
  | n :: r => .cons (.int n) (dpNs r)
theorem shapedNs (xs : List Nat) : SeqAt.shaped (.list (xs.map fun j : Nat => PyData.int (j : Int))) = true := by
  have := shapedInts (xs.map fun j : Nat => (j : Int))
  rw [List.map_map] at this
  exact this
theorem ev_inC {K : PySem.W.Frag} {os qs ws y : List Str} {s ad : Addr} {xs : List V} {H : Hp} {σ : L2.St} {i : Nat} {x : V} {z : Int} {kd : Kd} (hx : (ws.map V.str)[i]? = some x) (hs : H s = some (.tup xs)) (hz : atI xs z = some (.ref ad)) (hy : H ad = some (.tup (y.map V.str))) (hkd : ∀ x, kdOf os qs x = kd ↔ x ∈ y) (h12 : σ[12]? = some (some x)) (h3 : σ[3]? = some (some (.ref s))) :
    Ev (tOp (rIn K false) (tVar 12) (tOp (rIxT K) (tVar 3) (tC (.int z)))) σ H (.bl (decide (kfOf os qs ws i = kd))) := by
  rw [List.getElem?_map] at hx
  obtain ⟨u, hu, rfl⟩ := Option.map_eq_some_iff.mp hx
  refine ev_is (ev_op (ev_var h12) (ev_op (ev_var h3) ev_c (rv_ixT (st_of hs) hz)) (rv_isT (st_of hy) rfl (flat_str y))) ?_
  rw [inV_str, kfOf_at hu]
  exact congrArg V.bl (decide_eq_decide.mpr (hkd _).symm)
section
variable {P : Program} {w : World} {K : PySem.W.Frag} {mg : Str → Option Value} {base : Heap}
def spLaw (K : PySem.W.Frag) : Sp := fun vs H Q _ => ∃ (a : Addr) (ns : List Int), vs = [.ref a] ∧ SqL K H a (ns.map V.int) ∧ ns.length ≤ 63 ∧ ∀ H', Q (.bl true) H'
theorem ok_law {f f1 f2 f3 f4 f5 f6 f7 f8 f9 : Addr} {fd d1 d2 d3 d4 d5 d6 d7 d8 d9 : FuncData} (F : Fun K "law" "law" sLaw f fd)
    (F1 : Fun K "_law_pot" "_law_pot" sPot f1 d1) (G1 : FnOk P w K mg base CX0 4 f1 d1 ["script"] (spPot K)) (b1 : Binds K d1 ["script"] []) (g1 : mg "_law_pot" = some (.ref f1))
    (F2 : Fun K "_law_sheet" "_law_sheet" sSheet f2 d2) (G2 : FnOk P w K mg base CX0 4 f2 d2 ["pot", "most"] spSheet) (b2 : Binds K d2 ["pot", "most"] []) (g2 : mg "_law_sheet" = some (.ref f2))
    (F3 : Fun K "_law_word" "_law_word" sWord f3 d3) (G3 : FnOk P w K mg base CX0 4 f3 d3 ["pot", "sheet"] spWord) (b3 : Binds K d3 ["pot", "sheet"] []) (g3 : mg "_law_word" = some (.ref f3))
    (F4 : Fun K "_law_answers" "_law_answers" sAns f4 d4) (G4 : FnOk P w K mg base CX0 4 f4 d4 ["sheet", "word"] (spAnswers K)) (b4 : Binds K d4 ["sheet", "word"] []) (g4 : mg "_law_answers" = some (.ref f4))
    (F5 : Fun K "answers" "answers" sAnswers f5 d5) (G5 : FnOk P w K mg base CX0 4 f5 d5 ["sheet", "word"] (spAnswers K)) (b5 : Binds K d5 ["sheet", "word"] []) (g5 : mg "answers" = some (.ref f5))
    (F6 : Fun K "_law_same" "_law_same" sSame f6 d6) (G60 : FnOk P w K mg base CX0 4 f6 d6 ["found", "due"] spSame0) (G61 : FnOk P w K mg base CX0 4 f6 d6 ["found", "due"] spSame1) (b6 : Binds K d6 ["found", "due"] []) (g6 : mg "_law_same" = some (.ref f6))
    (F7 : Fun K "is_shut" "is_shut" sIsShut f7 d7) (G7 : FnOk P w K mg base CX0 4 f7 d7 ["sheet", "word"] (spWordV K fun os qs ws => .bl (aloneOf os qs ws (ansOf os qs ws)).isEmpty)) (b7 : Binds K d7 ["sheet", "word"] []) (g7 : mg "is_shut" = some (.ref f7))
    (F8 : Fun K "depth_of" "depth_of" sDepthOf f8 d8) (G8 : FnOk P w K mg base CX0 4 f8 d8 ["sheet", "word"] (spWordV K fun os qs ws => nV (dep (kfOf os qs ws) ws.length ws.length))) (b8 : Binds K d8 ["sheet", "word"] []) (g8 : mg "depth_of" = some (.ref f8))
    (F9 : Fun K "_law_deep" "_law_deep" sDeep f9 d9) (G9 : FnOk P w K mg base CX0 4 f9 d9 ["opens", "told"] (spDeep K)) (b9 : Binds K d9 ["opens", "told"] []) (g9 : mg "_law_deep" = some (.ref f9))
    (ml : mg "len" = none) (mr : mg "range" = none) (mli : mg "list" = none) : FnOk P w K mg base CX0 5 f fd ["script"] (spLaw K) := by
  have nd := scLaw.nd
  refine F.ok scLaw (fun vs H Q E h => ?_) (fun cdv A outer s H vs Q E hr h => ?_)
  · obtain ⟨a, ns, rfl, _⟩ := h
    rfl
  · obtain ⟨a, ns, rfl, hA, hns, q⟩ := h
    refine ⟨_, (pss_cons (ps_set (i := 1) nd rfl (.inl rfl) (pe_call G1 hr (by rfl) g1 F1.kp b1 .nil pass0 (pa_cons (pv 0) pa_nil)))
        (pss_cons (ps_for PassesOwn.never rfl (pi_range1 (by rfl) mr (pa_cons pe_int pa_nil)) (pg_name (i := 2) nd rfl (.inl rfl)) (pss_cons (ps_set (i := 3) nd rfl (.inr rfl) (pe_call G2 hr (by rfl) g2 F2.kp b2 .nil pass0 (pa_cons (pv 1) (pa_cons pe_int pa_nil))))
        (pss_cons (ps_set (i := 4) nd rfl (.inl rfl) (pe_call G3 hr (by rfl) g3 F3.kp b3 .nil pass0 (pa_cons (pv 1) (pa_cons (pv 3) pa_nil))))
        (pss_cons (ps_set (i := 5) nd rfl (.inr rfl) (pe_call G4 hr (by rfl) g4 F4.kp b4 .nil pass0 (pa_cons (pv 3) (pa_cons (pv 4) pa_nil))))
        (pss_cons (ps_set (i := 6) nd rfl (.inr rfl) (pe_lc (own := [("letter", 12)]) (g := gName 12) (tt := tYes) (te := tOp (rIn K false) (tVar 12) (tOp (rIxT K) (tVar 3) (tC (.int 0)))) rfl nd (pi_list (pv 4)) (blkOk_by (own := [("letter", 12)]) (N := nLaw) (sc := defScope sLaw) (by decide +kernel)) (fun _ _ _ _ _ => pg_name (i := 12) nd rfl (Or.inl rfl)) (fun _ _ _ _ _ => pts_nil) (fun _ _ _ _ _ => pe_cmpR op_in_seq (pv 12) (pe_ix ix_tup (pv 3) pe_int (fun _ _ => rfl)) (by rfl))))
        (pss_cons (ps_set (i := 7) nd rfl (.inr rfl) (pe_lc (own := [("letter", 12)]) (g := gName 12) (tt := tYes) (te := tOp (rIn K false) (tVar 12) (tOp (rIxT K) (tVar 3) (tC (.int 2)))) rfl nd (pi_list (pv 4)) (blkOk_by (own := [("letter", 12)]) (N := nLaw) (sc := defScope sLaw) (by decide +kernel)) (fun _ _ _ _ _ => pg_name (i := 12) nd rfl (Or.inl rfl)) (fun _ _ _ _ _ => pts_nil) (fun _ _ _ _ _ => pe_cmpR op_in_seq (pv 12) (pe_ix ix_tup (pv 3) pe_int (fun _ _ => rfl)) (by rfl))))
        (pss_cons (ps_set (i := 8) nd rfl (.inl rfl) (pe_cmpR (op_eqD hr.units) (pe_lc (own := [("at", 13)]) (g := gName 13) (tt := tAnd (tOr (tB (tOp (rIxL K) (tVar 6) (tVar 13))) (tB (tOp (rIxL K) (tVar 7) (tVar 13)))) (tTest (tOp rIsN (tOp (rIxL K) (tVar 5) (tVar 13)) (tC .non)))) (te := tVar 13) rfl nd (pi_range1 (by rfl) mr (pa_cons (pe_callB call_len_seq (by rfl) ml PySem.boot_len (pa_cons (pv 4) pa_nil)) pa_nil)) (blkOk_by (own := [("at", 13)]) (N := nLaw) (sc := defScope sLaw) (by decide +kernel)) (fun _ _ _ _ _ => pg_name (i := 13) nd rfl (Or.inl rfl)) (fun _ _ _ _ _ => pts_one (PW.pt (pw_and (PW.pt (pw_or (pt_val (pe_ix ix_list (pv 6) (pv 13) (fun _ _ => rfl))) (pw_or1 (pt_val (pe_ix ix_list (pv 7) (pv 13) (fun _ _ => rfl)))))) (pw_and1 (pt_cmpR op_isN (pe_ix ix_list (pv 5) (pv 13) (fun _ _ => rfl)) pe_non (nomark _)))))) (fun _ _ _ _ _ => pv 13)) (pe_lst pa_nil) (nomark _)))
        (pss_cons (ps_set (i := 9) nd rfl (.inl rfl) (pe_callTy call_list_of (by rfl) mli (by decide +kernel) (pa_cons (pv 4) pa_nil)))
        (pss_one (ps_for PassesOwn.never rfl (pi_range1 (by rfl) mr (pa_cons pe_int pa_nil)) (pg_name (i := 10) nd rfl (.inl rfl)) (pss_cons (ps_set (i := 11) nd rfl (.inl rfl) (pe_call G5 hr (by rfl) g5 F5.kp b5 .nil pass0 (pa_cons (pv 3) (pa_cons (pv 9) pa_nil))))
        (pss_cons (ps_if (PW.pt (pw_or (pt_not (pt_val (pe_call G61 hr (by rfl) g6 F6.kp b6 .nil pass0 (pa_cons (pv 11) (pa_cons (pv 5) pa_nil))))) (pw_or1 (pt_not (pt_val (pe_call G60 hr (by rfl) g6 F6.kp b6 .nil pass0 (pa_cons (pe_call G7 hr (by rfl) g7 F7.kp b7 .nil pass0 (pa_cons (pv 3) (pa_cons (pv 9) pa_nil))) (pa_cons (pv 8) pa_nil)))))))) (pss_one (ps_never)) pss_nil)
        (pss_cons (ps_if (pt_not (pt_val (pe_call G60 hr (by rfl) g6 F6.kp b6 .nil pass0 (pa_cons (pe_call G8 hr (by rfl) g8 F8.kp b8 .nil pass0 (pa_cons (pv 3) (pa_cons (pv 9) pa_nil))) (pa_cons (pe_call G9 hr (by rfl) g9 F9.kp b9 .nil pass0 (pa_cons (pv 6) (pa_cons (pv 5) pa_nil))) pa_nil))))) (pss_one (ps_never)) pss_nil)
        (pss_cons (ps_if (pt_cmpR (op_neD hr.units) (pv 9) (pv 4) (nomark _)) (pss_one (ps_never)) pss_nil)
        (pss_one (ps_expr (pe_bm PySem.F.plainAttrs_list PySem.F.slot_list_append PySem.F.type_list_append mt_append (pv 11) (pa_cons pe_int pa_nil))))))))))))))))))
        (pss_one (ps_ret pe_bl)))), ?_⟩
    refine ⟨_, rfl, a, ns, rfl, hA, hns, fun p c ms H1 e1 hP1 np nc => ?_⟩
    refine ⟨6, rfl, by decide, by decide, for_range (lo := 0) (n := 6) (fun i σ H' => (∃ y2 y3 y4 y5 y6 y7 y8 y9 y10 y11, σ = [some (.ref a), some (.ref p), y2, y3, y4, y5, y6, y7, y8, y9, y10, y11, none, none]) ∧ Pot p c ms H') ⟨⟨_, _, _, _, _, _, _, _, _, _, rfl⟩, hP1⟩ ?_ ?_⟩
    · rintro i σ H2 hi ⟨⟨y2, y3, y4, y5, y6, y7, y8, y9, y10, y11, rfl⟩, hP2⟩
      refine ⟨_, rfl, p, c, ms, 4, rfl, by decide, by decide, hP2, fun os ps qs sh H3 hS hs3 kp3 hP3 => ?_⟩
      refine ⟨_, rfl, _, rfl, p, c, sh, ms, os, ps, qs, rfl, hP3, hS, hs3, fun ws l H4 hwm hwl kp4 hP4 hl4 => ?_⟩
      have hs4 := hs3.keep hP3 kp4
      refine ⟨_, rfl, _, rfl, sh, l, os, ps, qs, ws, rfl, hS, hs4, sq_of hl4, hwm, by omega, fun T H5 e5 nT hT5 => ?_⟩
      generalize hkf : kfOf os qs ws = kf
      have hT5' : H5 T = some (tO (run kf ws.length ws.length).1) := by
        rw [hT5]
        unfold ansOf
        rw [hkf]
      have tl : (run kf ws.length ws.length).1.length = ws.length := (good_run kf ws.length ws.length (Nat.le_refl _)).len
      have hs5 := hs4.ex e5
      obtain ⟨ao, ap, ac, k0, k1, k2, k3⟩ := id hs5
      have hl5 := e5 _ _ hl4
      have n0 : (ws.map V.str).length = ws.length := List.length_map _
      have hop : ∀ x, kdOf os qs x = .op ↔ x ∈ os := fun x => kd_op
      have hcl : ∀ x, kdOf os qs x = .cl ↔ x ∈ qs := fun x => kd_cl hS
      -- opens, closes
      refine q_asgL (el_lcL (fun _ => true) (fun i => .bl (decide (kf i = .op))) (ev_var rfl) (sq_of hl5) (by rw [n0]; omega) (fun x => rfl) (fun i x H6 e6 hx => et_yes) (fun i x H6 e6 hx _ => by rw [← hkf]; exact ev_inC hx (e6 _ _ k0) (show atI [V.ref ao, .ref ap, .ref ac] 0 = some (.ref ao) from rfl) (e6 _ _ k1) hop rfl rfl)) fun O H6 nO e6 hO => ?_
      rw [n0, given_all] at hO
      refine q_asgL (el_lcL (fun _ => true) (fun i => .bl (decide (kf i = .cl))) (ev_var rfl) (sq_of (e6 _ _ hl5)) (by rw [n0]; omega) (fun x => rfl) (fun i x H7 e7 hx => et_yes) (fun i x H7 e7 hx _ => by rw [← hkf]; exact ev_inC hx (e7 _ _ (e6 _ _ k0)) (show atI [V.ref ao, .ref ap, .ref ac] 2 = some (.ref ac) from rfl) (e7 _ _ (e6 _ _ k3)) hcl rfl rfl)) fun C H7 nC e7 hC => ?_
      rw [n0, given_all] at hC
      have e57 := e6.trans e7
      -- shut
      refine q_asg (v := .bl (decide (openAt kf ws.length = []))) ?_ fun H8 e8 => ?_
      · refine ev_opLL (xs := (openAt kf ws.length).map nV) (ys := []) ?_ (el_lst ea_nil (by decide)) fun u v H8 hu hv e8 => ?_
        · have := el_lcR1 (σ := [some (V.ref a), some (.ref p), some (.int (0 + (i : Int))), some (.ref sh), some (.ref l), some (.ref T), some (.ref O), some (.ref C), y8, y9, y10, y11, none, none]) (H := H7) (t := tAnd (tOr (tB (tOp (rIxL K) (tVar 6) (tVar 13))) (tB (tOp (rIxL K) (tVar 7) (tVar 13)))) (tTest (tOp rIsN (tOp (rIxL K) (tVar 5) (tVar 13)) (tC .non)))) (te := tVar 13) (ta := tCons (tCB (rLenS K) (tCons (tVar 4) tNil)) tNil) (j := 13) (vs := [13]) (fun a => (decide (kf a = .op) || decide (kf a = .cl)) && decide (tv (run kf ws.length ws.length).1 a = none)) nV (ea_cons (ev_len (ev_var rfl) (sq_of (e57 _ _ hl5))) ea_nil) (by rw [n0]; omega) (fun x => rfl) (fun j H8 e8 hj => ?_) (fun j H8 e8 hj _ => ev_var rfl)
          · rw [n0, Int.toNat_natCast] at this
            exact this
          · rw [n0] at hj
            have hj' : j < ws.length := by omega
            exact et_and (et_or (et_B (ev_op (ev_var rfl) (ev_var rfl) (rv_ixL (sq_of (e8 _ _ (e7 _ _ hO))) (ops_at hj')))) (fun _ => et_B (ev_op (ev_var rfl) (ev_var rfl) (rv_ixL (sq_of (e8 _ _ hC)) (cls_at hj'))))) (fun _ => none_rd (K := K) (a := j) (sq_of (e8 _ _ (e57 _ _ hT5'))) rfl rfl (by omega))
        · refine fun H9 e9 Q qq => ⟨.list ((openAt kf ws.length).map fun j : Nat => PyData.int (j : Int)), .list [], .lst (sq_of (e9 _ _ hu)) (dpNs _), .lst (sq_of (e9 _ _ hv)) .nil, shapedNs _, shapedNil, ?_⟩
          rw [eqv_nilN]
          exact qq H9 (Ex.refl _)
      have e58 := e57.trans e8
      -- handed
      refine q_asgL (el_list (K := K) (ev_var rfl) (sq_of (e58 _ _ hl5))) fun h H9 nh x9 hh9 => ?_
      have e59 := e58.trans x9
      have hP9 := (hP4.ex e5).ex e59
      have hO9 : H9 O = some (.lst (opsOf kf ws.length)) := x9 _ _ (e8 _ _ (e7 _ _ hO))
      have hs9 := hs5.ex e59
      have hl9 := e59 _ _ hl5
      have hT9 := e59 _ _ hT5'
      have haz : ∀ x ∈ ws, ∀ d ∈ cs x, az d := fun x hx => (hS.lt x (hwm x hx)).1
      refine ⟨2, rfl, by decide, by decide, for_range (lo := 0) (n := 2) (fun j σ H' => (∃ y10 y11, σ = [some (V.ref a), some (.ref p), some (.int (0 + (i : Int))), some (.ref sh), some (.ref l), some (.ref T), some (.ref O), some (.ref C), some (.bl (decide (openAt kf ws.length = []))), some (.ref h), y10, y11, none, none]) ∧ Ex H9 H') ⟨⟨_, _, rfl⟩, Ex.refl _⟩ ?_ ?_⟩
      · rintro j σ H10 hj ⟨⟨z10, z11, rfl⟩, e10⟩
        refine ⟨_, rfl, _, rfl, sh, h, os, ps, qs, ws, rfl, hS, hs9.ex e10, sq_of (e10 _ _ hh9), hwm, by omega, fun fo H11 e11 nf hf => ?_⟩
        have hf' : H11 fo = some (tO (run kf ws.length ws.length).1) := by
          rw [hf]
          unfold ansOf
          rw [hkf]
        have e911 := e10.trans e11
        refine ⟨_, rfl, _, rfl, fo, T, _, rfl, hf', e911 _ _ hT9, oV_atoms _, by rw [List.length_map]; omega, fun H12 e12 => ⟨_, rfl, iteF ?_⟩⟩
        have e912 := e911.trans e12
        refine ⟨_, rfl, _, rfl, sh, h, os, ps, qs, ws, rfl, hS, hs9.ex e912, sq_of (e912 _ _ hh9), hwm, by omega, fun H13 e13 => ?_⟩
        have es : [V.bl (aloneOf os qs ws (ansOf os qs ws)).isEmpty, V.bl (decide (openAt kf ws.length = []))] = [V.bl (decide (openAt kf ws.length = [])), V.bl (decide (openAt kf ws.length = []))] := by rw [← shut_same, hkf]
        refine ⟨_, rfl, V.bl (decide (openAt kf ws.length = [])), es, rfl, _, rfl, iteF ?_⟩
        have e913 := e912.trans e13
        refine ⟨_, rfl, _, rfl, sh, h, os, ps, qs, ws, rfl, hS, hs9.ex e913, sq_of (e913 _ _ hh9), hwm, by omega, fun H14 e14 => ?_⟩
        have e914 := e913.trans e14
        refine ⟨_, rfl, _, rfl, O, T, kf, ws.length, rfl, sq_of (e914 _ _ hO9), sq_of (e914 _ _ hT9), by omega, fun H15 e15 => ?_⟩
        have ed : [nV (dep (kfOf os qs ws) ws.length ws.length), nV (dep kf ws.length ws.length)] = [nV (dep kf ws.length ws.length), nV (dep kf ws.length ws.length)] := by rw [hkf]
        refine ⟨nV (dep kf ws.length ws.length), ed, rfl, _, rfl, iteF ?_⟩
        have e915 := e914.trans e15
        refine ⟨_, rfl, _, rfl, .list (ws.map PyData.str), .list (ws.map PyData.str), .lst (sq_of (e915 _ _ hh9)) (dpStrs ws), .lst (sq_of (e915 _ _ hl9)) (dpStrs ws), shapedL haz, shapedL haz, _, rfl, ?_⟩
        have er : PyData.eqv (.list (ws.map PyData.str)) (.list (ws.map PyData.str)) = true := by
          apply SeqAt.eqv_refl
          exact layStrs ws haz
        rw [er]
        refine iteF ?_
        have hf15 : H15 fo = some (tO (run kf ws.length ws.length).1) := e15 _ _ (e14 _ _ (e13 _ _ (e12 _ _ hf')))
        refine ⟨_, rfl, .inl ⟨rfl, _, sq_of hf15⟩, fo, _, _, rfl, rfl, hf15, by rw [List.length_map]; exact sz_lt (by omega), ⟨_, _, rfl⟩, e915.mut ?_⟩
        exact fresh_back e10 nf
      · rintro σ H10 ⟨⟨z10, z11, rfl⟩, e10⟩
        exact ⟨⟨_, _, _, _, _, _, _, _, _, _, rfl⟩, hP9.ex e10⟩
    · rintro σ H2 ⟨⟨y2, y3, y4, y5, y6, y7, y8, y9, y10, y11, rfl⟩, hP2⟩
      exact q H2
end
end Eh
set_option Elab.async false
set_option linter.all false
set_option maxRecDepth 100000
set_option maxHeartbeats 4000000
namespace Eh
open PySem PySem.Spec PyProof.Rows L2 Evl
theorem all_mk {l : PySem.W.OpenLaw} {w : World} {K : PySem.W.Frag} {h : Heap} {mg : Str → Option Value} {fa f0 f1 f2 f3 f4 f5 f6 f7 f8 f9 f10 f11 f12 f13 f14 f15 f16 f17 : Addr} (X : K.In h) (G : h.Ns mainGlobals mg) (hfa : mg "law" = some (.ref fa))
    {od0 an0 : Option Addr} {sl0 : Array (Option Value)} {oc0 kV0 dc0 pm0 cd0 ct0 : Value} (a0 : PySem.W.nsIn K mainGlobals "order_of" = some (some (.ref f0))) (l0 : K.lookup f0 = some ⟨oc0, od0, .func (PySem.W.fnOf "order_of" "order_of" (defArgs sOrderOf) (defBody sOrderOf) (defScope sOrderOf) .none kV0 dc0 pm0 an0 cd0 ct0), sl0⟩) (c0 : PySem.W.codeIn K cd0 "order_of" = true) (k0 : PySem.W.keepIn K (.ref f0) = true)
    {od1 an1 : Option Addr} {sl1 : Array (Option Value)} {oc1 kV1 dc1 pm1 cd1 ct1 : Value} (a1 : PySem.W.nsIn K mainGlobals "need_word" = some (some (.ref f1))) (l1 : K.lookup f1 = some ⟨oc1, od1, .func (PySem.W.fnOf "need_word" "need_word" (defArgs sNeedWord) (defBody sNeedWord) (defScope sNeedWord) .none kV1 dc1 pm1 an1 cd1 ct1), sl1⟩) (c1 : PySem.W.codeIn K cd1 "need_word" = true) (k1 : PySem.W.keepIn K (.ref f1) = true)
    {od2 an2 : Option Addr} {sl2 : Array (Option Value)} {oc2 kV2 dc2 pm2 cd2 ct2 : Value} (a2 : PySem.W.nsIn K mainGlobals "answers" = some (some (.ref f2))) (l2 : K.lookup f2 = some ⟨oc2, od2, .func (PySem.W.fnOf "answers" "answers" (defArgs sAnswers) (defBody sAnswers) (defScope sAnswers) .none kV2 dc2 pm2 an2 cd2 ct2), sl2⟩) (c2 : PySem.W.codeIn K cd2 "answers" = true) (k2 : PySem.W.keepIn K (.ref f2) = true)
    {od3 an3 : Option Addr} {sl3 : Array (Option Value)} {oc3 kV3 dc3 pm3 cd3 ct3 : Value} (a3 : PySem.W.nsIn K mainGlobals "alone" = some (some (.ref f3))) (l3 : K.lookup f3 = some ⟨oc3, od3, .func (PySem.W.fnOf "alone" "alone" (defArgs sAlone) (defBody sAlone) (defScope sAlone) .none kV3 dc3 pm3 an3 cd3 ct3), sl3⟩) (c3 : PySem.W.codeIn K cd3 "alone" = true) (k3 : PySem.W.keepIn K (.ref f3) = true)
    {od4 an4 : Option Addr} {sl4 : Array (Option Value)} {oc4 kV4 dc4 pm4 cd4 ct4 : Value} (a4 : PySem.W.nsIn K mainGlobals "is_shut" = some (some (.ref f4))) (l4 : K.lookup f4 = some ⟨oc4, od4, .func (PySem.W.fnOf "is_shut" "is_shut" (defArgs sIsShut) (defBody sIsShut) (defScope sIsShut) .none kV4 dc4 pm4 an4 cd4 ct4), sl4⟩) (c4 : PySem.W.codeIn K cd4 "is_shut" = true) (k4 : PySem.W.keepIn K (.ref f4) = true)
    {od5 an5 : Option Addr} {sl5 : Array (Option Value)} {oc5 kV5 dc5 pm5 cd5 ct5 : Value} (a5 : PySem.W.nsIn K mainGlobals "depth_of" = some (some (.ref f5))) (l5 : K.lookup f5 = some ⟨oc5, od5, .func (PySem.W.fnOf "depth_of" "depth_of" (defArgs sDepthOf) (defBody sDepthOf) (defScope sDepthOf) .none kV5 dc5 pm5 an5 cd5 ct5), sl5⟩) (c5 : PySem.W.codeIn K cd5 "depth_of" = true) (k5 : PySem.W.keepIn K (.ref f5) = true)
    {od6 an6 : Option Addr} {sl6 : Array (Option Value)} {oc6 kV6 dc6 pm6 cd6 ct6 : Value} (a6 : PySem.W.nsIn K mainGlobals "_law_blend" = some (some (.ref f6))) (l6 : K.lookup f6 = some ⟨oc6, od6, .func (PySem.W.fnOf "_law_blend" "_law_blend" (defArgs sBlend) (defBody sBlend) (defScope sBlend) .none kV6 dc6 pm6 an6 cd6 ct6), sl6⟩) (c6 : PySem.W.codeIn K cd6 "_law_blend" = true) (k6 : PySem.W.keepIn K (.ref f6) = true)
    {od7 an7 : Option Addr} {sl7 : Array (Option Value)} {oc7 kV7 dc7 pm7 cd7 ct7 : Value} (a7 : PySem.W.nsIn K mainGlobals "_law_pot" = some (some (.ref f7))) (l7 : K.lookup f7 = some ⟨oc7, od7, .func (PySem.W.fnOf "_law_pot" "_law_pot" (defArgs sPot) (defBody sPot) (defScope sPot) .none kV7 dc7 pm7 an7 cd7 ct7), sl7⟩) (c7 : PySem.W.codeIn K cd7 "_law_pot" = true) (k7 : PySem.W.keepIn K (.ref f7) = true)
    {od8 an8 : Option Addr} {sl8 : Array (Option Value)} {oc8 kV8 dc8 pm8 cd8 ct8 : Value} (a8 : PySem.W.nsIn K mainGlobals "_law_pick" = some (some (.ref f8))) (l8 : K.lookup f8 = some ⟨oc8, od8, .func (PySem.W.fnOf "_law_pick" "_law_pick" (defArgs sPick) (defBody sPick) (defScope sPick) .none kV8 dc8 pm8 an8 cd8 ct8), sl8⟩) (c8 : PySem.W.codeIn K cd8 "_law_pick" = true) (k8 : PySem.W.keepIn K (.ref f8) = true)
    {od9 an9 : Option Addr} {sl9 : Array (Option Value)} {oc9 kV9 dc9 pm9 cd9 ct9 : Value} (a9 : PySem.W.nsIn K mainGlobals "_law_letters" = some (some (.ref f9))) (l9 : K.lookup f9 = some ⟨oc9, od9, .func (PySem.W.fnOf "_law_letters" "_law_letters" (defArgs sLetters) (defBody sLetters) (defScope sLetters) .none kV9 dc9 pm9 an9 cd9 ct9), sl9⟩) (c9 : PySem.W.codeIn K cd9 "_law_letters" = true) (k9 : PySem.W.keepIn K (.ref f9) = true)
    {od10 an10 : Option Addr} {sl10 : Array (Option Value)} {oc10 kV10 dc10 pm10 cd10 ct10 : Value} (a10 : PySem.W.nsIn K mainGlobals "_law_sheet" = some (some (.ref f10))) (l10 : K.lookup f10 = some ⟨oc10, od10, .func (PySem.W.fnOf "_law_sheet" "_law_sheet" (defArgs sSheet) (defBody sSheet) (defScope sSheet) .none kV10 dc10 pm10 an10 cd10 ct10), sl10⟩) (c10 : PySem.W.codeIn K cd10 "_law_sheet" = true) (k10 : PySem.W.keepIn K (.ref f10) = true)
    {od11 an11 : Option Addr} {sl11 : Array (Option Value)} {oc11 kV11 dc11 pm11 cd11 ct11 : Value} (a11 : PySem.W.nsIn K mainGlobals "_law_order" = some (some (.ref f11))) (l11 : K.lookup f11 = some ⟨oc11, od11, .func (PySem.W.fnOf "_law_order" "_law_order" (defArgs sOrder) (defBody sOrder) (defScope sOrder) .none kV11 dc11 pm11 an11 cd11 ct11), sl11⟩) (c11 : PySem.W.codeIn K cd11 "_law_order" = true) (k11 : PySem.W.keepIn K (.ref f11) = true)
    {od12 an12 : Option Addr} {sl12 : Array (Option Value)} {oc12 kV12 dc12 pm12 cd12 ct12 : Value} (a12 : PySem.W.nsIn K mainGlobals "_law_shut" = some (some (.ref f12))) (l12 : K.lookup f12 = some ⟨oc12, od12, .func (PySem.W.fnOf "_law_shut" "_law_shut" (defArgs sShut) (defBody sShut) (defScope sShut) .none kV12 dc12 pm12 an12 cd12 ct12), sl12⟩) (c12 : PySem.W.codeIn K cd12 "_law_shut" = true) (k12 : PySem.W.keepIn K (.ref f12) = true)
    {od13 an13 : Option Addr} {sl13 : Array (Option Value)} {oc13 kV13 dc13 pm13 cd13 ct13 : Value} (a13 : PySem.W.nsIn K mainGlobals "_law_answers" = some (some (.ref f13))) (l13 : K.lookup f13 = some ⟨oc13, od13, .func (PySem.W.fnOf "_law_answers" "_law_answers" (defArgs sAns) (defBody sAns) (defScope sAns) .none kV13 dc13 pm13 an13 cd13 ct13), sl13⟩) (c13 : PySem.W.codeIn K cd13 "_law_answers" = true) (k13 : PySem.W.keepIn K (.ref f13) = true)
    {od14 an14 : Option Addr} {sl14 : Array (Option Value)} {oc14 kV14 dc14 pm14 cd14 ct14 : Value} (a14 : PySem.W.nsIn K mainGlobals "_law_same" = some (some (.ref f14))) (l14 : K.lookup f14 = some ⟨oc14, od14, .func (PySem.W.fnOf "_law_same" "_law_same" (defArgs sSame) (defBody sSame) (defScope sSame) .none kV14 dc14 pm14 an14 cd14 ct14), sl14⟩) (c14 : PySem.W.codeIn K cd14 "_law_same" = true) (k14 : PySem.W.keepIn K (.ref f14) = true)
    {od15 an15 : Option Addr} {sl15 : Array (Option Value)} {oc15 kV15 dc15 pm15 cd15 ct15 : Value} (a15 : PySem.W.nsIn K mainGlobals "_law_word" = some (some (.ref f15))) (l15 : K.lookup f15 = some ⟨oc15, od15, .func (PySem.W.fnOf "_law_word" "_law_word" (defArgs sWord) (defBody sWord) (defScope sWord) .none kV15 dc15 pm15 an15 cd15 ct15), sl15⟩) (c15 : PySem.W.codeIn K cd15 "_law_word" = true) (k15 : PySem.W.keepIn K (.ref f15) = true)
    {od16 an16 : Option Addr} {sl16 : Array (Option Value)} {oc16 kV16 dc16 pm16 cd16 ct16 : Value} (a16 : PySem.W.nsIn K mainGlobals "_law_deep" = some (some (.ref f16))) (l16 : K.lookup f16 = some ⟨oc16, od16, .func (PySem.W.fnOf "_law_deep" "_law_deep" (defArgs sDeep) (defBody sDeep) (defScope sDeep) .none kV16 dc16 pm16 an16 cd16 ct16), sl16⟩) (c16 : PySem.W.codeIn K cd16 "_law_deep" = true) (k16 : PySem.W.keepIn K (.ref f16) = true)
    {od17 an17 : Option Addr} {sl17 : Array (Option Value)} {oc17 kV17 dc17 pm17 cd17 ct17 : Value} (a17 : PySem.W.nsIn K mainGlobals "law" = some (some (.ref f17))) (l17 : K.lookup f17 = some ⟨oc17, od17, .func (PySem.W.fnOf "law" "law" (defArgs sLaw) (defBody sLaw) (defScope sLaw) .none kV17 dc17 pm17 an17 cd17 ct17), sl17⟩) (c17 : PySem.W.codeIn K cd17 "law" = true) (k17 : PySem.W.keepIn K (.ref f17) = true)
    (z0 : PySem.W.nsIn K mainGlobals "len" = some none)
    (z1 : PySem.W.nsIn K mainGlobals "list" = some none)
    (z2 : PySem.W.nsIn K mainGlobals "enumerate" = some none)
    (z3 : PySem.W.nsIn K mainGlobals "range" = some none)
    (z4 : PySem.W.nsIn K mainGlobals "min" = some none)
    (z5 : PySem.W.nsIn K mainGlobals "tuple" = some none)
    (z6 : PySem.W.nsIn K mainGlobals "max" = some none)
    (z7 : PySem.W.nsIn K mainGlobals "isinstance" = some none)
    (z8 : PySem.W.nsIn K mainGlobals "bool" = some none)
    (z9 : PySem.W.nsIn K mainGlobals "str" = some none)
    (z10 : PySem.W.nsIn K mainGlobals "int" = some none)
    (z11 : PySem.W.nsIn K mainGlobals "all" = some none)
    (z12 : PySem.W.nsIn K mainGlobals "zip" = some none)
    : ∃ fd : FuncData, (∀ (s : Shared) (v : Value), BindsTo s fd ⟨[v], []⟩ [("script", v)]) ∧ ∀ base : Heap, K.In base → base.Ns mainGlobals mg → FnOk l.prog w K mg base CX0 5 fa fd ["script"] (spLaw K) := by
  have e := hfa.symm.trans (PySem.W.mg_of X G a17)
  cases e
  have F0 := fun_mk (st := sOrderOf) l0 c0 k0
  have g0 := PySem.W.mg_of X G a0
  have b0 := F0.binds (ps := ["sheet"]) fun _ _ _ _ _ _ us hl => match us, hl with | [_], _ => rfl
  have F1 := fun_mk (st := sNeedWord) l1 c1 k1
  have g1 := PySem.W.mg_of X G a1
  have b1 := F1.binds (ps := ["sheet", "word"]) fun _ _ _ _ _ _ us hl => match us, hl with | [_, _], _ => rfl
  have F2 := fun_mk (st := sAnswers) l2 c2 k2
  have g2 := PySem.W.mg_of X G a2
  have b2 := F2.binds (ps := ["sheet", "word"]) fun _ _ _ _ _ _ us hl => match us, hl with | [_, _], _ => rfl
  have F3 := fun_mk (st := sAlone) l3 c3 k3
  have g3 := PySem.W.mg_of X G a3
  have b3 := F3.binds (ps := ["sheet", "word", "told"]) fun _ _ _ _ _ _ us hl => match us, hl with | [_, _, _], _ => rfl
  have F4 := fun_mk (st := sIsShut) l4 c4 k4
  have g4 := PySem.W.mg_of X G a4
  have b4 := F4.binds (ps := ["sheet", "word"]) fun _ _ _ _ _ _ us hl => match us, hl with | [_, _], _ => rfl
  have F5 := fun_mk (st := sDepthOf) l5 c5 k5
  have g5 := PySem.W.mg_of X G a5
  have b5 := F5.binds (ps := ["sheet", "word"]) fun _ _ _ _ _ _ us hl => match us, hl with | [_, _], _ => rfl
  have F6 := fun_mk (st := sBlend) l6 c6 k6
  have g6 := PySem.W.mg_of X G a6
  have b6 := F6.binds (ps := ["cell", "at"]) fun _ _ _ _ _ _ us hl => match us, hl with | [_, _], _ => rfl
  have F7 := fun_mk (st := sPot) l7 c7 k7
  have g7 := PySem.W.mg_of X G a7
  have b7 := F7.binds (ps := ["script"]) fun _ _ _ _ _ _ us hl => match us, hl with | [_], _ => rfl
  have F8 := fun_mk (st := sPick) l8 c8 k8
  have g8 := PySem.W.mg_of X G a8
  have b8 := F8.binds (ps := ["pot", "many"]) fun _ _ _ _ _ _ us hl => match us, hl with | [_, _], _ => rfl
  have F9 := fun_mk (st := sLetters) l9 c9 k9
  have g9 := PySem.W.mg_of X G a9
  have b9 := F9.binds (ps := ["pot", "many"]) fun _ _ _ _ _ _ us hl => match us, hl with | [_, _], _ => rfl
  have F10 := fun_mk (st := sSheet) l10 c10 k10
  have g10 := PySem.W.mg_of X G a10
  have b10 := F10.binds (ps := ["pot", "most"]) fun _ _ _ _ _ _ us hl => match us, hl with | [_, _], _ => rfl
  have F11 := fun_mk (st := sOrder) l11 c11 k11
  have g11 := PySem.W.mg_of X G a11
  have b11 := F11.binds (ps := ["sheet"]) fun _ _ _ _ _ _ us hl => match us, hl with | [_], _ => rfl
  have F12 := fun_mk (st := sShut) l12 c12 k12
  have g12 := PySem.W.mg_of X G a12
  have b12 := F12.binds (ps := ["pot", "sheet", "most"]) fun _ _ _ _ _ _ us hl => match us, hl with | [_, _, _], _ => rfl
  have F13 := fun_mk (st := sAns) l13 c13 k13
  have g13 := PySem.W.mg_of X G a13
  have b13 := F13.binds (ps := ["sheet", "word"]) fun _ _ _ _ _ _ us hl => match us, hl with | [_, _], _ => rfl
  have F14 := fun_mk (st := sSame) l14 c14 k14
  have g14 := PySem.W.mg_of X G a14
  have b14 := F14.binds (ps := ["found", "due"]) fun _ _ _ _ _ _ us hl => match us, hl with | [_, _], _ => rfl
  have F15 := fun_mk (st := sWord) l15 c15 k15
  have g15 := PySem.W.mg_of X G a15
  have b15 := F15.binds (ps := ["pot", "sheet"]) fun _ _ _ _ _ _ us hl => match us, hl with | [_, _], _ => rfl
  have F16 := fun_mk (st := sDeep) l16 c16 k16
  have g16 := PySem.W.mg_of X G a16
  have b16 := F16.binds (ps := ["opens", "told"]) fun _ _ _ _ _ _ us hl => match us, hl with | [_, _], _ => rfl
  have F17 := fun_mk (st := sLaw) l17 c17 k17
  have g17 := PySem.W.mg_of X G a17
  have b17 := F17.binds (ps := ["script"]) fun _ _ _ _ _ _ us hl => match us, hl with | [_], _ => rfl
  have mlen := PySem.W.mg_none_of X G z0
  have mlist := PySem.W.mg_none_of X G z1
  have menumerate := PySem.W.mg_none_of X G z2
  have mrange := PySem.W.mg_none_of X G z3
  have mmin := PySem.W.mg_none_of X G z4
  have mtuple := PySem.W.mg_none_of X G z5
  have mmax := PySem.W.mg_none_of X G z6
  have misinstance := PySem.W.mg_none_of X G z7
  have mbool := PySem.W.mg_none_of X G z8
  have mstr := PySem.W.mg_none_of X G z9
  have mint := PySem.W.mg_none_of X G z10
  have mall := PySem.W.mg_none_of X G z11
  have mzip := PySem.W.mg_none_of X G z12
  refine ⟨PySem.W.fnOf "law" "law" (defArgs sLaw) (defBody sLaw) (defScope sLaw) .none kV17 dc17 pm17 an17 cd17 ct17, fun s v => .of_eq rfl, fun base _ _ => ?_⟩
  have G__law_pick : FnOk l.prog w K mg base CX0 2 _ _ _ spPick := ok_pick (k := 0) F8 F6 b6 g6 mlen
  have G__law_letters : FnOk l.prog w K mg base CX0 3 _ _ _ spLetters := ok_letters (k := 1) F9 F8 G__law_pick b8 g8 mlen mrange
  have G__law_sheet : FnOk l.prog w K mg base CX0 4 _ _ _ spSheet := ok_sheet (k := 1) F10 F8 G__law_pick b8 g8 F9 G__law_letters b9 g9 mmin mtuple
  have G__law_order : FnOk l.prog w K mg base CX0 2 _ _ _ spOrder := ok_order (k := 1) F11 mlist
  have G__law_shut : FnOk l.prog w K mg base CX0 3 _ _ _ spShut := ok_shut (k := 1) F12 F8 G__law_pick b8 g8 mlen mrange
  have G__law_word : FnOk l.prog w K mg base CX0 4 _ _ _ spWord := ok_word (k := 1) F15 F8 G__law_pick b8 g8 F11 G__law_order b11 g11 F12 G__law_shut b12 g12 mlen mrange
  have G__law_pot : FnOk l.prog w K mg base CX0 4 _ _ _ (spPot K) := ok_pot (k := 3) F7 mlist menumerate
  have G__law_answers : FnOk l.prog w K mg base CX0 4 _ _ _ (spAnswers K) := ok_ans (k := 3) F13 mlen mrange
  have G_need_word : FnOk l.prog w K mg base CX0 3 _ _ _ (spNeedWord K) := ok_needWord (k := 1) F1 F0 b0 g0 menumerate
  have G_need_word2 : FnOk l.prog w K mg base CX0 2 _ _ _ (spNeedWord K) := ok_needWord (k := 0) F1 F0 b0 g0 menumerate
  have G_answers : FnOk l.prog w K mg base CX0 4 _ _ _ (spAnswers K) := ok_answers (k := 2) F2 F1 G_need_word b1 g1 mlen menumerate
  have G_answers3 : FnOk l.prog w K mg base CX0 3 _ _ _ (spAnswers K) := ok_answers (k := 1) F2 F1 G_need_word2 b1 g1 mlen menumerate
  have G_alone : FnOk l.prog w K mg base CX0 3 _ _ _ (spAlone K) := ok_alone (k := 2) F3 mlen mrange
  have G_is_shut : FnOk l.prog w K mg base CX0 4 _ _ _ (spWordV K _) := ok_isShut (k := 2) F4 F2 G_answers3 b2 g2 F3 G_alone b3 g3
  have G_depth_of : FnOk l.prog w K mg base CX0 4 _ _ _ (spWordV K _) := ok_depthOf (k := 2) F5 F1 G_need_word b1 g1 mmax
  have SK : SameK mg := ⟨misinstance, mbool, mstr, mint, mtuple, mlist, mlen, mall, mzip⟩
  have G_same0 : FnOk l.prog w K mg base CX0 4 _ _ _ spSame0 := ok_same0 (k := 3) F14 SK
  have G_same1 : FnOk l.prog w K mg base CX0 4 _ _ _ spSame1 := ok_same1 (k := 2) F14 SK b14 g14
  have G__law_deep : FnOk l.prog w K mg base CX0 4 _ _ _ (spDeep K) := ok_deep (k := 3) F16 mlen mrange mmax
  exact ok_law F17 F7 G__law_pot b7 g7 F10 G__law_sheet b10 g10 F15 G__law_word b15 g15 F13 G__law_answers b13 g13 F2 G_answers b2 g2 F14 G_same0 G_same1 b14 g14 F4 G_is_shut b4 g4 F5 G_depth_of b5 g5 F16 G__law_deep b16 g16 mlen mrange mlist
end Eh
open PySem PySem.W PyProof.Rows
set_option maxHeartbeats 0 in
theorem PySem.Challenge.cw_echohall_k03_answers_and_depth_holds : PySem.Challenge.rw_echohall_k03_answers_and_depth.Holds := by
  w_on; o_law; k_head; (case hw => w_witness2)
  k_fill
  refine L2.walk_of (l := PySem.Challenge.rw_echohall_k03_answers_and_depth) (n := 63) (k := 5) (x := "script") (CX := fun _ => L2.CX0) (sp := fun w => Eh.spLaw _) rfl (by decide) rfl ⟨rfl, by decide, by decide⟩ (fun w h Y => PySem.W.kIn_of Y) ?F (fun _ _ a ns hl _ hS => ⟨a, ns, rfl, hS, hl, fun _ => rfl⟩) (fun _ _ _ _ _ h => h)
  case F =>
    intro w mg fa h KX G hmg
    refine' Eh.all_mk KX G hmg ?a0 ?l0 ?c0 ?k0 ?a1 ?l1 ?c1 ?k1 ?a2 ?l2 ?c2 ?k2 ?a3 ?l3 ?c3 ?k3 ?a4 ?l4 ?c4 ?k4 ?a5 ?l5 ?c5 ?k5 ?a6 ?l6 ?c6 ?k6 ?a7 ?l7 ?c7 ?k7 ?a8 ?l8 ?c8 ?k8 ?a9 ?l9 ?c9 ?k9 ?a10 ?l10 ?c10 ?k10 ?a11 ?l11 ?c11 ?k11 ?a12 ?l12 ?c12 ?k12 ?a13 ?l13 ?c13 ?k13 ?a14 ?l14 ?c14 ?k14 ?a15 ?l15 ?c15 ?k15 ?a16 ?l16 ?c16 ?k16 ?a17 ?l17 ?c17 ?k17 ?z0 ?z1 ?z2 ?z3 ?z4 ?z5 ?z6 ?z7 ?z8 ?z9 ?z10 ?z11 ?z12
    (case a0 => k_is); (case l0 => k_is); (case c0 => k_is); (case k0 => k_is); (case a1 => k_is); (case l1 => k_is); (case c1 => k_is); (case k1 => k_is); (case a2 => k_is); (case l2 => k_is); (case c2 => k_is); (case k2 => k_is); (case a3 => k_is); (case l3 => k_is); (case c3 => k_is); (case k3 => k_is); (case a4 => k_is); (case l4 => k_is); (case c4 => k_is); (case k4 => k_is); (case a5 => k_is); (case l5 => k_is); (case c5 => k_is); (case k5 => k_is); (case a6 => k_is); (case l6 => k_is); (case c6 => k_is); (case k6 => k_is); (case a7 => k_is); (case l7 => k_is); (case c7 => k_is); (case k7 => k_is); (case a8 => k_is); (case l8 => k_is); (case c8 => k_is); (case k8 => k_is); (case a9 => k_is); (case l9 => k_is); (case c9 => k_is); (case k9 => k_is); (case a10 => k_is); (case l10 => k_is); (case c10 => k_is); (case k10 => k_is); (case a11 => k_is); (case l11 => k_is); (case c11 => k_is); (case k11 => k_is); (case a12 => k_is); (case l12 => k_is); (case c12 => k_is); (case k12 => k_is); (case a13 => k_is); (case l13 => k_is); (case c13 => k_is); (case k13 => k_is); (case a14 => k_is); (case l14 => k_is); (case c14 => k_is); (case k14 => k_is); (case a15 => k_is); (case l15 => k_is); (case c15 => k_is); (case k15 => k_is); (case a16 => k_is); (case l16 => k_is); (case c16 => k_is); (case k16 => k_is); (case a17 => k_is); (case l17 => k_is); (case c17 => k_is); (case k17 => k_is); (case z0 => k_is); (case z1 => k_is); (case z2 => k_is); (case z3 => k_is); (case z4 => k_is); (case z5 => k_is); (case z6 => k_is); (case z7 => k_is); (case z8 => k_is); (case z9 => k_is); (case z10 => k_is); (case z11 => k_is); (case z12 => k_is)
