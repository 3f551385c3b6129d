import PyProof.Rows.All
import Wide.All
import OpenK.AllK
import Wide.FinOn
import HandS.ForMost
import HandS.Evl
import HandS.GenList
import HandS.AnyAll
import HandS.IsInst
import HandS.Strs
import KE.LtSeq
import HandS.RaiseMore
import HandS.FStrTup
import HandS.Flow
import HandS.TupAny
import HandS.More
import HandS.Codes
import HandS.EndBits
import HandS.EndTab
import HandS.EndOwn
import HandS.Style
import PySem.Challenge.RW_echohall_k63_what_is_a_saying
set_option Elab.async false
set_option linter.all false
set_option maxRecDepth 100000
set_option maxHeartbeats 4000000
namespace Eh
open PySem PySem.Spec PyProof.Rows L2 Evl
def topS (i : Nat) : Stmt := PySem.Challenge.pw_echohall_k63_what_is_a_saying.main.body.getD i (.Pass ⟨0, 0, 0, 0⟩)
abbrev sIsForm : Stmt := topS 4
abbrev sIsSaying : Stmt := topS 5
abbrev sBlend : Stmt := topS 7
abbrev sPot : Stmt := topS 8
abbrev sPick : Stmt := topS 9
abbrev sLetters : Stmt := topS 10
abbrev sSheet : Stmt := topS 11
abbrev sOrder : Stmt := topS 12
abbrev sSame : Stmt := topS 13
abbrev sLawSaying : Stmt := topS 14
abbrev sLawHeadRight : Stmt := topS 15
abbrev sLawDue : Stmt := topS 16
abbrev sLawBent : Stmt := topS 17
abbrev sLawAtBounds : Stmt := topS 18
abbrev sLaw : Stmt := topS 19
theorem scBlend : FnScope ["cell", "at", "one", "two", "three"] ["cell", "at"] (defScope sBlend) := ⟨rfl, rfl, rfl, by decide +kernel, rfl, by decide +kernel, by decide +kernel⟩
theorem scPot : FnScope ["script", "cells", "k", "cell"] ["script"] (defScope sPot) := ⟨rfl, rfl, rfl, by decide +kernel, rfl, by decide +kernel, by decide +kernel⟩
theorem scPick : FnScope ["pot", "many", "at", "cell", "found"] ["pot", "many"] (defScope sPick) := ⟨rfl, rfl, rfl, by decide +kernel, rfl, by decide +kernel, by decide +kernel⟩
theorem scLetters : FnScope ["pot", "many", "small", "k", "rest", "spot", "turn", "size", "found", "part", "at"] ["pot", "many"] (defScope sLetters) := ⟨rfl, rfl, rfl, by decide +kernel, rfl, by decide +kernel, by decide +kernel⟩
theorem scSheet : FnScope ["pot", "most", "letters", "turn", "opens", "plains", "closes"] ["pot", "most"] (defScope sSheet) := ⟨rfl, rfl, rfl, by decide +kernel, rfl, by decide +kernel, by decide +kernel⟩
theorem scOrder : FnScope ["sheet"] ["sheet"] (defScope sOrder) := ⟨rfl, rfl, rfl, by decide +kernel, rfl, by decide +kernel, by decide +kernel⟩
end Eh
set_option Elab.async false
set_option linter.all false
set_option maxRecDepth 100000
set_option maxHeartbeats 4000000
namespace Eh
open PySem PySem.Spec PyProof.Rows L2 Evl
/-! heaps -/
def Keep (p : Addr) (H H' : Hp) : Prop := ∀ b o, b ≠ p → H b = some o → H' b = some o
theorem Keep.refl (p : Addr) (H : Hp) : Keep p H H := fun _ _ _ h => h
theorem Keep.trans {p : Addr} {H H1 H2 : Hp} (a : Keep p H H1) (b : Keep p H1 H2) : Keep p H H2 := fun x o n h => b x o n (a x o n h)
theorem Keep.ofEx {p : Addr} {H H' : Hp} (e : Ex H H') : Keep p H H' := fun b o _ h => e b o h
theorem Keep.new {p q : Addr} {H H' : Hp} {o : HO} (k : Keep p H H') (h : H q = none) : Keep p H (upd H' q o) := fun b u n e => by
  rw [upd_ne (ne_of_none e h)]
  exact k b u n e
theorem Keep.at {p : Addr} {H H' : Hp} {o : HO} (k : Keep p H H') : Keep p H (upd H' p o) := fun b u n e => by
  rw [upd_ne n]
  exact k b u n e
/-- the drawing pot: its cells stand still, how many were drawn and the rest change -/
def Pot (p c : Addr) (ns : List Int) (H : Hp) : Prop := ∃ a r : Int, 0 ≤ a ∧ H p = some (.lst [.ref c, .int a, .int r]) ∧ H c = some (.lst (ns.map V.int))
theorem Pot.ne {p c : Addr} {ns : List Int} {H : Hp} (h : Pot p c ns H) : c ≠ p := by
  obtain ⟨a, r, _, h1, h2⟩ := h
  intro e
  subst e
  have q : [V.ref c, .int a, .int r] = ns.map V.int := by
    have := h1.symm.trans h2
    injection this with this
    injection this
  cases ns with
  | nil => cases q
  | cons x t => cases q
theorem Pot.ex {p c : Addr} {ns : List Int} {H H' : Hp} (h : Pot p c ns H) (e : Ex H H') : Pot p c ns H' := by
  obtain ⟨a, r, h0, h1, h2⟩ := h
  exact ⟨a, r, h0, e _ _ h1, e _ _ h2⟩
theorem Pot.new {p c q : Addr} {ns : List Int} {H : Hp} {o : HO} (h : Pot p c ns H) (hp : p ≠ q) (hc : c ≠ q) : Pot p c ns (upd H q o) := by
  obtain ⟨a, r, h0, h1, h2⟩ := h
  exact ⟨a, r, h0, by rw [upd_ne hp]; exact h1, by rw [upd_ne hc]; exact h2⟩
section
variable {P : Program} {w : World} {K : PySem.W.Frag} {mg : Str → Option Value} {base : Heap}
def spBlend : Sp := fun vs H Q _ => ∃ x a : Int, vs = [.int x, .int a] ∧ ∀ v : Int, Q (.int v) H
theorem ok_blend {f : Addr} {fd : FuncData} {k : Nat} (F : Fun K "_law_blend" "_law_blend" sBlend f fd) : FnOk P w K mg base CX0 (k + 1) f fd ["cell", "at"] spBlend := by
  refine F.ok scBlend (fun vs H Q E h => ?_) (fun cdv A outer s H vs Q E hr h => ?_)
  · obtain ⟨x, a, rfl, _⟩ := h
    rfl
  · obtain ⟨x, a, rfl, q⟩ := h
    refine ⟨_, pss_cons (ps_if (pt_cmpR op_ge (pv 0) (pe_op op_pow pe_int pe_int) (nomark _)) (pss_one (ps_ret (pv 0))) pss_nil)
      (pss_cons (ps_set (i := 2) scBlend.nd rfl (.inl rfl) (pe_op op_mod (pe_op op_add (pe_op op_add (pe_op op_mul (pe_op op_mod (pv 0) pe_int) pe_int) (pe_op op_mul (pv 1) pe_int)) pe_int) pe_int))
      (pss_cons (ps_set (i := 3) scBlend.nd rfl (.inl rfl) (pe_op op_mod (pe_op op_add (pe_op op_add (pe_op op_mul (pv 2) (pv 2)) (pe_op op_mul (pv 1) pe_int)) (pe_op op_mod (pv 0) pe_int)) pe_int))
      (pss_cons (ps_set (i := 4) scBlend.nd rfl (.inl rfl) (pe_op op_mod (pe_op op_add (pe_op op_add (pe_op op_mul (pv 3) (pv 3)) (pe_op op_mul (pv 2) pe_int)) pe_int) pe_int))
      (pss_one (ps_ret (pe_op op_add (pe_op op_mul (pe_op op_add (pe_op op_mul (pv 2) pe_int) (pv 3)) pe_int) (pv 4))))))), ?_⟩
    refine ⟨_, rfl, 10, 18, rfl, rfl, ⟨by decide, by decide, by decide⟩, _, _, rfl, rfl, _, rfl, ite2 (fun e => ?_) (fun e => ?_)⟩
    · exact ⟨_, rfl, q _⟩
    · have big : ∀ j : Int, 0 < j → j < 4294967296 → ∀ y : Int, CMul (y % j) (y % j) := fun j h0 h1 y => .inl ⟨by have := Int.emod_nonneg y (show j ≠ 0 by omega); omega, by have := Int.emod_lt_of_pos y h0; omega⟩
      refine ⟨_, rfl, _, _, rfl, rfl, (by show (0 : Int) < _; decide), _, _, rfl, rfl, .inr ⟨by decide, by decide⟩, _, rfl, _, _, rfl, rfl, .inr ⟨by decide, by decide⟩, _, _, rfl, rfl, _, _, rfl, rfl, _, _, rfl, rfl, (by show (0 : Int) < _; decide), ?_⟩
      refine ⟨_, rfl, _, rfl, _, _, rfl, rfl, big _ (by decide) (by decide) _, _, rfl, _, _, rfl, rfl, .inr ⟨by decide, by decide⟩, _, _, rfl, rfl, _, rfl, _, _, rfl, rfl, (by show (0 : Int) < _; decide), _, _, rfl, rfl, _, _, rfl, rfl, (by show (0 : Int) < _; decide), ?_⟩
      refine ⟨_, rfl, _, rfl, _, _, rfl, rfl, big _ (by decide) (by decide) _, _, rfl, _, _, rfl, rfl, .inr ⟨by decide, by decide⟩, _, _, rfl, rfl, _, _, rfl, rfl, _, _, rfl, rfl, (by show (0 : Int) < _; decide), ?_⟩
      exact ⟨_, rfl, _, _, rfl, rfl, .inr ⟨by decide, by decide⟩, _, rfl, _, _, rfl, rfl, _, _, rfl, rfl, .inr ⟨by decide, by decide⟩, _, rfl, _, _, rfl, rfl, q _⟩
end
end Eh
set_option Elab.async false
set_option linter.all false
set_option maxRecDepth 100000
set_option maxHeartbeats 4000000
namespace Eh
open PySem PySem.Spec PyProof.Rows L2 Evl
theorem dpInts {K : PySem.W.Frag} {H : Hp} : ∀ ns : List Int, DpAll K H (ns.map V.int) (ns.map PyData.int)
  | [] => .nil
  | n :: r => .cons (.int n) (dpInts r)
theorem layInts : ∀ ns : List Int, PyData.canLayAll0 (ns.map PyData.int) = true
  | [] => rfl
  | n :: r => by
    show (true && PyData.canLayAll0 (r.map PyData.int)) = true
    rw [layInts r]
    rfl
theorem deepInts : ∀ ns : List Int, PyData.depthAll (ns.map PyData.int) = 0
  | [] => rfl
  | n :: r => by
    show max 0 (PyData.depthAll (r.map PyData.int)) = 0
    rw [deepInts r]
    rfl
theorem shapedInts (ns : List Int) : SeqAt.shaped (.list (ns.map PyData.int)) = true := by
  unfold SeqAt.shaped
  have h1 : PyData.canLay0 (.list (ns.map PyData.int)) = true := layInts ns
  have h2 : PyData.depth (.list (ns.map PyData.int)) = 1 := by
    show PyData.depthAll (ns.map PyData.int) + 1 = 1
    rw [deepInts]
  rw [h1, h2]
  rfl
theorem shapedNil : SeqAt.shaped (.list []) = true := by decide +kernel
section
variable {P : Program} {w : World} {K : PySem.W.Frag} {mg : Str → Option Value} {base : Heap}
def spPick : Sp := fun vs H Q _ => ∃ (p c : Addr) (ns : List Int) (m : Int), vs = [.ref p, .int m] ∧ 0 < m ∧ m < 1073741824 ∧ Pot p c ns H ∧ ∀ (v : Nat) H', (v : Int) < m → Keep p H H' → Pot p c ns H' → Q (.int v) H'
theorem ok_pick {f fB : Addr} {fd fdB : FuncData} {k : Nat} (F : Fun K "_law_pick" "_law_pick" sPick f fd) (FB : Fun K "_law_blend" "_law_blend" sBlend fB fdB) (bB : Binds K fdB ["cell", "at"] []) (gB : mg "_law_blend" = some (.ref fB)) (ml : mg "len" = none) :
    FnOk P w K mg base CX0 (k + 2) f fd ["pot", "many"] spPick := by
  have GB : FnOk P w K mg base CX0 (k + 1) fB fdB ["cell", "at"] spBlend := ok_blend FB
  have nd := scPick.nd
  refine F.ok scPick (fun vs H Q E h => ?_) (fun cdv A outer s H vs Q E hr h => ?_)
  · obtain ⟨p, c, ns, m, rfl, _⟩ := h
    rfl
  · obtain ⟨p, c, ns, m, rfl, m0, m1, hP, q⟩ := h
    refine ⟨_, pss_cut (ps_if (pt_cmpR op_lt (pe_ix ix_list (pv 0) pe_int (fun _ _ => rfl)) (pv 1) (nomark _))
       (pss_cons (ps_set (i := 2) nd rfl (.inl rfl) (pe_ix ix_list (pv 0) pe_int (fun _ _ => rfl)))
       (pss_cons (ps_set (i := 3) nd rfl (.inl rfl) (pe_op op_mul pe_int (pv 2)))
       (pss_cut (ps_if (pt_cmpR op_lt (pv 2) (pe_callB call_len_seq (by rfl) ml PySem.boot_len (pa_cons (pe_ix ix_list (pv 0) pe_int (fun _ _ => rfl)) pa_nil)) (nomark _))
            (pss_one (ps_set (i := 3) nd rfl (.inl rfl) (pe_ix ix_list (pe_ix ix_list (pv 0) pe_int (fun _ _ => rfl)) (pv 2) (fun _ _ => rfl))))
            (pss_one (ps_if (pt_cmpR (op_neD hr.units) (pe_ix ix_list (pv 0) pe_int (fun _ _ => rfl)) (pe_lst pa_nil) (nomark _))
              (pss_one (ps_set (i := 3) nd rfl (.inl rfl) (pe_op op_mod (pe_ix ix_list (pe_ix ix_list (pv 0) pe_int (fun _ _ => rfl)) (pe_op op_mod (pe_op op_add (pe_op op_mul (pv 2) pe_int) pe_int) (pe_callB call_len_seq (by rfl) ml PySem.boot_len (pa_cons (pe_ix ix_list (pv 0) pe_int (fun _ _ => rfl)) pa_nil))) (fun _ _ => rfl)) (pe_op op_add (pe_op op_pow pe_int pe_int) (pe_op op_mul pe_int (pv 2)))))) pss_nil)))
       (pss_cons (ps_asg (pe_op op_add (pv 2) pe_int) (pg_sub (pv 0) pe_int set_list))
       (pss_one (ps_asg (pe_call GB hr (by rfl) gB FB.kp bB .nil pass0 (pa_cons (pv 3) (pa_cons (pv 2) pa_nil))) (pg_sub (pv 0) pe_int set_list)))))))
       pss_nil)
      (pss_cons (ps_set (i := 4) nd rfl (.inl rfl) (pe_op op_mod (pe_ix ix_list (pv 0) pe_int (fun _ _ => rfl)) (pv 1)))
      (pss_cons (ps_asg (pe_op op_fdiv (pe_ix ix_list (pv 0) pe_int (fun _ _ => rfl)) (pv 1)) (pg_sub (pv 0) pe_int set_list))
      (pss_one (ps_ret (pv 4))))), ?_⟩
    have hne := hP.ne
    obtain ⟨a, r, a0, hp, hc⟩ := hP
    refine ⟨fun σ' H' => (∃ y2 y3, σ' = [some (.ref p), some (.int m), y2, y3, none]) ∧ Keep p H H' ∧ Pot p c ns H', ?_, ?_⟩
    · refine ⟨_, rfl, p, _, 2, .int r, rfl, rfl, sq_of hp, rfl, _, rfl, _, _, rfl, rfl, _, rfl, ite2 (fun e => ?_) (fun e => ?_)⟩
      · refine ⟨_, rfl, p, _, 1, .int a, rfl, rfl, sq_of hp, rfl, ?_⟩
        refine ⟨_, rfl, _, _, rfl, rfl, .inl ⟨by decide, by decide⟩, ?_⟩
        refine ⟨fun σ' H' => ∃ y3 : Int, σ' = [some (.ref p), some (.int m), some (.int a), some (.int y3), none] ∧ Ex H H', ?_, ?_⟩
        · refine ⟨_, rfl, _, rfl, p, _, 0, .ref c, rfl, rfl, sq_of hp, rfl, c, _, rfl, .inl (sq_of hc), _, _, rfl, rfl, _, rfl, ite2 (fun e => ?_) (fun e => ?_)⟩
          · have ha : a < (ns.map V.int).length := of_decide_eq_true e
            have hb : a.toNat < ns.length := by
              rw [List.length_map] at ha
              omega
            refine ⟨_, rfl, p, _, 0, .ref c, rfl, rfl, sq_of hp, rfl, _, rfl, c, _, a, .int ns[a.toNat], rfl, rfl, sq_of hc, at_of (j := a.toNat) (by omega) ?_, _, rfl, Ex.refl _⟩
            rw [List.getElem?_map, List.getElem?_eq_getElem hb]
            rfl
          · refine ⟨_, rfl, p, _, 0, .ref c, rfl, rfl, sq_of hp, rfl, Nat.zero_le _, fun u hu => ?_⟩
            have e1 : Ex H (upd H u (.lst [])) := Ex.new hu
            refine ⟨.list (ns.map PyData.int), .list [], .lst (sq_of (e1 _ _ hc)) (dpInts ns), .lst (sq_of upd_same) .nil, shapedInts ns, shapedNil, _, rfl, ite2 (fun e => ?_) (fun e => ?_)⟩
            · have h0 : 0 < ns.length := by
                cases ns with
                | nil => exact absurd e (by decide)
                | cons x t => exact Nat.succ_pos _
              have hl : (0 : Int) < ((ns.map V.int).length : Int) := by
                rw [List.length_map]
                omega
              have g0 := Int.emod_nonneg (a * 7 + 1) (show ((ns.map V.int).length : Int) ≠ 0 by omega)
              have g1 := Int.emod_lt_of_pos (a * 7 + 1) hl
              have hb : ((a * 7 + 1) % ((ns.map V.int).length : Int)).toNat < ns.length := by
                rw [List.length_map] at g0 g1 ⊢
                omega
              refine ⟨_, rfl, p, _, 0, .ref c, rfl, rfl, sq_of (e1 _ _ hp), rfl, _, rfl, _, _, rfl, rfl, .inr ⟨by decide, by decide⟩, _, _, rfl, rfl, _, rfl, p, _, 0, .ref c, rfl, rfl, sq_of (e1 _ _ hp), rfl, c, _, rfl, .inl (sq_of (e1 _ _ hc)), _, _, rfl, rfl, hl, c, _, _, .int ns[((a * 7 + 1) % ((ns.map V.int).length : Int)).toNat], rfl, rfl, sq_of (e1 _ _ hc), at_of (j := ((a * 7 + 1) % ((ns.map V.int).length : Int)).toNat) (by omega) ?_, _, _, rfl, rfl, ⟨by decide, by decide, by decide⟩, _, rfl, _, _, rfl, rfl, .inl ⟨by decide, by decide⟩, _, _, rfl, rfl, _, _, rfl, rfl, ?_, _, rfl, e1⟩
              · rw [List.getElem?_map, List.getElem?_eq_getElem hb]
                rfl
              · show (0 : Int) < 10 ^ (17 : Int).toNat + 3 * a
                have : (10 : Int) ^ (17 : Int).toNat = 100000000000000000 := by decide
                omega
            · exact ⟨_, rfl, e1⟩
        · rintro σ' H' ⟨y3, rfl, e1⟩
          refine ⟨_, rfl, _, _, rfl, rfl, _, rfl, p, _, 1, 1, rfl, rfl, e1 _ _ hp, rfl, ?_⟩
          refine ⟨_, rfl, _, rfl, _, _, rfl, fun v => ⟨_, rfl, p, _, 2, 2, rfl, rfl, upd_same, rfl, ⟨_, _, rfl⟩, ?_, a + 1, v, by omega, upd_same, ?_⟩⟩
          · exact ((Keep.ofEx e1).at).at
          · rw [upd_ne hne, upd_ne hne]
            exact e1 _ _ hc
      · exact ⟨⟨_, _, rfl⟩, Keep.refl _ _, a, r, a0, hp, hc⟩
    · rintro σ' H' ⟨⟨y2, y3, rfl⟩, kp, a', r', a0', hp', hc'⟩
      have g0 := Int.emod_nonneg r' (show m ≠ 0 by omega)
      have g1 := Int.emod_lt_of_pos r' m0
      refine ⟨_, rfl, p, _, 2, .int r', rfl, rfl, sq_of hp', rfl, _, rfl, _, _, rfl, rfl, m0, ?_⟩
      refine ⟨_, rfl, p, _, 2, .int r', rfl, rfl, sq_of hp', rfl, _, rfl, _, _, rfl, rfl, ⟨m0, m1⟩, _, rfl, p, _, 2, 2, rfl, rfl, hp', rfl, ?_⟩
      refine ⟨_, rfl, ?_⟩
      have e : r' % m = ((r' % m).toNat : Int) := by omega
      show Q (.int (r' % m)) _
      rw [e]
      refine q _ _ (by omega) kp.at ⟨a', r' / m, a0', upd_same, ?_⟩
      rw [upd_ne hne]
      exact hc'
end
end Eh
set_option Elab.async false
set_option linter.all false
set_option maxRecDepth 100000
set_option maxHeartbeats 4000000
namespace Eh
open PySem PySem.Spec PyProof.Rows L2 Evl
/-- for i, x in enumerate(list) -/
theorem for_enum {K : PySem.W.Frag} {a : Addr} {xs : List V} {tb : TS} {D : Ends} {σ : L2.St} {H : Hp} {i1 i2 : Nat} (Pv : Nat → L2.St → Hp → Prop) (h0 : Pv 0 σ H) (hl : ∀ i σ H, i ≤ xs.length → Pv i σ H → SqL K H a xs)
    (hs : ∀ i x σ H T, xs[i]? = some x → Pv i σ H → H T = none → tb { D with nx := Pv (i + 1), ct := Pv (i + 1), bk := D.nx } ((σ.set i1 (some (.int (i : Nat)))).set i2 (some x)) (upd H T (.tup [.int (i : Nat), x])))
    (hd : ∀ σ H, Pv xs.length σ H → D.nx σ H) :
    ∃ W : Nat → Nat → L2.St → Hp → Prop, (∃ m, W 0 m σ H) ∧ ∀ i m σ H, W i m σ H →
      ((Ite K a).stop i H ∧ D.nx σ H) ∨ ((Ite K a).go i H ∧ ∃ N : L2.St → Hp → Prop, (∀ σ' H', N σ' H' → ∃ m', m' < m ∧ W (i + 1) m' σ' H') ∧ ∀ x H', (Ite K a).yld i H x H' → gTup K 2 (gCons (gName i1) (gCons (gName i2) gNil)) x σ H' fun σ2 H2 => tb { D with nx := N, ct := N, bk := D.nx } σ2 H2) := by
  refine ⟨fun i m σ H => m = xs.length - i ∧ i ≤ xs.length ∧ Pv i σ H, ⟨xs.length, by omega, Nat.zero_le _, h0⟩, ?_⟩
  rintro i m σ H ⟨rfl, hi, p⟩
  have q := hl i σ H hi p
  by_cases hlt : i < xs.length
  · refine .inr ⟨⟨xs, xs[i], q, List.getElem?_eq_getElem hlt⟩, Pv (i + 1), fun σ' H' p' => ⟨xs.length - (i + 1), by omega, rfl, hlt, p'⟩, fun v H' y => ?_⟩
    obtain ⟨T, x, rfl, nT, rfl, f⟩ := y
    exact ⟨T, [.int (i : Nat), x], rfl, st_of upd_same, rfl, _, _, rfl, _, _, rfl, rfl, hs i x σ H T (f xs q) p nT⟩
  · have e : i = xs.length := by omega
    subst e
    exact .inl ⟨⟨xs, q, Nat.le_refl _⟩, hd σ H p⟩
theorem cut0 (xs : List V) (n : Nat) : cutV xs none (some (n : Int)) = xs.take n := by
  unfold cutV
  rw [HT.sIx_none, HT.sIx_nat, List.drop_zero, Nat.sub_zero]
  rw [List.take_eq_take_iff]
  omega
theorem cutF (xs : List V) (n : Nat) : cutV xs (some (n : Int)) none = xs.drop n := by
  unfold cutV
  rw [HT.sIx_none, HT.sIx_nat]
  by_cases h : n ≤ xs.length
  · rw [Nat.min_eq_left h]
    exact List.take_of_length_le (by rw [List.length_drop]; exact Nat.le_refl _)
  · rw [Nat.min_eq_right (by omega), List.drop_of_length_le (Nat.le_refl _), List.drop_of_length_le (by omega)]
    exact List.take_nil
theorem cutLH (xs : List V) (n m : Nat) : cutV xs (some (n : Int)) (some (m : Int)) = (xs.take m).drop n := by
  unfold cutV
  rw [HT.sIx_nat, HT.sIx_nat, List.drop_take]
  by_cases h : n ≤ xs.length
  · rw [Nat.min_eq_left h, List.take_eq_take_iff, List.length_drop]
    omega
  · rw [Nat.min_eq_right (show xs.length ≤ n by omega), List.drop_of_length_le (Nat.le_refl _), List.drop_of_length_le (show xs.length ≤ n by omega), List.take_nil, List.take_nil]
section
variable {P : Program} {w : World} {K : PySem.W.Frag} {mg : Str → Option Value} {base : Heap}
def spPot (K : PySem.W.Frag) : Sp := fun vs H Q _ => ∃ (a : Addr) (ns : List Int), vs = [.ref a] ∧ SqL K H a (ns.map V.int) ∧ ns.length ≤ 63 ∧ ∀ (p c : Addr) (ms : List Int) H', Ex H H' → Pot p c ms H' → H p = none → H c = none → Q (.ref p) H'
theorem ok_pot {f : Addr} {fd : FuncData} {k : Nat} (F : Fun K "_law_pot" "_law_pot" sPot f fd) (ml : mg "list" = none) (me : mg "enumerate" = none) :
    FnOk P w K mg base CX0 (k + 1) f fd ["script"] (spPot K) := by
  have nd := scPot.nd
  refine F.ok scPot (fun vs H Q E h => ?_) (fun cdv A outer s H vs Q E hr h => ?_)
  · obtain ⟨a, ns, rfl, _⟩ := h
    rfl
  · obtain ⟨a, ns, rfl, hS, hl, q⟩ := h
    refine ⟨_, pss_cons (ps_set (i := 1) nd rfl (.inl rfl) (pe_callTy call_list_of (by rfl) ml (by decide +kernel) (pa_cons (pe_slice sl_list (pv 0) po_none (po_some pe_int)) pa_nil)))
      (pss_cons (ps_for PassesOwn.never rfl (pi_enum (by rfl) me (pa_cons (pe_slice sl_list (pv 0) (po_some pe_int) (po_some pe_int)) pa_nil)) (pg_tup rfl (pgs_cons (pg_name (i := 2) nd rfl (.inl rfl)) (pgs_cons (pg_name (i := 3) nd rfl (.inl rfl)) pgs_nil)))
         (pss_one (ps_asg (pe_op op_add (pe_ix ix_list (pv 1) (pe_op op_mod (pv 2) pe_int) (fun _ _ => rfl)) (pv 3)) (pg_sub (pv 1) (pe_op op_mod (pv 2) pe_int) set_list))))
      (pss_one (ps_ret (pe_lst (pa_cons (pv 1) (pa_cons pe_int (pa_cons pe_int pa_nil))))))), ?_⟩
    refine ⟨_, rfl, 12, rfl, a, _, rfl, hS, fun u hu => ⟨u, _, rfl, .inl (sq_of upd_same), fun c hc => ?_⟩⟩
    have hcu : c ≠ u := fun e => by
      rw [e, upd_same] at hc
      cases hc
    have hcH : H c = none := by rw [← hc, upd_ne hcu]
    have e1 : Ex H (upd (upd H u (.lst (cutV (ns.map V.int) none (some 12)))) c (.lst (cutV (ns.map V.int) none (some 12)))) := (Ex.new hu).trans (Ex.new hc)
    have ec : cutV (ns.map V.int) none (some 12) = (ns.take 12).map V.int := by
      rw [show (some 12 : Option Int) = some ((12 : Nat) : Int) from rfl, cut0, List.map_take]
    rw [ec] at e1
    rw [ec]
    generalize hH1 : upd (upd H u (.lst ((ns.take 12).map V.int))) c (.lst ((ns.take 12).map V.int)) = H1 at e1 ⊢
    have hc1 : H1 c = some (.lst ((ns.take 12).map V.int)) := by
      rw [← hH1]
      exact upd_same
    refine ⟨_, rfl, 12, rfl, 63, rfl, a, _, rfl, ex_l e1 hS, fun l nl => ?_⟩
    have es : cutV (ns.map V.int) (some 12) (some 63) = ((ns.take 63).drop 12).map V.int := by
      rw [show (some 12 : Option Int) = some ((12 : Nat) : Int) from rfl, show (some 63 : Option Int) = some ((63 : Nat) : Int) from rfl, cutLH, List.map_drop, List.map_take]
    rw [es]
    have nlc : l ≠ c := fun e => by
      rw [e, hc1] at nl
      cases nl
    refine ⟨l, _, rfl, sq_of upd_same, for_enum (xs := ((ns.take 63).drop 12).map V.int) (fun i σ H' => (∃ y2 y3, σ = [some (.ref a), some (.ref c), y2, y3]) ∧ Ex H H' ∧ H' l = some (.lst (((ns.take 63).drop 12).map V.int)) ∧ ∃ ms : List Int, ms.length = min 12 ns.length ∧ H' c = some (.lst (ms.map V.int))) ?_ ?_ ?_ ?_⟩
    · refine ⟨⟨_, _, rfl⟩, e1.trans (Ex.new nl), upd_same, ns.take 12, ?_, ?_⟩
      · rw [List.length_take]
      · rw [upd_ne nlc.symm]
        exact hc1
    · rintro i σ H' _ ⟨_, _, h, _⟩
      exact sq_of h
    · rintro i x σ H' T hx ⟨⟨y2, y3, rfl⟩, eH, hl', ms, hms, hc'⟩ nT
      have ex : ∃ z : Int, x = .int z := by
        rw [List.getElem?_map] at hx
        obtain ⟨z, _, e⟩ := Option.map_eq_some_iff.mp hx
        exact ⟨z, e.symm⟩
      obtain ⟨z, rfl⟩ := ex
      have hi : 12 < ns.length := by
        have := (List.getElem?_eq_some_iff.mp hx).1
        rw [List.length_map, List.length_drop, List.length_take] at this
        omega
      have g0 : ((i : Int) % 12) = ((i % 12 : Nat) : Int) := by omega
      have hj : i % 12 < ms.length := by
        rw [hms]
        have := Nat.mod_lt i (show 0 < 12 by decide)
        omega
      have eT : Ex H' (upd H' T (.tup [.int (i : Nat), .int z])) := Ex.new nT
      have ix : (ms.map V.int)[i % 12]? = some (.int ms[i % 12]) := by
        rw [List.getElem?_map, List.getElem?_eq_getElem hj]
        rfl
      refine ⟨_, rfl, _, rfl, _, _, rfl, rfl, (by show (0 : Int) < _; decide), c, _, _, _, rfl, rfl, sq_of (eT _ _ hc'), at_of (j := i % 12) g0 ix, _, rfl, _, _, rfl, rfl, _, rfl, _, rfl, _, _, rfl, rfl, (by show (0 : Int) < _; decide), c, _, _, i % 12, rfl, rfl, eT _ _ hc', ?_, ⟨_, _, rfl⟩, ?_, ?_, ms.set (i % 12) (ms[i % 12] + z), ?_, ?_⟩
      · show ixN _ ((i : Int) % 12) = _
        rw [g0]
        exact ixN_nat (by rw [List.length_map]; exact hj)
      · exact Ex.mut (eH.trans eT) hcH
      · rw [upd_ne nlc]
        exact eT _ _ hl'
      · rw [List.length_set]
        exact hms
      · rw [upd_same, List.map_set]
    · rintro σ H' ⟨⟨y2, y3, rfl⟩, eH, hl', ms, hms, hc'⟩
      refine ⟨_, rfl, (by show 3 ≤ sizeLine; decide), fun p np => q p c ms _ (eH.trans (Ex.new np)) ⟨0, 0, by decide, upd_same, ?_⟩ (fresh_back eH np) hcH⟩
      have : c ≠ p := fun e => by
        rw [← e, hc'] at np
        cases np
      rw [upd_ne this]
      exact hc'
end
end Eh
set_option Elab.async false
set_option linter.all false
set_option maxRecDepth 100000
set_option maxHeartbeats 4000000
namespace Eh
open PySem PySem.Spec PyProof.Rows L2 Evl TL
/-! texts as lists of codes -/
abbrev cs (w : Str) : List Nat := w.cps.toList
theorem cs_ext {x y : Str} (h : cs x = cs y) : x = y := by
  cases x with | mk a => cases y with | mk b =>
  have : a = b := by
    apply Array.ext'
    exact h
  rw [this]
def az (c : Nat) : Prop := 97 ≤ c ∧ c < 123
/-- what is drawn as a letter -/
def Ltr (w : Str) : Prop := (∀ c ∈ cs w, az c) ∧ 1 ≤ (cs w).length ∧ (cs w).length ≤ 8
def spotAt (spot n : Nat) : Nat := if spot = 0 then 0 else if spot = 1 then n else n / 2
def mkL (rest : List Nat) (spot turn size k : Nat) : List Nat :=
  (rest.take ((size + k * (spot % 2)) % 8)).take (spotAt spot (rest.take ((size + k * (spot % 2)) % 8)).length) ++ ([97 + (turn + 5 * k) % 26] ++ (rest.take ((size + k * (spot % 2)) % 8)).drop (spotAt spot (rest.take ((size + k * (spot % 2)) % 8)).length))
theorem mkL_inj {rest : List Nat} {spot turn size k1 k2 : Nat} (hs : spot < 3) (h1 : k1 < 26) (h2 : k2 < 26) (h : mkL rest spot turn size k1 = mkL rest spot turn size k2) : k1 = k2 := by
  have key : 97 + (turn + 5 * k1) % 26 = 97 + (turn + 5 * k2) % 26 → k1 = k2 := fun e => by omega
  apply key
  unfold mkL at h
  have cases3 : spot = 0 ∨ spot = 1 ∨ spot = 2 := by omega
  rcases cases3 with rfl | rfl | rfl
  · simp only [spotAt, if_true, List.take_zero, List.nil_append, List.cons_append] at h
    exact (List.cons.inj h).1
  · have n1 : ∀ l : List Nat, spotAt 1 l.length = l.length := fun l => rfl
    rw [n1, n1, List.take_length, List.take_length, List.drop_length, List.drop_length, List.append_nil, List.append_nil] at h
    exact (List.cons.inj (List.append_inj' h rfl).2).1
  · rw [show k1 * (2 % 2) = 0 from Nat.mul_zero _, show k2 * (2 % 2) = 0 from Nat.mul_zero _] at h
    have := List.append_cancel_left h
    exact (List.cons.inj this).1
theorem mkL_len {rest : List Nat} {spot turn size k : Nat} : (mkL rest spot turn size k).length = (rest.take ((size + k * (spot % 2)) % 8)).length + 1 := by
  unfold mkL
  generalize rest.take ((size + k * (spot % 2)) % 8) = l
  rw [List.length_append, List.length_append, List.length_take, List.length_drop, List.length_singleton]
  omega
theorem mkL_az {rest : List Nat} {spot turn size k : Nat} (h : ∀ c ∈ rest, az c) : ∀ c ∈ mkL rest spot turn size k, az c := by
  intro c hc
  unfold mkL at hc
  rcases List.mem_append.mp hc with q | q
  · exact h c (List.mem_of_mem_take (List.mem_of_mem_take q))
  · rcases List.mem_append.mp q with q | q
    · rw [List.mem_singleton.mp q]
      unfold az
      omega
    · exact h c (List.mem_of_mem_take (List.mem_of_mem_drop q))
def mkS (rest : List Nat) (spot turn size k : Nat) : Str := ⟨(mkL rest spot turn size k).toArray⟩
theorem cs_mkS {rest : List Nat} {spot turn size k : Nat} : cs (mkS rest spot turn size k) = mkL rest spot turn size k := rfl
def mkAll (rest : List Nat) (spot turn size n : Nat) : List Str := (List.range n).map (mkS rest spot turn size)
theorem mkAll_nodup {rest : List Nat} {spot turn size n : Nat} (hs : spot < 3) (hn : n ≤ 26) : (mkAll rest spot turn size n).Nodup := by
  unfold mkAll
  rw [List.Nodup, List.pairwise_map]
  refine List.Pairwise.imp_of_mem (fun {a b} ha hb hab e => hab ?_) (List.nodup_range (n := n))
  have ha' := List.mem_range.mp ha
  have hb' := List.mem_range.mp hb
  exact mkL_inj hs (by omega) (by omega) (by
    have := congrArg cs e
    exact this)
theorem mkAll_ltr {rest : List Nat} {spot turn size n : Nat} (h : ∀ c ∈ rest, az c) : ∀ w ∈ mkAll rest spot turn size n, Ltr w := by
  intro w hw
  obtain ⟨k, _, rfl⟩ := List.mem_map.mp hw
  refine ⟨fun c hc => mkL_az h c hc, ?_, ?_⟩
  · rw [cs_mkS, mkL_len]
    omega
  · rw [cs_mkS, mkL_len, List.length_take]
    omega
theorem joinL_nil : ∀ ls : List (List Nat), joinL [] ls = ls.flatten
  | [] => rfl
  | [p] => by simp [joinL]
  | p :: q :: r => by
    show p ++ ([] ++ joinL [] (q :: r)) = (p :: q :: r).flatten
    rw [joinL_nil (q :: r), List.nil_append]
    rfl
theorem flat_one : ∀ ds : List Nat, (ds.map fun c => [c]).flatten = ds
  | [] => rfl
  | d :: r => by
    show [d] ++ (r.map fun c => [c]).flatten = d :: r
    rw [flat_one r]
    rfl
theorem cs_join (ds : List Nat) : cs (Txt.join (Str.ofString "") (ds.map fun c => (⟨#[c]⟩ : Str))) = ds := by
  have h := tl_join (Str.ofString "") (ds.map fun c => (⟨#[c]⟩ : Str))
  rw [← join_eq, show tl (Str.ofString "") = [] from rfl, joinL_nil, List.map_map] at h
  exact h.trans (flat_one ds)
abbrev alpha : Str := Str.ofString "abcdefghijklmnopqrstuvwxyz"
theorem cs_alpha : cs alpha = (List.range 26).map (97 + ·) := by decide +kernel
theorem alpha_at {v : Nat} (h : v < 26) : atI (cs alpha) (v : Int) = some (97 + v) := by
  refine atI_nat ?_
  rw [cs_alpha, List.getElem?_map, List.getElem?_range h]
  rfl
theorem cs_app (x y : Str) : cs (x ++ y) = cs x ++ cs y := tl_append x y
theorem len_cs (x : Str) : x.length = (cs x).length := by simp [Str.length]
theorem cs_cut0 (x : Str) (n : Nat) : cs (cutS x none (some (n : Int))) = (cs x).take n := by
  unfold cutS
  rw [HT.sIx_none, HT.sIx_nat]
  show ((cs x).drop 0).take _ = _
  rw [List.drop_zero, Nat.sub_zero, List.take_eq_take_iff, len_cs]
  omega
theorem cs_cutF (x : Str) (n : Nat) : cs (cutS x (some (n : Int)) none) = (cs x).drop n := by
  unfold cutS
  rw [HT.sIx_none, HT.sIx_nat, len_cs]
  show ((cs x).drop _).take _ = _
  by_cases h : n ≤ (cs x).length
  · rw [Nat.min_eq_left h]
    exact List.take_of_length_le (by rw [List.length_drop]; exact Nat.le_refl _)
  · rw [Nat.min_eq_right (show (cs x).length ≤ n by omega), List.drop_of_length_le (Nat.le_refl _), List.drop_of_length_le (show (cs x).length ≤ n by omega), List.take_nil]
end Eh
set_option Elab.async false
set_option linter.all false
set_option maxRecDepth 100000
set_option maxHeartbeats 4000000
namespace Eh
open PySem PySem.Spec PyProof.Rows L2 Evl
abbrev lS (ws : List Str) : HO := .lst (ws.map V.str)
abbrev nLetters : List Str := ["pot", "many", "small", "k", "rest", "spot", "turn", "size", "found", "part", "at"]
theorem yesT {σ : L2.St} {H : Hp} {A B : Hp → Prop} (h : A H) : tYes σ H (fun b H3 => if b = true then A H3 else B H3) := by
  show if true = true then A H else B H
  exact iteT h
theorem Pot.ne_new {p c q : Addr} {ns : List Int} {H : Hp} (h : Pot p c ns H) (hq : H q = none) : p ≠ q ∧ c ≠ q := by
  obtain ⟨a, r, h0, h1, h2⟩ := h
  exact ⟨ne_of_none h1 hq, ne_of_none h2 hq⟩
section
variable {P : Program} {w : World} {K : PySem.W.Frag} {mg : Str → Option Value} {base : Heap}
def spLetters : Sp := fun vs H Q _ => ∃ (p c : Addr) (ns : List Int) (m : Nat), vs = [.ref p, .int (m : Int)] ∧ m ≤ 26 ∧ Pot p c ns H ∧
  ∀ (ws : List Str) l H', ws.length = m → ws.Nodup → (∀ x ∈ ws, Ltr x) → Keep p H H' → Pot p c ns H' → H l = none → H' l = some (lS ws) → Q (.ref l) H'
theorem ok_letters {f fP : Addr} {fd fdP : FuncData} {k : Nat} (F : Fun K "_law_letters" "_law_letters" sLetters f fd) (FP : Fun K "_law_pick" "_law_pick" sPick fP fdP) (GP : FnOk P w K mg base CX0 (k + 1) fP fdP ["pot", "many"] spPick) (bP : Binds K fdP ["pot", "many"] []) (gP : mg "_law_pick" = some (.ref fP)) (ml : mg "len" = none) (mr : mg "range" = none) :
    FnOk P w K mg base CX0 (k + 2) f fd ["pot", "many"] spLetters := by
  have nd := scLetters.nd
  refine F.ok scLetters (fun vs H Q E h => ?_) (fun cdv A outer s H vs Q E hr h => ?_)
  · obtain ⟨p, c, ns, m, rfl, _⟩ := h
    rfl
  · obtain ⟨p, c, ns, m, rfl, m1, hP, q⟩ := h
    refine ⟨_, pss_cons (ps_set (i := 2) nd rfl (.inr rfl) pe_str)
      (pss_cons (ps_set (i := 4) nd rfl (.inl rfl) (pe_join pe_str (pe_lc (own := [("k", 3)]) (g := gName 3) (tt := tYes) (by rfl) nd (pi_range1 (by rfl) mr (pa_cons pe_int pa_nil)) (blkOk_by (own := [("k", 3)]) (N := nLetters) (sc := defScope sLetters) (by decide +kernel)) (fun _ _ _ _ _ => pg_name (i := 3) nd rfl (Or.inl rfl)) (fun _ _ _ _ _ => pts_nil)
          (fun _ _ _ _ _ => pe_ix ix_str (pv 2) (pe_call GP hr (by rfl) gP FP.kp bP .nil pass0 (pa_cons (pv 0) (pa_cons pe_int pa_nil))) (fun _ _ => rfl)))))
      (pss_cons (ps_set (i := 5) nd rfl (.inl rfl) (pe_call GP hr (by rfl) gP FP.kp bP .nil pass0 (pa_cons (pv 0) (pa_cons pe_int pa_nil))))
      (pss_cons (ps_set (i := 6) nd rfl (.inl rfl) (pe_call GP hr (by rfl) gP FP.kp bP .nil pass0 (pa_cons (pv 0) (pa_cons pe_int pa_nil))))
      (pss_cons (ps_set (i := 7) nd rfl (.inl rfl) (pe_call GP hr (by rfl) gP FP.kp bP .nil pass0 (pa_cons (pv 0) (pa_cons pe_int pa_nil))))
      (pss_cons (ps_set (i := 8) nd rfl (.inl rfl) (pe_lst pa_nil))
      (pss_cons (ps_for PassesOwn.never rfl (pi_range1 (by rfl) mr (pa_cons (pv 1) pa_nil)) (pg_name (i := 3) nd rfl (.inl rfl))
        (pss_cons (ps_set (i := 9) nd rfl (.inl rfl) (pe_slice sl_str (pv 4) po_none (po_some (pe_op op_mod (pe_op op_add (pv 7) (pe_op op_mul (pv 3) (pe_op op_mod (pv 5) pe_int))) pe_int))))
        (pss_cons (ps_set (i := 10) nd rfl (.inl rfl) (pe_ix ix_list (pe_lst (pa_cons pe_int (pa_cons (pe_callB call_len_str (by rfl) ml PySem.boot_len (pa_cons (pv 9) pa_nil)) (pa_cons (pe_op op_fdiv (pe_callB call_len_str (by rfl) ml PySem.boot_len (pa_cons (pv 9) pa_nil)) pe_int) pa_nil)))) (pv 5) (fun _ _ => rfl)))
        (pss_one (ps_expr (pe_bm PySem.F.plainAttrs_list PySem.F.slot_list_append PySem.F.type_list_append mt_append (pv 8) (pa_cons (pe_op op_add_str (pe_op op_add_str (pe_slice sl_str (pv 9) po_none (po_some (pv 10))) (pe_ix ix_str (pv 2) (pe_op op_mod (pe_op op_add (pv 6) (pe_op op_mul pe_int (pv 3))) pe_int) (fun _ _ => rfl))) (pe_slice sl_str (pv 9) (po_some (pv 10)) po_none)) pa_nil)))))))
      (pss_one (ps_ret (pv 8))))))))), ?_⟩
    -- rest
    refine ⟨⟨_, rfl⟩, 7, rfl, by decide, by decide, fun D nD => ?_⟩
    refine lc_range (lo := 0) (n := 7) (fun i H' => ∃ ds : List Nat, ds.length = i ∧ (∀ d ∈ ds, az d) ∧ H' D = some (.lst (ds.map fun d => .str ⟨#[d]⟩)) ∧ Keep p H H' ∧ Pot p c ns H') ?_ ?_ ?_
    · exact ⟨[], rfl, fun d hd => (List.not_mem_nil hd).elim, upd_same, (Keep.refl p H).new nD, hP.new (hP.ne_new nD).1 (hP.ne_new nD).2⟩
    · rintro i H' hi ⟨ds, hds, haz, hD, kp, hP'⟩
      refine ⟨rfl, ?_⟩
      refine yesT ?_
      refine ⟨_, rfl, _, rfl, p, c, ns, 26, rfl, by decide, by decide, hP', fun v H2 hv kp2 hP2 => ?_⟩
      have hv' : v < 26 := by omega
      have hpD := (hP.ne_new nD).1
      have hD2 : H2 D = some (.lst (ds.map fun d => .str ⟨#[d]⟩)) := kp2 _ _ hpD.symm hD
      refine ⟨_, _, 97 + v, rfl, rfl, by decide, alpha_at hv', _, hD2, ?_, ds ++ [97 + v], ?_, ?_, ?_, ?_, ?_⟩
      · rw [List.length_map]
        exact sz_lt (by omega)
      · rw [List.length_append, hds]
        rfl
      · intro d hd
        rcases List.mem_append.mp hd with z | z
        · exact haz d z
        · rw [List.mem_singleton.mp z]
          unfold az
          omega
      · rw [upd_same, List.map_append]
        rfl
      · exact (kp.trans kp2).new nD
      · exact hP2.new hpD (hP.ne_new nD).2
    · rintro H1 ⟨ds, hds, haz, hD, kp, hP1⟩
      have hlen : ((ds.map fun d => (⟨#[d]⟩ : Str)).map (·.length)).sum ≤ 100 := by
        have : ∀ l : List Nat, ((l.map fun d => (⟨#[d]⟩ : Str)).map (·.length)).sum = l.length := fun l => by
          induction l with
          | nil => rfl
          | cons x r ih =>
            rw [List.map_cons, List.map_cons, List.sum_cons, ih, List.length_cons, show (⟨#[x]⟩ : Str).length = 1 from rfl]
            omega
        rw [this]
        omega
      refine ⟨_, D, ds.map fun d => (⟨#[d]⟩ : Str), rfl, rfl, .inl (sq_of (by rw [List.map_map]; exact hD)), ?_, ?_⟩
      · rw [List.length_map, show (Str.ofString "").length = 0 from rfl]
        omega
      · generalize hR : Txt.join (Str.ofString "") (ds.map fun d => (⟨#[d]⟩ : Str)) = rest
        have cR : cs rest = ds := by
          rw [← hR]
          exact cs_join ds
        -- spot, turn, size
        refine ⟨_, rfl, p, c, ns, 3, rfl, by decide, by decide, hP1, fun spot H2 hspot kp2 hP2 => ?_⟩
        refine ⟨_, rfl, p, c, ns, 26, rfl, by decide, by decide, hP2, fun turn H3 hturn kp3 hP3 => ?_⟩
        refine ⟨_, rfl, p, c, ns, 8, rfl, by decide, by decide, hP3, fun size H4 hsize kp4 hP4 => ?_⟩
        have kp04 : Keep p H H4 := ((kp.trans kp2).trans kp3).trans kp4
        refine ⟨Nat.zero_le _, fun l nl => ?_⟩
        have hpl := hP4.ne_new nl
        have nlH : H l = none := by
          cases e : H l with
          | none => rfl
          | some o =>
            by_cases z : l = p
            · exact absurd z.symm hpl.1
            · rw [kp04 l o z e] at nl
              cases nl
        refine ⟨_, rfl, m, rfl, by omega, by omega, for_range (lo := 0) (n := ((m : Int)).toNat) (fun i σ H' => (∃ y3 y9 y10, σ = [some (.ref p), some (.int (m : Int)), some (.str alpha), y3, some (.str rest), some (.int (spot : Int)), some (.int (turn : Int)), some (.int (size : Int)), some (.ref l), y9, y10]) ∧ Keep p H H' ∧ Pot p c ns H' ∧ H' l = some (lS (mkAll (cs rest) spot turn size i))) ?_ ?_ ?_⟩
        · exact ⟨⟨_, _, _, rfl⟩, kp04.new nlH, hP4.new hpl.1 hpl.2, upd_same⟩
        · rintro i σ H' hi ⟨⟨y3, y9, y10, rfl⟩, kp', hP', hl'⟩
          have hi' : i < m := by omega
          have e0 : (0 : Int) + (i : Int) = (i : Int) := Int.zero_add _
          rw [e0]
          have e1 : ((size : Int) + (i : Int) * ((spot : Int) % 2)) % 8 = (((size + i * (spot % 2)) % 8 : Nat) : Int) := by
            rw [show ((spot : Int) % 2) = ((spot % 2 : Nat) : Int) by omega, ← Int.natCast_mul]
            generalize i * (spot % 2) = z
            omega
          have lenR : rest.length ≤ sizeLine := sz_of (by rw [len_cs, cR]; omega)
          refine ⟨_, rfl, _, rfl, _, rfl, _, rfl, _, _, rfl, rfl, (by show (0 : Int) < _; decide), _, _, rfl, rfl, .inr (by rcases (show spot % 2 = 0 ∨ spot % 2 = 1 by omega) with z | z <;> exact ⟨by show -(2 ^ 64) < (spot : Int) % 2; omega, by show (spot : Int) % 2 < 2 ^ 64; omega⟩), _, _, rfl, rfl, _, _, rfl, rfl, (by show (0 : Int) < _; decide), _, rfl, rest, rfl, lenR, ?_⟩
          show tSeq _ _ _ [some (.ref p), some (.int (m : Int)), some (.str alpha), some (.int (i : Int)), some (.str rest), some (.int (spot : Int)), some (.int (turn : Int)), some (.int (size : Int)), some (.ref l), some (.str (cutS rest none (some (((size : Int) + (i : Int) * ((spot : Int) % 2)) % 8)))), y10] H'
          rw [e1]
          have cP := cs_cut0 rest ((size + i * (spot % 2)) % 8)
          generalize cutS rest none (some (((size + i * (spot % 2)) % 8 : Nat) : Int)) = part at cP
          have lp : part.length ≤ 8 := by
            rw [len_cs, cP, List.length_take, cR]
            omega
          have lpS : part.length ≤ sizeLine := sz_of (by omega)
          -- at
          refine ⟨_, rfl, part, rfl, lpS, _, rfl, part, rfl, lpS, _, _, rfl, rfl, ⟨by decide, by decide⟩, (by show 3 ≤ sizeLine; decide), fun t nt => ?_⟩
          have eT : Ex H' (upd H' t (.lst [.int 0, .int (part.length : Int), .int ((part.length : Int) / 2)])) := Ex.new nt
          refine ⟨_, rfl, t, _, _, .int (spotAt spot part.length : Nat), rfl, rfl, sq_of upd_same, at_of (j := spot) rfl ?_, ?_⟩
          · rcases (show spot = 0 ∨ spot = 1 ∨ spot = 2 by omega) with rfl | rfl | rfl
            · rfl
            · rfl
            · show some (V.int ((part.length : Int) / 2)) = some (V.int ((part.length / 2 : Nat) : Int))
              rw [show ((part.length / 2 : Nat) : Int) = (part.length : Int) / 2 by omega]
          -- append
          · have e2 : ((turn : Int) + 5 * (i : Int)) % 26 = (((turn + 5 * i) % 26 : Nat) : Int) := by omega
            have hlt : (turn + 5 * i) % 26 < 26 := Nat.mod_lt _ (by decide)
            have hat : atI (cs alpha) (((turn : Int) + 5 * (i : Int)) % 26) = some (97 + (turn + 5 * i) % 26) := by
              rw [e2]
              exact alpha_at hlt
            have hl2 := eT _ _ hl'
            have c1 := cs_cut0 part (spotAt spot part.length)
            have c2 := cs_cutF part (spotAt spot part.length)
            have k1 : (cutS part none (some ((spotAt spot part.length : Nat) : Int))).length ≤ 8 := by
              rw [len_cs, c1, List.length_take, ← len_cs]
              omega
            have k2 : (cutS part (some ((spotAt spot part.length : Nat) : Int)) none).length ≤ 8 := by
              rw [len_cs, c2, List.length_drop, ← len_cs]
              omega
            refine ⟨_, rfl, .inl ⟨rfl, _, sq_of hl2⟩, _, rfl, _, rfl, _, rfl, part, rfl, lpS, _, rfl, _, rfl, _, rfl, _, _, rfl, rfl, .inl ⟨by decide, by decide⟩, _, _, rfl, rfl, _, _, rfl, rfl, (by show (0 : Int) < _; decide), _, _, _, rfl, rfl, by decide, hat, _, _, rfl, rfl, ?_, _, rfl, _, rfl, _, rfl, part, rfl, lpS, _, _, rfl, rfl, ?_, l, _, _, rfl, rfl, hl2, ?_, ⟨_, _, _, rfl⟩, ?_, ?_, ?_⟩
            · exact sz_of (by
                have : (⟨#[97 + (turn + 5 * i) % 26]⟩ : Str).length = 1 := rfl
                omega)
            · exact sz_of (by
                rw [len_cs, cs_app, List.length_append, ← len_cs, ← len_cs]
                have : (⟨#[97 + (turn + 5 * i) % 26]⟩ : Str).length = 1 := rfl
                omega)
            · rw [List.length_map]
              exact sz_lt (by unfold mkAll; rw [List.length_map, List.length_range]; omega)
            · exact (kp'.trans (Keep.ofEx eT)).new nlH
            · exact (hP'.ex eT).new hpl.1 hpl.2
            · rw [upd_same]
              have e3 : cutS part none (some ((spotAt spot part.length : Nat) : Int)) ++ (⟨#[97 + (turn + 5 * i) % 26]⟩ : Str) ++ cutS part (some ((spotAt spot part.length : Nat) : Int)) none = mkS (cs rest) spot turn size i := by
                apply cs_ext
                rw [cs_app, cs_app, c1, c2, cs_mkS, len_cs, cP, List.append_assoc]
                rfl
              rw [e3]
              unfold lS mkAll
              rw [List.range_succ, List.map_append, List.map_append]
              rfl
        · rintro σ H' ⟨⟨y3, y9, y10, rfl⟩, kp', hP', hl'⟩
          refine ⟨_, rfl, q (mkAll (cs rest) spot turn size m) l H' ?_ (mkAll_nodup (by omega) m1) (mkAll_ltr (by rw [cR]; exact haz)) kp' hP' nlH ?_⟩
          · unfold mkAll
            rw [List.length_map, List.length_range]
          · rw [Int.toNat_natCast] at hl'
            exact hl'
end
end Eh
set_option Elab.async false
set_option linter.all false
set_option maxRecDepth 100000
set_option maxHeartbeats 4000000
namespace Eh
open PySem PySem.Spec PyProof.Rows L2 Evl
/-- a sheet: its opens, plains, closes -/
structure Sht (os ps qs : List Str) : Prop where
  nd : (os ++ ps ++ qs).Nodup
  lt : ∀ x ∈ os ++ ps ++ qs, Ltr x
  o1 : 1 ≤ os.length
  o4 : os.length ≤ 4
  p4 : ps.length ≤ 4
  c1 : 1 ≤ qs.length
  c4 : qs.length ≤ 4
def SheetAt (H : Hp) (s : Addr) (os ps qs : List Str) : Prop := ∃ ao ap ac, H s = some (.tup [.ref ao, .ref ap, .ref ac]) ∧ H ao = some (.tup (os.map V.str)) ∧ H ap = some (.tup (ps.map V.str)) ∧ H ac = some (.tup (qs.map V.str))
theorem Pot.ne_tup {p c a : Addr} {ns : List Int} {H : Hp} {xs : List V} (h : Pot p c ns H) (ha : H a = some (.tup xs)) : a ≠ p := fun e => by
  obtain ⟨_, _, _, h1, _⟩ := h
  rw [e, h1] at ha
  cases ha
theorem SheetAt.ex {H H' : Hp} {s : Addr} {os ps qs : List Str} (h : SheetAt H s os ps qs) (e : Ex H H') : SheetAt H' s os ps qs := by
  obtain ⟨ao, ap, ac, h0, h1, h2, h3⟩ := h
  exact ⟨ao, ap, ac, e _ _ h0, e _ _ h1, e _ _ h2, e _ _ h3⟩
theorem SheetAt.keep {H H' : Hp} {s p c : Addr} {ns : List Int} {os ps qs : List Str} (h : SheetAt H s os ps qs) (hP : Pot p c ns H) (k : Keep p H H') : SheetAt H' s os ps qs := by
  obtain ⟨ao, ap, ac, h0, h1, h2, h3⟩ := h
  exact ⟨ao, ap, ac, k _ _ (hP.ne_tup h0) h0, k _ _ (hP.ne_tup h1) h1, k _ _ (hP.ne_tup h2) h2, k _ _ (hP.ne_tup h3) h3⟩
theorem rot_nodup {L : List Str} (t : Nat) (h : L.Nodup) : (L.drop t ++ L.take t).Nodup := by
  refine (List.perm_append_comm.nodup_iff).mp ?_
  rw [List.take_append_drop]
  exact h
theorem rot_mem {L : List Str} {t : Nat} {x : Str} (h : x ∈ L.drop t ++ L.take t) : x ∈ L := by
  rcases List.mem_append.mp h with q | q
  · exact List.mem_of_mem_drop q
  · exact List.mem_of_mem_take q
theorem sub12 {L : List Str} {a b d : Nat} (ha : a ≤ 4) (hb : b ≤ 4) : ((L.take a) ++ (L.take (4 + b)).drop 4 ++ (L.take (8 + d)).drop 8).Sublist L := by
  have e : L = L.take 4 ++ (L.take 8).drop 4 ++ L.drop 8 := by
    have e1 : L.take 4 ++ (L.take 8).drop 4 = L.take 8 := by
      have := List.take_append_drop 4 (L.take 8)
      rw [List.take_take] at this
      exact this
    rw [e1, List.take_append_drop]
  have s1 : (L.take a).Sublist (L.take 4) := by
    have : L.take a = (L.take 4).take a := by rw [List.take_take, Nat.min_eq_left ha]
    rw [this]
    exact List.take_sublist _ _
  have s2 : ((L.take (4 + b)).drop 4).Sublist ((L.take 8).drop 4) := by
    refine List.Sublist.drop ?_ 4
    have : L.take (4 + b) = (L.take 8).take (4 + b) := by rw [List.take_take, Nat.min_eq_left (by omega)]
    rw [this]
    exact List.take_sublist _ _
  have s3 : ((L.take (8 + d)).drop 8).Sublist (L.drop 8) := List.Sublist.drop (List.take_sublist _ _) 8
  have := (s1.append s2).append s3
  rw [← e] at this
  exact this
theorem sht_of {L : List Str} (hn : L.Nodup) (hl : ∀ x ∈ L, Ltr x) (h12 : L.length = 12) {a b d : Nat} (a1 : 1 ≤ a) (a4 : a ≤ 4) (b4 : b ≤ 4) (d1 : 1 ≤ d) (d4 : d ≤ 4) : Sht (L.take a) ((L.take (4 + b)).drop 4) ((L.take (8 + d)).drop 8) := by
  refine ⟨(sub12 a4 b4).nodup hn, fun x hx => hl x ((sub12 a4 b4).subset hx), ?_, ?_, ?_, ?_, ?_⟩ <;> simp only [List.length_take, List.length_drop, h12] <;> omega
theorem menu1 {v : Nat} (h : v < 5) : ∃ x : Nat, ([.int 1, .int 1, .int 2, .int 2, .int 4] : List V)[v]? = some (.int (x : Int)) ∧ 1 ≤ x ∧ x ≤ 4 := by
  rcases (show v = 0 ∨ v = 1 ∨ v = 2 ∨ v = 3 ∨ v = 4 by omega) with rfl | rfl | rfl | rfl | rfl
  · exact ⟨1, rfl, by omega⟩
  · exact ⟨1, rfl, by omega⟩
  · exact ⟨2, rfl, by omega⟩
  · exact ⟨2, rfl, by omega⟩
  · exact ⟨4, rfl, by omega⟩
theorem menu0 {v : Nat} (h : v < 5) : ∃ x : Nat, ([.int 0, .int 1, .int 1, .int 2, .int 4] : List V)[v]? = some (.int (x : Int)) ∧ x ≤ 4 := by
  rcases (show v = 0 ∨ v = 1 ∨ v = 2 ∨ v = 3 ∨ v = 4 by omega) with rfl | rfl | rfl | rfl | rfl
  · exact ⟨0, rfl, by omega⟩
  · exact ⟨1, rfl, by omega⟩
  · exact ⟨1, rfl, by omega⟩
  · exact ⟨2, rfl, by omega⟩
  · exact ⟨4, rfl, by omega⟩
theorem minI (m x : Nat) : (if (x : Int) < (m : Int) then (x : Int) else (m : Int)) = ((min m x : Nat) : Int) := by
  split <;> omega
theorem map_cut0 (L : List Str) (n : Nat) : cutV (L.map V.str) none (some (n : Int)) = (L.take n).map V.str := by rw [cut0, List.map_take]
theorem map_cutF (L : List Str) (n : Nat) : cutV (L.map V.str) (some (n : Int)) none = (L.drop n).map V.str := by rw [cutF, List.map_drop]
theorem map_cutLH (L : List Str) (n m : Nat) : cutV (L.map V.str) (some (n : Int)) (some (m : Int)) = ((L.take m).drop n).map V.str := by rw [cutLH, List.map_drop, List.map_take]
theorem lS_ne {p c l : Addr} {ns : List Int} {H : Hp} {ws : List Str} (h : Pot p c ns H) (hl : H l = some (lS ws)) : l ≠ p := fun e => by
  obtain ⟨_, _, _, h1, _⟩ := h
  rw [e, h1] at hl
  injection hl with hl
  injection hl with hl
  cases ws <;> cases hl
theorem menu_rd {K : PySem.W.Frag} {p c : Addr} {ns : List Int} {H : Hp} {σ : L2.St} {xs : List V} {Q : VK} {ta : TA} {n : Int} (hP : Pot p c ns H) (hσ : σ[0]? = some (some (.ref p))) (n0 : 0 < n) (n1 : n < 1073741824) (hta : ∀ Q : List V → Hp → Prop, Q xs H → ta σ H Q) (hxs : xs.length ≤ 1000)
    (k : ∀ (v : Nat) H', (v : Int) < n → Keep p H H' → Pot p c ns H' → ∃ z, xs[v]? = some z ∧ Q z H') : tOp (rIxL K) (tLst ta) (tCall spPick [] E0 (tCons (tVar 0) (tCons (tC (.int n)) tNil))) σ H Q := by
  refine hta _ ⟨sz_of (by omega), fun t nt => ⟨_, hσ, p, c, ns, n, rfl, n0, n1, hP.ex (Ex.new nt), fun v H5 hv kp5 hP5 => ?_⟩⟩
  obtain ⟨z, hz, q⟩ := k v H5 hv ((Keep.ofEx (Ex.new nt)).trans kp5) hP5
  exact ⟨t, xs, (v : Int), z, rfl, rfl, sq_of (kp5 _ _ (hP.ne_new nt).1.symm upd_same), atI_nat hz, q⟩
section
variable {P : Program} {w : World} {K : PySem.W.Frag} {mg : Str → Option Value} {base : Heap}
def spSheet : Sp := fun vs H Q _ => ∃ (p c : Addr) (ns : List Int) (m : Nat), vs = [.ref p, .int (m : Int)] ∧ 1 ≤ m ∧ m ≤ 4 ∧ Pot p c ns H ∧
  ∀ (os ps qs : List Str) s H', Sht os ps qs → SheetAt H' s os ps qs → Keep p H H' → Pot p c ns H' → Q (.ref s) H'
theorem ok_sheet {f fP fL : Addr} {fd fdP fdL : FuncData} {k : Nat} (F : Fun K "_law_sheet" "_law_sheet" sSheet f fd) (FP : Fun K "_law_pick" "_law_pick" sPick fP fdP) (GP : FnOk P w K mg base CX0 (k + 1) fP fdP ["pot", "many"] spPick) (bP : Binds K fdP ["pot", "many"] []) (gP : mg "_law_pick" = some (.ref fP))
    (FL : Fun K "_law_letters" "_law_letters" sLetters fL fdL) (GL : FnOk P w K mg base CX0 (k + 2) fL fdL ["pot", "many"] spLetters) (bL : Binds K fdL ["pot", "many"] []) (gL : mg "_law_letters" = some (.ref fL)) (mm : mg "min" = none) (mt : mg "tuple" = none) :
    FnOk P w K mg base CX0 (k + 3) f fd ["pot", "most"] spSheet := by
  have nd := scSheet.nd
  refine F.ok scSheet (fun vs H Q E h => ?_) (fun cdv A outer s H vs Q E hr h => ?_)
  · obtain ⟨p, c, ns, m, rfl, _⟩ := h
    rfl
  · obtain ⟨p, c, ns, m, rfl, m1, m4, hP, q⟩ := h
    have hr1 : Room (k + 1) _ := hr.mono (Nat.le_succ _)
    refine ⟨_, pss_cons (ps_set (i := 2) nd rfl (.inl rfl) (pe_call GL hr (by rfl) gL FL.kp bL .nil pass0 (pa_cons (pv 0) (pa_cons pe_int pa_nil))))
      (pss_cons (ps_set (i := 3) nd rfl (.inl rfl) (pe_call GP hr1 (by rfl) gP FP.kp bP .nil pass0 (pa_cons (pv 0) (pa_cons pe_int pa_nil))))
      (pss_cons (ps_set (i := 2) nd rfl (.inl rfl) (pe_op op_cat (pe_slice sl_list (pv 2) (po_some (pv 3)) po_none) (pe_slice sl_list (pv 2) po_none (po_some (pv 3)))))
      (pss_cons (ps_set (i := 4) nd rfl (.inl rfl) (pe_slice sl_list (pv 2) po_none (po_some (pe_callB (call_min2 rfl) (by rfl) mm (by decide +kernel) (pa_cons (pv 1) (pa_cons (pe_ix ix_list (pe_lst (pa_cons pe_int (pa_cons pe_int (pa_cons pe_int (pa_cons pe_int (pa_cons pe_int pa_nil)))))) (pe_call GP hr1 (by rfl) gP FP.kp bP .nil pass0 (pa_cons (pv 0) (pa_cons pe_int pa_nil))) (fun _ _ => rfl)) pa_nil))))))
      (pss_cons (ps_set (i := 5) nd rfl (.inl rfl) (pe_slice sl_list (pv 2) (po_some pe_int) (po_some (pe_op op_add pe_int (pe_callB (call_min2 rfl) (by rfl) mm (by decide +kernel) (pa_cons (pv 1) (pa_cons (pe_ix ix_list (pe_lst (pa_cons pe_int (pa_cons pe_int (pa_cons pe_int (pa_cons pe_int (pa_cons pe_int pa_nil)))))) (pe_call GP hr1 (by rfl) gP FP.kp bP .nil pass0 (pa_cons (pv 0) (pa_cons pe_int pa_nil))) (fun _ _ => rfl)) pa_nil)))))))
      (pss_cons (ps_set (i := 6) nd rfl (.inl rfl) (pe_slice sl_list (pv 2) (po_some pe_int) (po_some (pe_op op_add pe_int (pe_callB (call_min2 rfl) (by rfl) mm (by decide +kernel) (pa_cons (pv 1) (pa_cons (pe_ix ix_list (pe_lst (pa_cons pe_int (pa_cons pe_int (pa_cons pe_int (pa_cons pe_int (pa_cons pe_int pa_nil)))))) (pe_call GP hr1 (by rfl) gP FP.kp bP .nil pass0 (pa_cons (pv 0) (pa_cons pe_int pa_nil))) (fun _ _ => rfl)) pa_nil)))))))
      (pss_one (ps_ret (pe_tup (pa_cons (pe_callTy call_tuple_of (by rfl) mt (by decide +kernel) (pa_cons (pv 4) pa_nil)) (pa_cons (pe_callTy call_tuple_of (by rfl) mt (by decide +kernel) (pa_cons (pv 5) pa_nil)) (pa_cons (pe_callTy call_tuple_of (by rfl) mt (by decide +kernel) (pa_cons (pv 6) pa_nil)) pa_nil)))))))))))  , ?_⟩
    refine ⟨_, rfl, p, c, ns, 12, rfl, by decide, hP, fun ws l H1 hlen hnd hlt kp1 hP1 nl hl => ?_⟩
    refine ⟨_, rfl, p, c, ns, 12, rfl, by decide, by decide, hP1, fun turn H2 hturn kp2 hP2 => ?_⟩
    have hl2 : H2 l = some (lS ws) := kp2 _ _ (lS_ne hP1 hl) hl
    refine ⟨_, rfl, _, rfl, _, rfl, l, _, rfl, sq_of hl2, fun u nu => ?_⟩
    have e2 : Ex H2 (upd H2 u (.lst (cutV (ws.map V.str) (some (turn : Int)) none))) := Ex.new nu
    refine ⟨_, rfl, _, rfl, _, rfl, l, _, rfl, sq_of (e2 _ _ hl2), fun u' nu' => ?_⟩
    have e3 : Ex H2 (upd (upd H2 u (.lst (cutV (ws.map V.str) (some (turn : Int)) none))) u' (.lst (cutV (ws.map V.str) none (some (turn : Int))))) := e2.trans (Ex.new nu')
    have nuu : u ≠ u' := ne_of_none upd_same nu'
    have hu3 : (upd (upd H2 u (.lst (cutV (ws.map V.str) (some (turn : Int)) none))) u' (.lst (cutV (ws.map V.str) none (some (turn : Int))))) u = some (.lst ((ws.drop turn).map V.str)) := by
      rw [upd_ne nuu, upd_same, map_cutF]
    have hu3' : (upd (upd H2 u (.lst (cutV (ws.map V.str) (some (turn : Int)) none))) u' (.lst (cutV (ws.map V.str) none (some (turn : Int))))) u' = some (.lst ((ws.take turn).map V.str)) := by
      rw [upd_same, map_cut0]
    generalize (upd (upd H2 u (.lst (cutV (ws.map V.str) (some (turn : Int)) none))) u' (.lst (cutV (ws.map V.str) none (some (turn : Int))))) = H3 at e3 hu3 hu3' ⊢
    have hLn : (ws.drop turn ++ ws.take turn).length = 12 := by
      rw [List.length_append, List.length_drop, List.length_take]
      omega
    refine ⟨u, u', _, _, rfl, rfl, hu3, hu3', ?_, fun r nr => ?_⟩
    · rw [← List.length_append, ← List.map_append, List.length_map]
      exact sz_of (by omega)
    rw [← List.map_append]
    have hLd := rot_nodup turn hnd
    have hLt : ∀ x ∈ ws.drop turn ++ ws.take turn, Ltr x := fun x hx => hlt x (rot_mem hx)
    generalize ws.drop turn ++ ws.take turn = L at hLn hLd hLt ⊢
    have hP3 := hP2.ex e3
    have e4 : Ex H3 (upd H3 r (lS L)) := Ex.new nr
    have hP4 := hP3.ex e4
    have kp4 : Keep p H (upd H3 r (lS L)) := ((kp1.trans kp2).trans (Keep.ofEx e3)).trans (Keep.ofEx e4)
    have hr4 : (upd H3 r (lS L)) r = some (lS L) := upd_same
    show tSeq _ _ _ [some (.ref p), some (.int (m : Int)), some (.ref r), some (.int (turn : Int)), none, none, none] (upd H3 r (lS L))
    generalize upd H3 r (lS L) = H4 at e4 hP4 kp4 hr4 ⊢
    -- opens
    refine ⟨_, rfl, _, rfl, menu_rd (xs := [.int 1, .int 1, .int 2, .int 2, .int 4]) hP4 rfl (by decide) (by decide) (fun Q z => z) (by decide) fun v H5 hv kp5 hP5 => ?_⟩
    obtain ⟨x, hx, x1, x4⟩ := menu1 (show v < 5 by omega)
    refine ⟨_, hx, _, _, rfl, _, rfl, r, _, rfl, sq_of (kp5 _ _ (lS_ne hP4 hr4) hr4), fun o no => ?_⟩
    rw [minI, map_cut0]
    have hr5 : H5 r = some (lS L) := kp5 _ _ (lS_ne hP4 hr4) hr4
    have e6 : Ex H5 (upd H5 o (lS (L.take (min m x)))) := Ex.new no
    have hP6 := hP5.ex e6
    have hr6 := e6 _ _ hr5
    have ho6 : (upd H5 o (lS (L.take (min m x)))) o = some (lS (L.take (min m x))) := upd_same
    have kp6 : Keep p H (upd H5 o (lS (L.take (min m x)))) := (kp4.trans kp5).trans (Keep.ofEx e6)
    show tSeq _ _ _ [some (.ref p), some (.int (m : Int)), some (.ref r), some (.int (turn : Int)), some (.ref o), none, none] (upd H5 o (lS (L.take (min m x))))
    generalize upd H5 o (lS (L.take (min m x))) = H6 at hP6 hr6 ho6 kp6 ⊢
    -- plains
    refine ⟨_, rfl, _, rfl, _, rfl, menu_rd (xs := [.int 0, .int 1, .int 1, .int 2, .int 4]) hP6 rfl (by decide) (by decide) (fun Q z => z) (by decide) fun v H7 hv kp7 hP7 => ?_⟩
    obtain ⟨y, hy, y4⟩ := menu0 (show v < 5 by omega)
    have hr7 : H7 r = some (lS L) := kp7 _ _ (lS_ne hP6 hr6) hr6
    have ho7 : H7 o = some (lS (L.take (min m x))) := kp7 _ _ (lS_ne hP6 ho6) ho6
    refine ⟨_, hy, _, _, rfl, _, _, rfl, rfl, _, rfl, r, _, rfl, sq_of hr7, fun u1 nu1 => ?_⟩
    have ey : (4 : Int) + (if (y : Int) < (m : Int) then (y : Int) else (m : Int)) = ((4 + min m y : Nat) : Int) := by
      rw [minI]
      omega
    rw [ey, show (some 4 : Option Int) = some ((4 : Nat) : Int) from rfl, map_cutLH]
    have e8 : Ex H7 (upd H7 u1 (lS ((L.take (4 + min m y)).drop 4))) := Ex.new nu1
    have hP8 := hP7.ex e8
    have hr8 := e8 _ _ hr7
    have ho8 := e8 _ _ ho7
    have hu8 : (upd H7 u1 (lS ((L.take (4 + min m y)).drop 4))) u1 = some (lS ((L.take (4 + min m y)).drop 4)) := upd_same
    have kp8 : Keep p H (upd H7 u1 (lS ((L.take (4 + min m y)).drop 4))) := (kp6.trans kp7).trans (Keep.ofEx e8)
    show tSeq _ _ _ [some (.ref p), some (.int (m : Int)), some (.ref r), some (.int (turn : Int)), some (.ref o), some (.ref u1), none] (upd H7 u1 (lS ((L.take (4 + min m y)).drop 4)))
    generalize upd H7 u1 (lS ((L.take (4 + min m y)).drop 4)) = H8 at hP8 hr8 ho8 hu8 kp8 ⊢
    -- closes
    refine ⟨_, rfl, _, rfl, _, rfl, menu_rd (xs := [.int 1, .int 1, .int 2, .int 2, .int 4]) hP8 rfl (by decide) (by decide) (fun Q z => z) (by decide) fun v H9 hv kp9 hP9 => ?_⟩
    obtain ⟨z, hz, z1, z4⟩ := menu1 (show v < 5 by omega)
    have hr9 : H9 r = some (lS L) := kp9 _ _ (lS_ne hP8 hr8) hr8
    have ho9 : H9 o = some (lS (L.take (min m x))) := kp9 _ _ (lS_ne hP8 ho8) ho8
    have hu9 := kp9 _ _ (lS_ne hP8 hu8) hu8
    refine ⟨_, hz, _, _, rfl, _, _, rfl, rfl, _, rfl, r, _, rfl, sq_of hr9, fun u2 nu2 => ?_⟩
    have ez : (8 : Int) + (if (z : Int) < (m : Int) then (z : Int) else (m : Int)) = ((8 + min m z : Nat) : Int) := by
      rw [minI]
      omega
    rw [ez, show (some 8 : Option Int) = some ((8 : Nat) : Int) from rfl, map_cutLH]
    have e10 : Ex H9 (upd H9 u2 (lS ((L.take (8 + min m z)).drop 8))) := Ex.new nu2
    have hP10 := hP9.ex e10
    have ho10 := e10 _ _ ho9
    have hu10 := e10 _ _ hu9
    have hv10 : (upd H9 u2 (lS ((L.take (8 + min m z)).drop 8))) u2 = some (lS ((L.take (8 + min m z)).drop 8)) := upd_same
    have kp10 : Keep p H (upd H9 u2 (lS ((L.take (8 + min m z)).drop 8))) := (kp8.trans kp9).trans (Keep.ofEx e10)
    refine ⟨_, rfl, o, _, rfl, .inl ⟨sq_of ho10, fun ao nao => ?_⟩⟩
    have f1 : Ex _ _ := Ex.new (o := .tup ((L.take (min m x)).map V.str)) nao
    refine ⟨_, rfl, u1, _, rfl, .inl ⟨sq_of (f1 _ _ hu10), fun ap nap => ?_⟩⟩
    have f2 : Ex _ _ := Ex.new (o := .tup (((L.take (4 + min m y)).drop 4).map V.str)) nap
    refine ⟨_, rfl, u2, _, rfl, .inl ⟨sq_of (f2 _ _ (f1 _ _ hv10)), fun ac nac => ?_⟩⟩
    have f3 : Ex _ _ := Ex.new (o := .tup (((L.take (8 + min m z)).drop 8).map V.str)) nac
    refine ⟨(by show 3 ≤ sizeLine; decide), fun sh nsh => ?_⟩
    have f4 : Ex _ _ := Ex.new (o := .tup [.ref ao, .ref ap, .ref ac]) nsh
    exact q _ _ _ sh _ (sht_of hLd hLt hLn (by omega) (by omega) (by omega) (by omega) (by omega)) ⟨ao, ap, ac, upd_same, f4 _ _ (f3 _ _ (f2 _ _ upd_same)), f4 _ _ (f3 _ _ upd_same), f4 _ _ upd_same⟩ (kp10.trans (Keep.ofEx (((f1.trans f2).trans f3).trans f4))) (hP10.ex (((f1.trans f2).trans f3).trans f4))
end
end Eh
set_option Elab.async false
set_option linter.all false
set_option maxRecDepth 100000
set_option maxHeartbeats 4000000
namespace Gx
open PySem PySem.Spec PyProof.Rows L2 GxR GenW
/-! all(e for x in xs), any(..): e any expression, also one that calls, also one that holds such again -/
/-- the context of a generator expression's own frame -/
abbrev gcx (X : Cx) (A : Around) (s : Shared) (H : Hp) (cenv : Env) (fp : List Addr) (pn : List (Addr × Obj)) : Cx := { X with A := A, s_0 := s, H_0 := H, env := cenv, outer := X.stack, stack := cenv :: X.stack, ex := fp, fn := fun _ => false, pn := pn, xe := fun _ _ => False }
abbrev gEnv (X : Cx) (scope : Scope) (C : Addr) (code : Value) : Env := genEnv scope (cloFrom X.env.cells scope.names []) C code builtinsNs X.env
theorem over_gen {A : Around} {elt target iter : Expr} {ifs : List Expr} {scope : Scope} {pos : Pos} {it acc : Value} {env : Env} : A.over (.compLoop (.GeneratorExp elt [⟨target, iter, ifs, 0⟩] scope pos) 0 it acc env) [] = A.deeper env := by
  first
    | rfl
    | (obtain ⟨hd, d, fr, gs, u⟩ := A; simp [Around.over, Around.deeper, marksOver, frameCount, unitsOf, envsOf, guardsOf, pushEnvs, pushGuards, Code.envs, Code.env?, Code.isFrame, Code.guards, Code.isGuard, Code.weight, Code.frames, Code.isCreation, Code.isCaller, Code.cUnits])
section
variable {X : Cx} {pins : List (Addr × Obj)} {σ : L2.St} {H : Hp} {s : Shared}
theorem gen_start {scope : Scope} {own : List (Str × Nat)} {fp : List Addr} {code : Value} {A : Around} {h5 : Heap} {tk : Nat} {gs : Array GenState} {m : Str → Option Value} {a : Addr} {go : Obj} (I : Inv X pins σ H s) (ok : BlkOk X.N X.env.scope scope own) (hN : X.N.Nodup) (hcell : ∀ y ∈ scope.names, y.2 ≠ .cell)
    (hfp : ∀ b ∈ fp, FpOk X pins H b ∧ b < s.heap.objs.size) (hA : A.handled = none) (hfr : A.frames = some (gEnv X scope s.heap.objs.size code :: X.stack)) (kp : ∀ b o, s.heap.get? b = some o → h5.get? b = some o) (hns : h5.Ns s.heap.objs.size m)
    (hgo : h5.get? a = some go) (ha : s.heap.objs.size < a) (hgd : ∀ v, go.data ≠ .cell v) (hb : AllBare gs) :
    Inv (gcx X A s H (gEnv X scope s.heap.objs.size code) fp [(a, go)]) [] (wipe σ (own.map (·.2))) H { s with heap := h5, gens := gs, toks := tk } := by
  have hfree : ∀ y ∈ scope.names, y.2 = .free → ∃ c, X.env.cells.lookup y.1 = some c := fun y hy e => by
    rcases ok.free y hy e with k | k
    · exact I.ok.has _ (.inl k)
    · exact I.ok.has _ (.inr k)
  generalize hcenv : gEnv X scope s.heap.objs.size code = cenv at hfr
  have hL : cenv.locals = s.heap.objs.size := by rw [← hcenv]; rfl
  have hcl : cenv.cells = cloFrom X.env.cells scope.names [] := by rw [← hcenv]; rfl
  have hsc : cenv.scope = scope := by rw [← hcenv]; rfl
  have hF : cenv.frame = some cenv.locals := by rw [← hcenv]; rfl
  have cm : ∀ {y c}, (y, c) ∈ cloFrom X.env.cells scope.names [] → X.env.cells.lookup y = some c ∧ c < s.heap.objs.size := fun {y c} hm => by
    rcases cloFrom_mem hm with hm | ⟨h1, rfl⟩
    · cases hm
    · obtain ⟨c, hc⟩ := hfree _ h1 rfl
      rw [hc]
      obtain ⟨w, z⟩ := I.cell _ _ hc
      exact ⟨rfl, z.lt⟩
  have mem : ∀ {y c}, cenv.cells.lookup y = some c → X.env.cells.lookup y = some c ∧ c < s.heap.objs.size := fun {y c} e => by
    rw [hcl] at e
    exact cm (PySem.mem_of_lookup e)
  have look : ∀ {y}, scope.names.lookup y = some .free → ∃ c, cenv.cells.lookup y = some c ∧ X.env.cells.lookup y = some c := fun {y} hl => by
    have hy : (y, NameKind.free) ∈ scope.names := PySem.mem_of_lookup hl
    obtain ⟨c', e'⟩ := mem_lookup (cloFrom_has (cells := X.env.cells) (acc := []) hy)
    rw [← hcl] at e'
    exact ⟨c', e', (mem e').1⟩
  have kindf : ∀ {y}, (cenv.kindOf y = some .cell ∨ cenv.kindOf y = some .free) → scope.names.lookup y = some .free := fun {y} hy => by
    unfold Env.kindOf at hy
    rw [hsc] at hy
    rcases hy with hy | hy
    · exact absurd rfl (hcell _ (PySem.mem_of_lookup hy))
    · exact hy
  have okB : (gcx X A s H cenv fp [(a, go)]).Ok := by
    refine ⟨I.ok.mod, by show cenv.scope.kind = _; rw [hsc]; exact ok.kind, by show cenv.globals = _; rw [← hcenv]; exact I.ok.glob, by show cenv.builtins = _; rw [← hcenv]; rfl, by show s.heap.objs.size ≤ cenv.locals; rw [hL]; exact Nat.le_refl _,
      fun y z c e1 e2 => ?_, fun y hy => ?_, fun y c z e => absurd z Bool.false_ne_true, fun _ => hA, hfr, .inr ⟨rfl, hF⟩, fun b hb => ⟨?_, fun y c e z => ?_⟩, I.bs, Nat.le_trans I.ok.bsz I.sz, fun b o e hb => ?_, fun b hb z => ?_, I.stack, I.stkFree⟩
    · exact I.ok.inj y z c (mem (show cenv.cells.lookup y = some c from e1)).1 (mem (show cenv.cells.lookup z = some c from e2)).1
    · obtain ⟨c, h1, _⟩ := look (kindf hy)
      exact ⟨c, h1⟩
    · show b ≠ cenv.locals
      rw [hL]; exact Nat.ne_of_lt (hfp b hb).2
    · exact (hfp b hb).1.2.2.2.2.1 y c (mem (show cenv.cells.lookup y = some c from e)).1 z
    · rcases (hfp b hb).1.2.2.2.1 with z | z
      · exact I.ok.noex b o e z
      · exact absurd (Nat.lt_of_lt_of_le (Heap.lt_size e) (Nat.le_trans I.ok.bsz z)) (Nat.lt_irrefl _)
    · rcases List.mem_cons.mp (I.stkSub b z) with z | z
      · exact (hfp b hb).1.2.1 z
      · exact (hfp b hb).1.2.2.1 z
  refine ⟨okB, rfl, hb, Un.kept kp, ⟨m, ?_, fun i y av e1 e2 e3 => ?_⟩, fun y c e => ?_, ?_, fun y c e => ?_, fun p hp => ?_, I.hok.kept kp, by rw [wipe_length]; exact I.len⟩
  · show Heap.Ns _ cenv.locals _
    rw [hL]
    exact hns
  · obtain ⟨e2, hne⟩ := wipe_some e2
    have hfr : scope.names.lookup y = some .free := by
      have e3 : Vis cenv.scope y := e3
      rw [hsc] at e3
      rcases e3 with e3 | e3 | e3
      · rcases ok.own _ (PySem.mem_of_lookup e3) (.inl rfl) with e' | e'
        · obtain ⟨p, hp, hpy⟩ := List.mem_map.mp e'
          have e4 := ok.ix p hp
          have : p.1 = y := hpy
          rw [this] at e4
          exact absurd (List.mem_map.mpr ⟨p, hp, nodup_ix hN e4 e1⟩) hne
        · exact absurd (List.mem_of_getElem? e1) e'
      · exact absurd rfl (hcell _ (PySem.mem_of_lookup e3))
      · exact e3
    obtain ⟨m', hn, hl⟩ := I.loc
    have hvis : Vis X.env.scope y := (ok.free _ (PySem.mem_of_lookup hfr) rfl).elim (fun k => .inr (.inl k)) (fun k => .inr (.inr k))
    obtain ⟨w, r, q⟩ := hl i y av e1 e2 hvis
    refine ⟨w, r, .inr ⟨.inr (by show cenv.scope.names.lookup y = _; rw [hsc]; exact hfr), ?_⟩⟩
    obtain ⟨c, h1, h2⟩ := look hfr
    rcases q with ⟨k, _⟩ | ⟨_, c', e', z⟩
    · have k : X.env.scope.names.lookup y = some .local := k
      rcases ok.free _ (PySem.mem_of_lookup hfr) rfl with k' | k' <;> rw [show X.env.scope.names.lookup y = _ from k'] at k <;> cases k
    · rw [h2] at e'; cases e'
      exact ⟨c, h1, z.keeps kp⟩
  · obtain ⟨w, z⟩ := I.cell y c (mem (show cenv.cells.lookup y = some c from e)).1
    exact ⟨w, z.keeps kp⟩
  · show H cenv.locals = none
    rw [hL]; exact I.hok.fresh (Nat.le_refl _)
  · exact I.freeC y c (mem (show cenv.cells.lookup y = some c from e)).1
  · have hp' : p = (a, go) := by
      have : p ∈ [(a, go)] ++ [] := hp
      rw [List.append_nil] at this
      exact List.mem_singleton.mp this
    subst hp'
    refine ⟨hgo, I.hok.fresh (Nat.le_of_lt ha), ?_, ?_, hgd⟩
    · show a ≠ cenv.locals
      rw [hL]; exact Nat.ne_of_gt ha
    · show a ∉ frs X.stack
      intro z
      rcases List.mem_cons.mp (I.stkSub a z) with z | z
      · exact absurd (Nat.lt_trans I.lt ha) (by rw [z]; exact Nat.lt_irrefl _)
      · exact I.nofs (Nat.le_of_lt ha) z
end
end Gx
set_option Elab.async false
set_option linter.all false
set_option maxRecDepth 100000
set_option maxHeartbeats 4000000
namespace Gx
open PySem PySem.Spec PyProof.Rows L2 GxR GenW
/-- the state behind s1 for the def around: H' stands there, whatever the consumer does to the generators -/
def Out (X : Cx) (pins : List (Addr × Obj)) (σ : L2.St) (H' : Hp) (s1 : Shared) : Prop := ∀ s' : Shared, s'.os = s1.os → AllBare s'.gens → (∀ b o, s1.heap.get? b = some o → s'.heap.get? b = some o) → Inv X pins σ H' s'
/-- the generator sleeps at a turn -/
def gY (X : Cx) (pins : List (Addr × Obj)) (σ : L2.St) (stop : Bool) (Q : VK) (a : Addr) (g : Nat) : Protocol := fun n s₀ v s1 kap =>
  ∃ b : Bool, v = .bool b ∧ s1.heap.IsGen a g ∧ s1.heap.NoLimit ∧ AllBare s1.gens ∧ (b = stop → ∃ H', Out X pins σ H' s1 ∧ Q (.bl stop) H') ∧ (b ≠ stop → ∀ s' : Shared, s'.heap = s1.heap → s'.os = s1.os → AllBare s'.gens → kap (.send .none) s')
def gF (X : Cx) (pins : List (Addr × Obj)) (σ : L2.St) (stop : Bool) (Q : VK) : Nat → Shared → Shared → Prop := fun _ _ s1 => AllBare s1.gens ∧ ∃ H', Out X pins σ H' s1 ∧ Q (.bl (!stop)) H'
def gR (X : Cx) (pins : List (Addr × Obj)) (σ : L2.St) (stop : Bool) (Q : VK) : GenEnd := fun n s₀ r s₁ => ((r = .ok (.ret .none) ∨ r = .ok .next) ∧ gF X pins σ stop Q n s₀ s₁) ∨ ∃ e, r = .error e ∧ (fun (_ : Value) (_ : Shared) => False) e s₁
section
variable {X : Cx} {pins : List (Addr × Obj)} {σ : L2.St} {H : Hp} {s : Shared}
theorem gen_loop {elt tg iter : Expr} {scope : Scope} {pos : Pos} {it : Addr} {B : Around} {s4 : Shared} {H4 : Hp} {cenv : Env} {fp vs : List Addr} {a : Addr} {g : Nat} {go : Obj} {tn : Nat → Heap → Prop} {J : It} {gt : TG} {te : TE} {stop : Bool} {Q : VK} {W : Nat → Nat → Hp → Prop}
    (hc : X.calm = true) (I4 : Inv X pins σ H4 s4) (f4 : ∀ b ∈ fp, FpOk X pins H4 b ∧ b < s4.heap.objs.size) (T : Turn X.prog X.w X.K tg J fp it tn) (hgen : ∀ h : Heap, h.get? a = some go → h.IsGen a g) (hco : cenv.scope.isCoroutine = false) (hag : s4.heap.objs.size ≤ a)
    (pg : PG (gcx X (B.deeper cenv) s4 H4 cenv fp [(a, go)]) tg gt) (pe : PE (gcx X (B.deeper cenv) s4 H4 cenv fp [(a, go)]) elt te)
    (turn : ∀ i m H, W i m H → (J.stop i H ∧ Q (.bl (!stop)) H) ∨ (J.go i H ∧ ∀ x H', J.yld i H x H' → gt x (wipe σ vs) H' fun σ2 H2 => wipe σ2 vs = wipe σ vs ∧ te σ2 H2 fun y H3 => ∃ b, y = .bl b ∧ if b = stop then Q (.bl stop) H3 else ∃ m', m' < m ∧ W (i + 1) m' H3)) :
    ∀ (n i m : Nat) (s₀ s : Shared) (H' : Hp), m < n → Inv (gcx X (B.deeper cenv) s4 H4 cenv fp [(a, go)]) [] (wipe σ vs) H' s → tn i s.heap → (∀ b ∈ fp, H' b = none) → W i m H' →
      Seg (model X.prog X.w) B (gR X pins σ stop Q) (gY X pins σ stop Q a g) n s₀ (.compLoop (.GeneratorExp elt [⟨tg, iter, [], 0⟩] scope pos) 0 (.ref it) .none cenv)
        ((model X.prog X.w).den (.compLoop (.GeneratorExp elt [⟨tg, iter, [], 0⟩] scope pos) 0 (.ref it) .none cenv)) [] s := by
  have ov : B.over (.compLoop (.GeneratorExp elt [⟨tg, iter, [], 0⟩] scope pos) 0 (.ref it) .none cenv) [] = B.deeper cenv := over_gen
  have out : ∀ {H' : Hp} {σ' : L2.St} {pl : List (Addr × Obj)} {s1 : Shared}, Inv (gcx X (B.deeper cenv) s4 H4 cenv fp [(a, go)]) pl σ' H' s1 → Out X pins σ H' s1 := fun {H' σ' pl s1} J1 s' ho hb hk =>
    I4.call' (ch := fp) (ho.trans J1.os) (J1.base.trans (Un.kept hk)) (J1.hok.kept hk) hb fun b hb => ⟨(f4 b hb).1.2.2.2.1, (f4 b hb).1.2.1, (f4 b hb).1.2.2.2.2.1, (f4 b hb).1.2.2.2.2.2⟩
  have isg : ∀ {H' : Hp} {σ' : L2.St} {pl : List (Addr × Obj)} {s1 : Shared}, Inv (gcx X (B.deeper cenv) s4 H4 cenv fp [(a, go)]) pl σ' H' s1 → s1.heap.IsGen a g := fun {H' σ' pl s1} J1 =>
    hgen _ (J1.pin (a, go) (List.mem_append_left _ (List.mem_singleton.mpr rfl))).1
  have stat : ∀ {σ' : L2.St} {H' : Hp} {s' : Shared}, Inv (gcx X (B.deeper cenv) s4 H4 cenv fp [(a, go)]) [] σ' H' s' → (∀ b ∈ fp, H' b = none) → ∀ b ∈ fp, FpOk (gcx X (B.deeper cenv) s4 H4 cenv fp [(a, go)]) [] H' b := fun {σ' H' s'} I' hn b hb =>
    ⟨hn b hb, (I'.ok.exf b hb).1, I'.ok.exfs b hb, .inl hb, fun x c e => (I'.ok.exf b hb).2 x c e, fun p hp => by
      have hp' : p = (a, go) := by
        have : p ∈ [(a, go)] ++ [] := hp
        rw [List.append_nil] at this
        exact List.mem_singleton.mp this
      rw [hp']
      exact Nat.ne_of_gt (Nat.lt_of_lt_of_le (f4 b hb).2 hag)⟩
  intro n
  induction n with
  | zero => exact fun i m s₀ s H' h => absurd h (Nat.not_lt_zero _)
  | succ n ih =>
    intro i m s₀ s H' hm I st nf w
    show Seg _ B _ _ _ s₀ _ ((compTurn (.GeneratorExp elt [⟨tg, iter, [], 0⟩] scope pos) 0 (.ref it) .none cenv).onRaise (leaving cenv)) [] s
    rw [compTurn_gen, Sem.onRaise_eq_wrap]
    refine seg_bind_wrap (wpAny_standAt ?_)
    rcases turn i m H' w with ⟨stp, qq⟩ | ⟨goes, step⟩
    · have td := T.done (gcx X (B.deeper cenv) s4 H4 cenv fp [(a, go)]) rfl rfl rfl hc i [] s _ H' (fun _ _ => False) I (stat I nf) st stp
      refine seg_bind_wrap ?_
      rw [ov]
      refine thnF td fun r s6 ⟨hr, I6⟩ => ?_
      subst hr
      exact seg_end (.ok .next) (.inl ⟨.inr rfl, I6.bare, H', out I6, qq⟩)
    · have ti := T.item (gcx X (B.deeper cenv) s4 H4 cenv fp [(a, go)]) rfl rfl rfl hc i [] s _ H' (fun _ _ => False) I (stat I nf) st goes
      refine seg_bind_wrap ?_
      rw [ov]
      refine thnF ti fun r s6 ⟨u, hr, h6⟩ => ?_
      subst hr
      refine seg_bind_wrap ?_
      rw [ov]
      refine thnF h6 fun _ s7 ⟨x, H7, I7, r7, y7, st7, n7⟩ => ?_
      have I7' := I7.pinned (stat I7 n7) (T.obj _ _ st7)
      refine seg_bind_wrap ?_
      rw [ov]
      refine thnF (pg.run _ s7 _ H7 x u _ I7' r7 (step x H7 y7)) fun _ s8 ⟨σ8, H8, I8, hw8, q8⟩ => ?_
      refine seg_bind_wrap ?_
      rw [ov]
      refine wpAny_tests_nil ?_
      simp only [if_true]
      have hy : ∀ v, yieldOut cenv v = yieldValue v := fun v => by simp only [yieldOut, hco, Bool.false_eq_true, if_false]
      simp only [hy]
      rw [Sem.bind_eq_wrap', Sem.bind_eq_wrap', Sem.wrap_wrap, Sem.wrap_wrap]
      refine seg_wrap ?_
      rw [ov]
      refine thnF (pe.run _ s8 σ8 H8 _ I8 q8) fun z s10 ⟨yv, H10, I10, r10, b, eb, q10⟩ => ?_
      subst eb
      obtain rfl : z = Value.bool b := r10
      have pin' : ∀ b ∈ fp, ∀ o, s7.heap.get? b = some o → s10.heap.get? b = some o ∧ H10 b = none := fun b hb o e =>
        let z := I10.pin (b, o) (List.mem_append_right _ (List.mem_append_right _ (mem_pinsAt hb e)))
        ⟨z.1, z.2.1⟩
      have hl : (wipe σ vs).length = σ8.length := by rw [← hw8, wipe_length]
      have I11 : Inv (gcx X (B.deeper cenv) s4 H4 cenv fp [(a, go)]) [] (wipe σ vs) H10 s10 := (I10.unpinned (pins := [])).weak hl (fun j v e => by rw [← hw8] at e; exact (wipe_some e).1)
      refine seg_at (seg_yield rfl rfl rfl ⟨b, rfl, isg I11, I11.nolimit, I11.bare, fun hb => ?_, fun hb s' eh eo hbare => ?_⟩)
      · rw [if_pos hb] at q10
        exact ⟨H10, out I11, q10⟩
      · rw [if_neg hb] at q10
        obtain ⟨m', hm', w'⟩ := q10
        have I12 : Inv (gcx X (B.deeper cenv) s4 H4 cenv fp [(a, go)]) [] (wipe σ vs) H10 s' := I11.call' (ch := []) eo (Un.kept fun b o e => by rw [eh]; exact e) (I11.hok.kept fun b o e => by rw [eh]; exact e) hbare (fun b z => absurd z (by simp))
        refine seg_again rfl (ih (i + 1) m' s' s' H10 (by omega) I12 (T.keep _ _ _ st7 fun b hb o e => by rw [eh]; exact (pin' b hb o e).1) (fun b hb => ?_) w')
        obtain ⟨o, e, _⟩ := T.obj _ _ st7 b hb
        exact (pin' b hb o e).2
end
end Gx
set_option Elab.async false
set_option linter.all false
set_option maxRecDepth 100000
set_option maxHeartbeats 4000000
namespace Gx
open PySem PySem.Spec PyProof.Rows L2 GxR GenW
/-- a generator that sleeps, ready for n more turns -/
def GSt (X : Cx) (pins : List (Addr × Obj)) (σ : L2.St) (B : Around) (stop : Bool) (Q : VK) (a : Addr) (g n : Nat) (s : Shared) : Prop :=
  s.heap.IsGen a g ∧ s.heap.NoLimit ∧ AllBare s.gens ∧ ∃ gs, s.gens[g]? = some gs ∧ ∀ s'' : Shared, s''.heap = s.heap → s''.os = s.os → AllBare s''.gens → gs.Goes (model X.prog X.w) B (gR X pins σ stop Q) (gY X pins σ stop Q a g) n (.send .none) s''
section
variable {X : Cx} {pins : List (Addr × Obj)} {σ : L2.St} {A : Around} {R : Result → Shared → Prop} {Q : VK} {a : Addr} {g : Nat}
theorem all_loop (hh : A.handled = none) (hd : A.depth < recursionLimit) (hR : ∀ u s', EP X pins σ Q u s' → R (.ok (.ret u)) s') : ∀ (n : Nat) (s : Shared), GSt X pins σ A.in1.in1 false Q a g n s →
    codeAny (model X.prog X.w) A (.builtin "all.loop" ⟨[.ref a], []⟩) R s := by
  intro n
  induction n with
  | zero =>
    intro s ⟨hg, hl, hba, gs, hgs, hgo⟩
    refine codeAny_builtin F.entry_all_loop ?_
    rw [Around.under_plainId F.plain_all_loop _]
    show wpAny _ A.in1 (pyNext (.ref a) >>= _) _ _ s
    refine wpAny_bind (next_genG (A := A.in1) (F := gF X pins σ false Q) (Er := fun _ _ => False) hh hl hd hg hgs (hgo _ rfl rfl (allBare_setGen hba rfl)) (fun v s₁ gs' hbare hv => ?_) (fun s₁ hp h' hk => ?_) fun e s₁ he => he.elim)
    · obtain ⟨b, rfl, hg1, hl1, hb1, h1, h2⟩ := hv
      cases b with
      | true => exact (h2 (by decide) _ rfl rfl hb1).elim
      | false =>
        obtain ⟨H', o1, q1⟩ := h1 rfl
        refine wpAny_bind (wpAny_holding (wpAny_truthy_bool ?_))
        refine wpAny_bind (wpAny_letGo ?_)
        simp only [Bool.false_eq_true, if_false]
        exact wpAny_bind (wpAny_rule (wpAny_pure (hR _ _ ⟨.bl false, H', o1 _ rfl (allBare_setGen hb1 hbare) fun b o e => e, rfl, q1⟩)))
    · obtain ⟨hb1, H', o1, q1⟩ := hp
      exact wpAny_bind (wpAny_rule (wpAny_pure (hR _ _ ⟨.bl true, H', o1 _ rfl (allBare_setGen hb1 rfl) hk, rfl, q1⟩)))
  | succ n ih =>
    intro s ⟨hg, hl, hba, gs, hgs, hgo⟩
    have hgl : g < s.gens.size := (Array.getElem?_eq_some_iff.mp hgs).1
    refine codeAny_builtin F.entry_all_loop ?_
    rw [Around.under_plainId F.plain_all_loop _]
    show wpAny _ A.in1 (pyNext (.ref a) >>= _) _ _ s
    refine wpAny_bind (wpAny_gsz (n := g + 1) hgl (next_genG (A := A.in1) (F := gF X pins σ false Q) (Er := fun _ _ => False) hh hl hd hg hgs (hgo _ rfl rfl (allBare_setGen hba rfl)) (fun v s₁ gs' hbare hv => ?_) (fun s₁ hp h' hk => ?_) fun e s₁ he => he.elim))
    · intro hsz
      obtain ⟨b, rfl, hg1, hl1, hb1, h1, h2⟩ := hv
      have hsz1 : g < s₁.gens.size := by
        have q : (s₁.setGen g gs').gens.size = s₁.gens.size := setGen_size _ _ _
        have hsz' : g + 1 ≤ (s₁.setGen g gs').gens.size := hsz
        omega
      refine wpAny_bind (wpAny_holding (wpAny_truthy_bool ?_))
      refine wpAny_bind (wpAny_letGo ?_)
      cases b with
      | true =>
        simp only [if_true]
        refine wpAny_pure ⟨plainId_quiet F.plain_all_loop _, ih (s₁.setGen g gs') ⟨hg1, hl1, allBare_setGen hb1 hbare, gs', setGen_at hsz1, fun s'' eh eo hb => ?_⟩⟩
        exact h2 (by decide) s'' eh eo hb
      | false =>
        obtain ⟨H', o1, q1⟩ := h1 rfl
        simp only [Bool.false_eq_true, if_false]
        exact wpAny_bind (wpAny_rule (wpAny_pure (hR _ _ ⟨.bl false, H', o1 _ rfl (allBare_setGen hb1 hbare) fun b o e => e, rfl, q1⟩)))
    · intro hsz
      obtain ⟨hb1, H', o1, q1⟩ := hp
      exact wpAny_bind (wpAny_rule (wpAny_pure (hR _ _ ⟨.bl true, H', o1 _ rfl (allBare_setGen hb1 rfl) hk, rfl, q1⟩)))
theorem any_loop (hh : A.handled = none) (hd : A.depth < recursionLimit) (hR : ∀ u s', EP X pins σ Q u s' → R (.ok (.ret u)) s') : ∀ (n : Nat) (s : Shared), GSt X pins σ A.in1.in1 true Q a g n s →
    codeAny (model X.prog X.w) A (.builtin "any.loop" ⟨[.ref a], []⟩) R s := by
  intro n
  induction n with
  | zero =>
    intro s ⟨hg, hl, hba, gs, hgs, hgo⟩
    refine codeAny_builtin F.entry_any_loop ?_
    rw [Around.under_plainId F.plain_any_loop _]
    show wpAny _ A.in1 (pyNext (.ref a) >>= _) _ _ s
    refine wpAny_bind (next_genG (A := A.in1) (F := gF X pins σ true Q) (Er := fun _ _ => False) hh hl hd hg hgs (hgo _ rfl rfl (allBare_setGen hba rfl)) (fun v s₁ gs' hbare hv => ?_) (fun s₁ hp h' hk => ?_) fun e s₁ he => he.elim)
    · obtain ⟨b, rfl, hg1, hl1, hb1, h1, h2⟩ := hv
      cases b with
      | false => exact (h2 (by decide) _ rfl rfl hb1).elim
      | true =>
        obtain ⟨H', o1, q1⟩ := h1 rfl
        refine wpAny_bind (wpAny_holding (wpAny_truthy_bool ?_))
        refine wpAny_bind (wpAny_letGo ?_)
        simp only [if_true]
        exact wpAny_bind (wpAny_rule (wpAny_pure (hR _ _ ⟨.bl true, H', o1 _ rfl (allBare_setGen hb1 hbare) fun b o e => e, rfl, q1⟩)))
    · obtain ⟨hb1, H', o1, q1⟩ := hp
      exact wpAny_bind (wpAny_rule (wpAny_pure (hR _ _ ⟨.bl false, H', o1 _ rfl (allBare_setGen hb1 rfl) hk, rfl, q1⟩)))
  | succ n ih =>
    intro s ⟨hg, hl, hba, gs, hgs, hgo⟩
    have hgl : g < s.gens.size := (Array.getElem?_eq_some_iff.mp hgs).1
    refine codeAny_builtin F.entry_any_loop ?_
    rw [Around.under_plainId F.plain_any_loop _]
    show wpAny _ A.in1 (pyNext (.ref a) >>= _) _ _ s
    refine wpAny_bind (wpAny_gsz (n := g + 1) hgl (next_genG (A := A.in1) (F := gF X pins σ true Q) (Er := fun _ _ => False) hh hl hd hg hgs (hgo _ rfl rfl (allBare_setGen hba rfl)) (fun v s₁ gs' hbare hv => ?_) (fun s₁ hp h' hk => ?_) fun e s₁ he => he.elim))
    · intro hsz
      obtain ⟨b, rfl, hg1, hl1, hb1, h1, h2⟩ := hv
      have hsz1 : g < s₁.gens.size := by
        have q : (s₁.setGen g gs').gens.size = s₁.gens.size := setGen_size _ _ _
        have hsz' : g + 1 ≤ (s₁.setGen g gs').gens.size := hsz
        omega
      refine wpAny_bind (wpAny_holding (wpAny_truthy_bool ?_))
      refine wpAny_bind (wpAny_letGo ?_)
      cases b with
      | false =>
        simp only [Bool.false_eq_true, if_false]
        refine wpAny_pure ⟨plainId_quiet F.plain_any_loop _, ih (s₁.setGen g gs') ⟨hg1, hl1, allBare_setGen hb1 hbare, gs', setGen_at hsz1, fun s'' eh eo hb => ?_⟩⟩
        exact h2 (by decide) s'' eh eo hb
      | true =>
        obtain ⟨H', o1, q1⟩ := h1 rfl
        simp only [if_true]
        exact wpAny_bind (wpAny_rule (wpAny_pure (hR _ _ ⟨.bl true, H', o1 _ rfl (allBare_setGen hb1 hbare) fun b o e => e, rfl, q1⟩)))
    · intro hsz
      obtain ⟨hb1, H', o1, q1⟩ := hp
      exact wpAny_bind (wpAny_rule (wpAny_pure (hR _ _ ⟨.bl false, H', o1 _ rfl (allBare_setGen hb1 rfl) hk, rfl, q1⟩)))
end
end Gx
set_option Elab.async false
set_option linter.all false
set_option maxRecDepth 100000
set_option maxHeartbeats 4000000
namespace Gx
open PySem PySem.Spec PyProof.Rows L2 GxR GenW
/-- what a generator expression's reading asks, its iterator at hand: P the running def's table -/
def gTurns (stop : Bool) (P : Addr) (gt : TG) (te : TE) (vs : List Nat) (σ : L2.St) (Q : VK) (J : It) (H1 : Hp) : Prop := TabG H1 P ∧ ∀ H2, Tabbed P H1 H2 → ∃ W : Nat → Nat → Hp → Prop, (∃ m, W 0 m H2) ∧
  ∀ i m H, W i m H → (J.stop i H ∧ Q (.bl (!stop)) H) ∨ (J.go i H ∧ ∀ x H', J.yld i H x H' → gt x (wipe σ vs) H' fun σ2 H2 => wipe σ2 vs = wipe σ vs ∧ te σ2 H2 fun y H3 => ∃ b, y = .bl b ∧ if b = stop then Q (.bl stop) H3 else ∃ m', m' < m ∧ W (i + 1) m' H3)
section
variable {X : Cx} {pins : List (Addr × Obj)} {σ : L2.St} {H : Hp} {s : Shared}
theorem gen_make {c P : Addr} {elt tg iter : Expr} {scope : Scope} {own : List (Str × Nat)} {gpos : Pos} {wi : TI} {gt : TG} {te : TE} {stop : Bool} {Q : VK} {Q' : Value → Shared → Prop} {k : Nat}
    (hc : X.calm = true) (hN : X.N.Nodup) (hr : Room (k + 1) X.A) (TB : TabB X.base X.mg c P) (hcode : X.env.code = .ref c) (ok : BlkOk X.N X.env.scope scope own) (hcell : ∀ y ∈ scope.names, y.2 ≠ .cell) (hdot : scope.names.lookup (".0" : Str) = some NameKind.local) (hco : scope.isCoroutine = false)
    (hi : PI X tg iter wi) (hg : ∀ A s H C code fp pn, PG (gcx X A s H (gEnv X scope C code) fp pn) tg gt) (he : ∀ A s H C code fp pn, Room k A → PE (gcx X A s H (gEnv X scope C code) fp pn) elt te)
    (hs : ∀ v, genFold iter X.env v = pure v) (I : Inv X pins σ H s) (h : wi σ H (gTurns stop P gt te (own.map (·.2)) σ Q))
    (hQ : ∀ a g n s5, GSt X pins σ X.A.in1.in1 stop Q a g n s5 → Q' (.ref a) s5) :
    wpAny (model X.prog X.w) X.A (eval (.GeneratorExp elt [⟨tg, iter, [], 0⟩] scope gpos) X.env) Q' X.xe s := by
  have hfree : ∀ y ∈ scope.names, y.2 = .free → ∃ c, X.env.cells.lookup y.1 = some c := fun y hy e => by
    rcases ok.free y hy e with k | k
    · exact I.ok.has _ (.inl k)
    · exact I.ok.has _ (.inr k)
  refine wpAny_GeneratorExp_make hco (closure_ok hfree) hcell hdot ok.kind hr.depth (thn (hi.run pins s σ H _ I h) fun xv s1 hx => thn hx fun itv s2 h2 => ?_) hs
  obtain ⟨it, fp, tn, J, H2, e, I2, T, st2, f2, ⟨ps, hP, htr⟩, q⟩ := h2
  subst e
  have hPs : s2.heap.get? P = some { cls := .none, data := .fields ps } := I2.hok P _ hP
  have hPlt : P < s2.heap.objs.size := Heap.lt_size hPs
  have cd : PySem.W.CodeHd s2.heap c P := TB.code.keeps fun b u e => I2.bk b u e
  have nP : ∀ b ∈ fp, b ≠ P := fun b hb z => by
    have := (f2 b hb).1
    rw [z, hP] at this
    cases this
  have sz : ∀ b ∈ fp, b < s2.heap.objs.size := fun b hb => by
    obtain ⟨o, e, _⟩ := T.obj _ _ st2 b hb
    exact Heap.lt_size e
  have cont : ∀ (code : Value) (h3 : Heap) (tk : Nat) (ps' : Array Value), Heap.ExtBut P s2.heap h3 → s2.heap.objs.size ≤ h3.objs.size → h3.get? P = some { cls := .none, data := .fields ps' } → (∃ more, ps' = ps ++ more) → TriplesOk ps'.toList →
      wpAny (model X.prog X.w) X.A (builtinsFor X.env.globals X.env.builtins) (fun bi s₄ => ∀ h', h'.Ns s₄.heap.objs.size (fun y => if y = ".0" then some (.ref it) else none) → Heap.SameBut s₄.heap.objs.size (s₄.heap.push { cls := .type "frame", data := .dict #[] }) h' →
          Q' (.ref h'.objs.size) { s₄ with
            gens := s₄.gens.push (.fresh (.compStart (.GeneratorExp elt [⟨tg, iter, [], 0⟩] scope gpos) 0 (.ref it) .none (genEnv scope (cloFrom X.env.cells scope.names []) s₄.heap.objs.size code bi X.env))),
            toks := s₄.toks + 1 + 1 + 1,
            heap := h'.push { cls := .type "generator", data := .fields #[.int s₄.gens.size 0, .str "<genexpr>" (s₄.toks + 1), .str (X.env.qual ++ "<genexpr>") (s₄.toks + 1 + 1)] } }) X.xe { s2 with heap := h3, toks := tk } := by
    rintro code h3 tk ps' hx hsz hP3 ⟨more, rfl⟩ ht3
    obtain ⟨bm, ob, e1, e2, e3, e4, e5, e6, e7, e8⟩ := TB.bm
    have keep3 : ∀ b u, b ≠ P → s2.heap.get? b = some u → h3.get? b = some u := fun b u hb e => hx b u hb e
    have J4 : Inv X pins σ (upd H2 P (.tbl (ps ++ more))) { s2 with heap := h3, toks := tk } := inv_tab (g' := s2.gens) (d' := s2.drawn) I2 hP keep3 hP3 I2.bare
    refine wpAny_builtinsFor (m := X.mg) (by rw [I2.ok.glob]; exact (I2.mod.glob.keeps I2.bk).extBut hx TB.gP) e1 e2 (keep3 _ _ e4 (I2.bk _ _ e5)) e6 e7 e8 ?_
    intro h' hn' hs'
    have hsz' : h'.objs.size = h3.objs.size + 1 := by rw [hs'.1, Heap.size_push]
    have keep' : ∀ b o, h3.get? b = some o → h'.get? b = some o := fun b o e => hs'.extBut b o (Nat.ne_of_lt (Heap.lt_size e)) (Heap.get?_push_of_some _ e)
    generalize hgo : ({ cls := .type "generator", data := .fields #[.int s2.gens.size 0, .str "<genexpr>" (tk + 1), .str (X.env.qual ++ "<genexpr>") (tk + 1 + 1)] } : Obj) = go
    have keep5 : ∀ b o, h3.get? b = some o → (h'.push go).get? b = some o := fun b o e => Heap.get?_push_of_some _ (keep' b o e)
    have hat : (h'.push go).get? h'.objs.size = some go := Heap.get?_push_size _ (by rw [← hgo]; rfl)
    have hgen : ∀ hh : Heap, hh.get? h'.objs.size = some go → hh.IsGen h'.objs.size s2.gens.size := fun hh e => ⟨go, _, _, e, by rw [← hgo], by rw [← hgo], by rw [← hgo]⟩
    have hTab : Tabbed P H2 (upd H2 P (.tbl (ps ++ more))) := ⟨⟨ps ++ more, upd_same, ht3⟩, fun b hb => upd_ne hb⟩
    obtain ⟨W, ⟨m0, w0⟩, turn⟩ := q _ hTab
    have f4 : ∀ b ∈ fp, FpOk X pins (upd H2 P (.tbl (ps ++ more))) b ∧ b < h3.objs.size := fun b hb => ⟨⟨by rw [upd_ne (nP b hb)]; exact (f2 b hb).1, (f2 b hb).2⟩, Nat.lt_of_lt_of_le (sz b hb) hsz⟩
    have st5 : tn 0 (h'.push go) := T.keep _ _ _ st2 fun b hb o e => keep5 b o (keep3 b o (nP b hb) e)
    refine hQ h'.objs.size s2.gens.size (m0 + 1) _ ⟨hgen _ hat, J4.nolimit.keeps keep5, I2.bare.push rfl, _, Array.getElem?_push_size .., fun s'' eh eo hb => ⟨rfl, ?_⟩⟩
    have hB : X.A.in1.in1.handled = none := hr.hd
    have J5 := gen_start (code := code) (A := X.A.in1.in1.deeper (gEnv X scope h3.objs.size code)) (h5 := h'.push go) (tk := tk + 1 + 1 + 1) (gs := s2.gens.push (.fresh (.compStart (.GeneratorExp elt [⟨tg, iter, [], 0⟩] scope gpos) 0 (.ref it) .none (gEnv X scope h3.objs.size code)))) (a := h'.objs.size) (go := go) J4 ok hN hcell f4 hB
      (Around.frames_deeper (show X.A.in1.in1.frames = some X.stack from I2.ok.frames)) keep5 (hn'.push _) hat (show h3.objs.size < h'.objs.size by omega) (fun v z => by rw [← hgo] at z; cases z) (I2.bare.push rfl)
    have J6 : Inv _ [] _ _ s'' := J5.call' (ch := []) eo (Un.kept fun b o e => by rw [eh]; exact e) (J5.hok.kept fun b o e => by rw [eh]; exact e) hb (fun b z => absurd z (by simp))
    have hrB : Room k (X.A.in1.in1.deeper (gEnv X scope h3.objs.size code)) := ⟨hr.hd, by have := hr.dp; show X.A.depth + 1 + 3 * k + 5 < _; omega, by have := hr.un; show X.A.units + 1 + 1 + 3 + 16 * k + 200 < _; omega⟩
    have loop := gen_loop (iter := iter) (scope := scope) (pos := gpos) (B := X.A.in1.in1) (stop := stop) (Q := Q) (vs := own.map (·.2)) hc J4 f4 T hgen (show (gEnv X scope h3.objs.size code).scope.isCoroutine = false from hco) (show h3.objs.size ≤ h'.objs.size by omega) (hg _ _ _ _ _ _ _) (he _ _ _ _ _ _ _ hrB) turn (m0 + 1) 0 m0 s'' s'' _ (Nat.lt_succ_self _) J6 (by rw [eh]; exact st5) (fun b hb => (f4 b hb).1.1) w0
    show Seg _ X.A.in1.in1 _ _ _ s'' _ ((compStart (.GeneratorExp elt [⟨tg, iter, [], 0⟩] scope gpos) 0 (.ref it) .none (gEnv X scope h3.objs.size code)).onRaise (leaving (gEnv X scope h3.objs.size code))) [] s''
    unfold compStart
    rw [Sem.onRaise_eq_wrap]
    show Seg _ X.A.in1.in1 _ _ _ s'' _ ((ask >>= _).wrap _ _ _ _) [] s''
    refine seg_bind_wrap (wpAny_askSetting ?_)
    have stS : tn 0 s''.heap := by rw [eh]; exact st5
    split
    · exact seg_again rfl loop
    · first
        | exact seg_bind_wrap (wpAny_rule (seg_bind_wrap (wpAny_standAt (seg_bind_wrap (T.self _ 0 s'' _ _ stS (seg_again rfl loop))))))
        | (refine seg_bind_wrap (wpAny_rule ?_); show Seg _ X.A.in1.in1 _ _ _ s'' _ ((standAt iter.pos >>= _).wrap _ _ _ _) [] s''; exact seg_bind_wrap (wpAny_standAt (seg_bind_wrap (T.self _ 0 s'' _ _ stS (seg_again rfl loop)))))
  refine ⟨I2.nolimit, ?_⟩
  cases hf : codeAmong gpos ps.toList with
  | none =>
    refine wpAny_genexprCodeX hcode (cd.code hPs htr) (cd.tab hPs) hf fun c' h' tk hx hge hlt hco' _ htab' _ => ?_
    obtain ⟨o1, vs, f1, tf, fl, tg, inF, tx, tt, op, _, _, _, _, _, _, _, _, _, htr', _⟩ := hco'
    exact cont _ h' tk _ hx (Nat.le_trans hge (Nat.le_of_lt hlt)) htab'.2 ⟨_, rfl⟩ htr'
  | some cv =>
    refine wpAny_genexprCode_hit hcode (cd.code hPs htr) hf ?_
    exact cont cv s2.heap s2.toks ps (Heap.ExtBut.refl _ _) (Nat.le_refl _) hPs ⟨#[], by simp⟩ htr
end
end Gx
set_option Elab.async false
set_option linter.all false
set_option maxRecDepth 100000
set_option maxHeartbeats 4000000
namespace Gx
open PySem PySem.Spec PyProof.Rows L2 GxR GenW
/-- all(e for x in xs): the reading -/
def tGx (stop : Bool) (P : Addr) (wi : TI) (gt : TG) (te : TE) (vs : List Nat) : TE := fun σ H Q => wi σ H (gTurns stop P gt te vs σ Q)
section
variable {X : Cx}
theorem pe_allG {c P : Addr} {elt tg iter : Expr} {scope : Scope} {own : List (Str × Nat)} {gpos p pos : Pos} {wi : TI} {gt : TG} {te : TE} {k : Nat}
    (hc : X.calm = true) (hN : X.N.Nodup) (hr : Room (k + 1) X.A) (hg0 : Gl X "all") (hm : X.mg "all" = none) (TB : TabB X.base X.mg c P) (hcode : X.env.code = .ref c) (hi : PI X tg iter wi) (ok : BlkOk X.N X.env.scope scope own) (hcell : ∀ y ∈ scope.names, y.2 ≠ .cell)
    (hdot : scope.names.lookup (".0" : Str) = some NameKind.local) (hg : ∀ A s H C code fp pn, PG (gcx X A s H (gEnv X scope C code) fp pn) tg gt) (he : ∀ A s H C code fp pn, Room k A → PE (gcx X A s H (gEnv X scope C code) fp pn) elt te)
    (hs : ∀ v, genFold iter X.env v = pure v := by intro _; rfl) (hco : scope.isCoroutine = false := by rfl)
    (he0 : starEach [.GeneratorExp elt [⟨tg, iter, [], 0⟩] scope gpos] X.env = (false, eval (.GeneratorExp elt [⟨tg, iter, [], 0⟩] scope gpos) X.env) :: starEach [] X.env := by rfl) :
    PE X (.Call (.Name "all" p) [.GeneratorExp elt [⟨tg, iter, [], 0⟩] scope gpos] [] pos) (tGx false P wi gt te (own.map (·.2))) := by
  refine ⟨fun pins s σ H Q I h => ?_⟩
  refine wpAny_Call_Name_kw (ld_blt I hg0 hm (show bootBuiltins "all" = some (.builtin "all") by decide +kernel) ?_)
  refine PyProof.Rows.callWith_builtin1 ?_ he0 (by rfl)
  rw [he0]
  show wpAny _ _ (spliced ((false, eval (.GeneratorExp elt [⟨tg, iter, [], 0⟩] scope gpos) X.env) :: backTo pos (starEach [] X.env))) _ _ s
  refine Calls.spliced_cons (gen_make (stop := false) (Q := Q) hc hN hr TB hcode ok hcell hdot hco hi hg he hs I h fun a g n s5 hG => ?_)
  refine Calls.spliced_nil ?_
  refine call_function_tree F.kind_all F.plain_all F.entry_all (F.args_all1 _) ?_
  unfold Builtin.«all»
  refine wpAny_bind (m := oneArg "all" _) (wpAny_pure ?_)
  obtain ⟨hg1, hl1, hb1, hrest⟩ := hG
  refine wpAny_bind ?_
  refine wpAny_pyIter_gen hg1 ?_
  exact wpAny_pure ⟨plainId_quiet F.plain_all_loop _, all_loop hr.hd hr.depth (fun u s' z => z) n s5 ⟨hg1, hl1, hb1, hrest⟩⟩
theorem pe_anyG {c P : Addr} {elt tg iter : Expr} {scope : Scope} {own : List (Str × Nat)} {gpos p pos : Pos} {wi : TI} {gt : TG} {te : TE} {k : Nat}
    (hc : X.calm = true) (hN : X.N.Nodup) (hr : Room (k + 1) X.A) (hg0 : Gl X "any") (hm : X.mg "any" = none) (TB : TabB X.base X.mg c P) (hcode : X.env.code = .ref c) (hi : PI X tg iter wi) (ok : BlkOk X.N X.env.scope scope own) (hcell : ∀ y ∈ scope.names, y.2 ≠ .cell)
    (hdot : scope.names.lookup (".0" : Str) = some NameKind.local) (hg : ∀ A s H C code fp pn, PG (gcx X A s H (gEnv X scope C code) fp pn) tg gt) (he : ∀ A s H C code fp pn, Room k A → PE (gcx X A s H (gEnv X scope C code) fp pn) elt te)
    (hs : ∀ v, genFold iter X.env v = pure v := by intro _; rfl) (hco : scope.isCoroutine = false := by rfl)
    (he0 : starEach [.GeneratorExp elt [⟨tg, iter, [], 0⟩] scope gpos] X.env = (false, eval (.GeneratorExp elt [⟨tg, iter, [], 0⟩] scope gpos) X.env) :: starEach [] X.env := by rfl) :
    PE X (.Call (.Name "any" p) [.GeneratorExp elt [⟨tg, iter, [], 0⟩] scope gpos] [] pos) (tGx true P wi gt te (own.map (·.2))) := by
  refine ⟨fun pins s σ H Q I h => ?_⟩
  refine wpAny_Call_Name_kw (ld_blt I hg0 hm (show bootBuiltins "any" = some (.builtin "any") by decide +kernel) ?_)
  refine PyProof.Rows.callWith_builtin1 ?_ he0 (by rfl)
  rw [he0]
  show wpAny _ _ (spliced ((false, eval (.GeneratorExp elt [⟨tg, iter, [], 0⟩] scope gpos) X.env) :: backTo pos (starEach [] X.env))) _ _ s
  refine Calls.spliced_cons (gen_make (stop := true) (Q := Q) hc hN hr TB hcode ok hcell hdot hco hi hg he hs I h fun a g n s5 hG => ?_)
  refine Calls.spliced_nil ?_
  refine call_function_tree F.kind_any F.plain_any F.entry_any (F.args_any1 _) ?_
  unfold Builtin.«any»
  refine wpAny_bind (m := oneArg "any" _) (wpAny_pure ?_)
  obtain ⟨hg1, hl1, hb1, hrest⟩ := hG
  refine wpAny_bind ?_
  refine wpAny_pyIter_gen hg1 ?_
  exact wpAny_pure ⟨plainId_quiet F.plain_any_loop _, any_loop hr.hd hr.depth (fun u s' z => z) n s5 ⟨hg1, hl1, hb1, hrest⟩⟩
end
end Gx
set_option Elab.async false
set_option linter.all false
set_option maxRecDepth 100000
set_option maxHeartbeats 4000000
namespace Gx
open PySem PySem.Spec PyProof.Rows L2 GxR Evl
/-! a def whose code object is known -/
structure FunC (K : PySem.W.Frag) (x qual : Str) (st : Stmt) (f : Addr) (fd : FuncData) (c : Addr) : Prop where
  fc : ∃ (oc : Value) (od : Option Addr) (kV doc pm : Value) (an : Option Addr) (ct : Value) (osl : Array (Option Value)), fd = PySem.W.fnOf x qual (defArgs st) (defBody st) (defScope st) .none kV doc pm an (.ref c) ct ∧ K.lookup f = some ⟨oc, od, .func fd, osl⟩ ∧ PySem.W.codeIn K (.ref c) qual = true
  kp : PySem.W.keepIn K (.ref f) = true
section
variable {P : Program} {w : World} {K : PySem.W.Frag} {mg : Str → Option Value} {base : Heap}
theorem FunC.okC {x qual : Str} {st : Stmt} {f c : Addr} {fd : FuncData} {N ps : List Str} {k : Nat} {sp : Sp} (F : FunC K x qual st f fd c) (S : FnScope N ps (defScope st)) (len : ∀ vs H Q E, sp vs H Q E → vs.length = ps.length)
    (body : ∀ (A : Around) (outer : List Env) (s : Shared) (H : Hp) (vs : List V) (Q : VK) (E : XK), Room k (A.deeper (envOfC qual (defScope st) s.heap.objs.size f (.ref c))) → sp vs H Q E →
      ∃ t, PSs (cxOf CX0 P w K mg base N qual (defScope st) f (.ref c) A outer s H E).nox (defBody st) t ∧ t { nx := fun _ H' => Q .non H', rt := Q } (start N vs) H) : FnOk P w K mg base CX0 (k + 1) f fd ps sp := by
  obtain ⟨_, _, _, _, _, _, _, _, rfl, h1, h2⟩ := F.fc
  refine fn_of h1 h2 S len fun A outer s H vs Q E hr h => ?_
  obtain ⟨t, a, b⟩ := body A outer s H vs Q E hr h
  exact ⟨t, a.nox, b⟩
theorem FunC.toFun {x qual : Str} {st : Stmt} {f c : Addr} {fd : FuncData} (F : FunC K x qual st f fd c) : Fun K x qual st f fd := by
  obtain ⟨oc, od, kV, doc, pm, an, ct, osl, e, h1, h2⟩ := F.fc
  exact ⟨⟨oc, od, kV, doc, pm, an, _, ct, osl, e, h1, h2⟩, F.kp⟩
end
/-! heaps in which tables grow -/
/-- all that was tracked is as it was, but tables of code objects may have grown -/
structure ET (H H' : Hp) : Prop where
  obj : ∀ b o, H b = some o → (∃ ps, o = .tbl ps) ∨ H' b = some o
  tab : ∀ P, TabG H P → TabG H' P
theorem ET.refl (H : Hp) : ET H H := ⟨fun _ _ h => .inr h, fun _ h => h⟩
theorem ET.trans {H H1 H2 : Hp} (a : ET H H1) (b : ET H1 H2) : ET H H2 := ⟨fun c o h => (a.obj c o h).elim .inl fun z => b.obj c o z, fun P h => b.tab P (a.tab P h)⟩
theorem ET.of {H H' : Hp} (e : Ex H H') : ET H H' := ⟨fun b o h => .inr (e b o h), fun P ⟨ps, h, t⟩ => ⟨ps, e _ _ h, t⟩⟩
theorem ET.grown {P : Addr} {H H' : Hp} (h : TabG H P) (t : Tabbed P H H') : ET H H' := by
  refine ⟨fun b o e => ?_, fun R hR => ?_⟩
  · by_cases hb : b = P
    · obtain ⟨ps, hp, _⟩ := h
      rw [hb, hp] at e
      exact .inl ⟨ps, (Option.some.inj e).symm⟩
    · exact .inr (by rw [t.2 b hb]; exact e)
  · by_cases hb : R = P
    · rw [hb]
      exact t.1
    · obtain ⟨ps, hp, z⟩ := hR
      exact ⟨ps, by rw [t.2 R hb]; exact hp, z⟩
theorem ET.lst {H H' : Hp} (e : ET H H') {a : Addr} {xs : List V} (h : H a = some (.lst xs)) : H' a = some (.lst xs) := (e.obj _ _ h).elim (fun ⟨_, z⟩ => by cases z) id
theorem ET.tup {H H' : Hp} (e : ET H H') {a : Addr} {xs : List V} (h : H a = some (.tup xs)) : H' a = some (.tup xs) := (e.obj _ _ h).elim (fun ⟨_, z⟩ => by cases z) id
/-! the readings of all(..), any(..) by the walked thing -/
section
variable {K : PySem.W.Frag} {P a : Addr} {gt : TG} {te : TE} {vs : List Nat} {σ : L2.St} {Q : VK} {H1 : Hp} {stop : Bool}
theorem gx_by {J : It} {n : Nat} (hT : TabG H1 P) (Pv : Nat → Hp → Prop) (h0 : ∀ H2, Tabbed P H1 H2 → Pv 0 H2) (hstop : ∀ H, Pv n H → J.stop n H) (hgo : ∀ i H, i < n → Pv i H → J.go i H)
    (hs : ∀ i x H H' (N : Hp → Prop), (∀ H3, Pv (i + 1) H3 → N H3) → i < n → Pv i H → J.yld i H x H' → gt x (wipe σ vs) H' fun σ2 H2 => wipe σ2 vs = wipe σ vs ∧ te σ2 H2 fun y H3 => ∃ b, y = .bl b ∧ if b = stop then Q (.bl stop) H3 else N H3)
    (hd : ∀ H, Pv n H → Q (.bl (!stop)) H) : gTurns stop P gt te vs σ Q J H1 := by
  refine ⟨hT, fun H2 t => ⟨fun i m H => i + m = n ∧ Pv i H, ⟨n, Nat.zero_add _, h0 H2 t⟩, ?_⟩⟩
  rintro i m H ⟨e, p⟩
  cases m with
  | zero =>
    have e' : i = n := by omega
    subst e'
    exact .inl ⟨hstop H p, hd H p⟩
  | succ m => exact .inr ⟨hgo i H (by omega) p, fun x H' y => hs i x H H' _ (fun H3 q => ⟨m, Nat.lt_succ_self _, by omega, q⟩) (by omega) p y⟩
theorem gx_tup {xs : List V} (hT : TabG H1 P) (Pv : Nat → Hp → Prop) (h0 : ∀ H2, Tabbed P H1 H2 → Pv 0 H2) (hl : ∀ i H, Pv i H → SqT K H a xs)
    (hs : ∀ i x H (N : Hp → Prop), (∀ H3, Pv (i + 1) H3 → N H3) → xs[i]? = some x → Pv i H → gt x (wipe σ vs) H fun σ2 H2 => wipe σ2 vs = wipe σ vs ∧ te σ2 H2 fun y H3 => ∃ b, y = .bl b ∧ if b = stop then Q (.bl stop) H3 else N H3)
    (hd : ∀ H, Pv xs.length H → Q (.bl (!stop)) H) : gTurns stop P gt te vs σ Q (Itt K a) H1 :=
  gx_by hT Pv h0 (fun H p => ⟨xs, hl _ H p, Nat.le_refl _⟩) (fun i H hi p => ⟨xs, xs[i], hl _ H p, List.getElem?_eq_getElem hi⟩) (fun i x H H' N hN hi p y => by
    obtain ⟨rfl, f⟩ := y
    exact hs i x _ N hN (f xs (hl _ _ p)) p) hd
theorem gx_list {xs : List V} (hT : TabG H1 P) (Pv : Nat → Hp → Prop) (h0 : ∀ H2, Tabbed P H1 H2 → Pv 0 H2) (hl : ∀ i H, Pv i H → SqL K H a xs)
    (hs : ∀ i x H (N : Hp → Prop), (∀ H3, Pv (i + 1) H3 → N H3) → xs[i]? = some x → Pv i H → gt x (wipe σ vs) H fun σ2 H2 => wipe σ2 vs = wipe σ vs ∧ te σ2 H2 fun y H3 => ∃ b, y = .bl b ∧ if b = stop then Q (.bl stop) H3 else N H3)
    (hd : ∀ H, Pv xs.length H → Q (.bl (!stop)) H) : gTurns stop P gt te vs σ Q (Itl K a) H1 :=
  gx_by hT Pv h0 (fun H p => ⟨xs, hl _ H p, Nat.le_refl _⟩) (fun i H hi p => ⟨xs, xs[i], hl _ H p, List.getElem?_eq_getElem hi⟩) (fun i x H H' N hN hi p y => by
    obtain ⟨rfl, f⟩ := y
    exact hs i x _ N hN (f xs (hl _ _ p)) p) hd
theorem gx_str {z : Str} (hT : TabG H1 P) (Pv : Nat → Hp → Prop) (h0 : ∀ H2, Tabbed P H1 H2 → Pv 0 H2)
    (hs : ∀ i c H (N : Hp → Prop), (∀ H3, Pv (i + 1) H3 → N H3) → z.cps.toList[i]? = some c → Pv i H → gt (.str ⟨#[c]⟩) (wipe σ vs) H fun σ2 H2 => wipe σ2 vs = wipe σ vs ∧ te σ2 H2 fun y H3 => ∃ b, y = .bl b ∧ if b = stop then Q (.bl stop) H3 else N H3)
    (hd : ∀ H, Pv z.cps.size H → Q (.bl (!stop)) H) : gTurns stop P gt te vs σ Q (Its z) H1 :=
  gx_by hT Pv h0 (fun H p => Nat.le_refl _) (fun i H hi p => hi) (fun i x H H' N hN hi p y => by
    obtain ⟨rfl, c, hc, rfl⟩ := y
    exact hs i c _ N hN (by rw [Array.getElem?_toList]; exact hc) p) hd
theorem gx_range {lo : Int} {n : Nat} (hT : TabG H1 P) (Pv : Nat → Hp → Prop) (h0 : ∀ H2, Tabbed P H1 H2 → Pv 0 H2)
    (hs : ∀ i H (N : Hp → Prop), (∀ H3, Pv (i + 1) H3 → N H3) → i < n → Pv i H → gt (.int (lo + (i : Int))) (wipe σ vs) H fun σ2 H2 => wipe σ2 vs = wipe σ vs ∧ te σ2 H2 fun y H3 => ∃ b, y = .bl b ∧ if b = stop then Q (.bl stop) H3 else N H3)
    (hd : ∀ H, Pv n H → Q (.bl (!stop)) H) : gTurns stop P gt te vs σ Q (Itr lo n) H1 :=
  gx_by hT Pv h0 (fun H p => Nat.le_refl _) (fun i H hi p => hi) (fun i x H H' N hN hi p y => by
    obtain ⟨rfl, rfl⟩ := y
    exact hs i _ N hN hi p) hd
end
end Gx
set_option Elab.async false
set_option linter.all false
set_option maxRecDepth 100000
set_option maxHeartbeats 4000000
namespace Eh
open PySem PySem.Spec PyProof.Rows L2 Evl GxR Gx
/-! anything: a value that stands for data, all of it tracked -/
mutual
inductive Th (N : Addr) (H : Hp) : V → PyData → Prop
  | non : Th N H .non .none
  | bl (b : Bool) : Th N H (.bl b) (.bool b)
  | int (i : Int) : Th N H (.int i) (.int i)
  | str (x : Str) : Th N H (.str x) (.str x)
  | lst {a : Addr} {xs : List V} {ds : List PyData} : a ≠ N → H a = some (.lst xs) → ThAll N H xs ds → Th N H (.ref a) (.list ds)
  | tup {a : Addr} {xs : List V} {ds : List PyData} : H a = some (.tup xs) → ThAll N H xs ds → Th N H (.ref a) (.tuple ds)
inductive ThAll (N : Addr) (H : Hp) : List V → List PyData → Prop
  | nil : ThAll N H [] []
  | cons {v : V} {vs : List V} {d : PyData} {ds : List PyData} : Th N H v d → ThAll N H vs ds → ThAll N H (v :: vs) (d :: ds)
end
mutual
theorem Th.et {N : Addr} {H H' : Hp} (e : ET H H') : ∀ {v : V} {d : PyData}, Th N H v d → Th N H' v d
  | _, _, .non => .non
  | _, _, .bl b => .bl b
  | _, _, .int i => .int i
  | _, _, .str x => .str x
  | _, _, .lst z h t => .lst z (e.lst h) (ThAll.et e t)
  | _, _, .tup h t => .tup (e.tup h) (ThAll.et e t)
theorem ThAll.et {N : Addr} {H H' : Hp} (e : ET H H') : ∀ {vs : List V} {ds : List PyData}, ThAll N H vs ds → ThAll N H' vs ds
  | _, _, .nil => .nil
  | _, _, .cons a b => .cons (Th.et e a) (ThAll.et e b)
end
mutual
theorem Th.kp {N : Addr} {H H' : Hp} (k : Keep N H H') (no : ∀ xs, H N ≠ some (.tup xs)) : ∀ {v : V} {d : PyData}, Th N H v d → Th N H' v d
  | _, _, .non => .non
  | _, _, .bl b => .bl b
  | _, _, .int i => .int i
  | _, _, .str x => .str x
  | _, _, .lst z h t => .lst z (k _ _ z h) (ThAll.kp k no t)
  | _, _, .tup h t => .tup (k _ _ (fun e => no _ (e ▸ h)) h) (ThAll.kp k no t)
theorem ThAll.kp {N : Addr} {H H' : Hp} (k : Keep N H H') (no : ∀ xs, H N ≠ some (.tup xs)) : ∀ {vs : List V} {ds : List PyData}, ThAll N H vs ds → ThAll N H' vs ds
  | _, _, .nil => .nil
  | _, _, .cons a b => .cons (Th.kp k no a) (ThAll.kp k no b)
end
mutual
theorem Th.dp {K : PySem.W.Frag} {N : Addr} {H : Hp} : ∀ {v : V} {d : PyData}, Th N H v d → Dp K H v d
  | _, _, .non => .non
  | _, _, .bl b => .bl b
  | _, _, .int i => .int i
  | _, _, .str x => .str x
  | _, _, .lst _ h t => .lst (sq_of h) (ThAll.dp t)
  | _, _, .tup h t => .tup (st_of h) (ThAll.dp t)
theorem ThAll.dp {K : PySem.W.Frag} {N : Addr} {H : Hp} : ∀ {vs : List V} {ds : List PyData}, ThAll N H vs ds → DpAll K H vs ds
  | _, _, .nil => .nil
  | _, _, .cons a b => .cons (Th.dp a) (ThAll.dp b)
end
theorem ThAll.len {N : Addr} {H : Hp} : ∀ {vs : List V} {ds : List PyData}, ThAll N H vs ds → vs.length = ds.length
  | _, _, .nil => rfl
  | _, _, .cons _ b => congrArg (· + 1) (ThAll.len b)
theorem ThAll.get {N : Addr} {H : Hp} : ∀ {vs : List V} {ds : List PyData}, ThAll N H vs ds → ∀ {i : Nat} {v : V}, vs[i]? = some v → ∃ d, ds[i]? = some d ∧ Th N H v d
  | _, _, .cons a b, 0, v, h => by
    cases h
    exact ⟨_, rfl, a⟩
  | _, _, .cons a b, i + 1, v, h => ThAll.get b (i := i) h
theorem ThAll.strs {N : Addr} {H : Hp} : ∀ ws : List Str, ThAll N H (ws.map V.str) (ws.map PyData.str)
  | [] => .nil
  | x :: r => .cons (.str x) (ThAll.strs r)
/-- what it is -/
def dTy : PyData → String
  | .none => "NoneType"
  | .bool _ => "bool"
  | .int _ => "int"
  | .str _ => "str"
  | .list _ => "list"
  | .tuple _ => "tuple"
  | .dict _ => "dict"
def isS : PyData → Bool
  | .str _ => true
  | _ => false
def isTu : PyData → Bool
  | .tuple _ => true
  | _ => false
theorem Th.ty {K : PySem.W.Frag} {N : Addr} {H : Hp} {v : V} {d : PyData} (h : Th N H v d) : TyX K H v (.type (dTy d)) := by
  cases h with
  | non => exact .base .non
  | bl b => exact .base (.bl b)
  | int i => exact .base (.int i)
  | str x => exact .base (.str x)
  | lst _ h _ => exact .base (.lst h)
  | tup h _ => exact .base (.tup h)
theorem kit_str {N : Addr} {H : Hp} {v : V} {d : PyData} (h : Th N H v d) : kitB (dTy d) "str" = some (isS d) := by
  cases h with
  | non => exact (by decide +kernel : kitB "NoneType" "str" = some false)
  | bl _ => exact (by decide +kernel : kitB "bool" "str" = some false)
  | int _ => exact (by decide +kernel : kitB "int" "str" = some false)
  | str _ => exact (by decide +kernel : kitB "str" "str" = some true)
  | lst _ _ _ => exact (by decide +kernel : kitB "list" "str" = some false)
  | tup _ _ => exact (by decide +kernel : kitB "tuple" "str" = some false)
theorem kit_tup {N : Addr} {H : Hp} {v : V} {d : PyData} (h : Th N H v d) : kitB (dTy d) "tuple" = some (isTu d) := by
  cases h with
  | non => exact (by decide +kernel : kitB "NoneType" "tuple" = some false)
  | bl _ => exact (by decide +kernel : kitB "bool" "tuple" = some false)
  | int _ => exact (by decide +kernel : kitB "int" "tuple" = some false)
  | str _ => exact (by decide +kernel : kitB "str" "tuple" = some false)
  | lst _ _ _ => exact (by decide +kernel : kitB "list" "tuple" = some false)
  | tup _ _ => exact (by decide +kernel : kitB "tuple" "tuple" = some true)
theorem isi_str {K : PySem.W.Frag} {N : Addr} {H : Hp} {σ : L2.St} {Q : VK} {i : Nat} {v : V} {d : PyData} (hi : σ[i]? = some (some v)) (h : Th N H v d) (q : Q (.bl (isS d)) H) : tCB (rIsi K) (tCons (tVar i) (tCons (tC (.ty "str")) tNil)) σ H Q :=
  ⟨v, hi, v, .ty "str", .type (dTy d), .type "str", isS d, rfl, .ty "str", h.ty, kit_ty (kit_str h), q⟩
theorem isi_tup {K : PySem.W.Frag} {N : Addr} {H : Hp} {σ : L2.St} {Q : VK} {i : Nat} {v : V} {d : PyData} (hi : σ[i]? = some (some v)) (h : Th N H v d) (q : Q (.bl (isTu d)) H) : tCB (rIsi K) (tCons (tVar i) (tCons (tC (.ty "tuple")) tNil)) σ H Q :=
  ⟨v, hi, v, .ty "tuple", .type (dTy d), .type "tuple", isTu d, rfl, .ty "tuple", h.ty, kit_ty (kit_tup h), q⟩
/-! what the two defs and the law's own tell -/
def azB (c : Nat) : Bool := decide (97 ≤ c) && decide (c < 123)
def ltrB (x : Str) : Bool := (decide (1 ≤ x.length) && decide (x.length ≤ 8)) && (cs x).all azB
def isLetterD : PyData → Bool
  | .str x => ltrB x
  | _ => false
def isPartD (least : Nat) : PyData → Bool
  | .tuple ds => (decide (least ≤ ds.length) && decide (ds.length ≤ 4)) && ds.all isLetterD
  | _ => false
def strOf : PyData → Str
  | .str x => x
  | _ => ""
def dLen : PyData → Nat
  | .tuple ds => ds.length
  | _ => 0
def dItems : PyData → List PyData
  | .tuple ds => ds
  | _ => []
/-- the letters of three parts are unlike -/
def unlikeD (o p c : PyData) : Bool := decide ((((dItems o ++ dItems p) ++ dItems c).map strOf).Nodup)
def isSheetD : PyData → Bool
  | .tuple [o, p, c] => ((isPartD 1 o && isPartD 0 p) && isPartD 1 c) && unlikeD o p c
  | _ => false
/-- nothing in it is great; no more than k within one another -/
inductive Gd : Nat → PyData → Prop
  | non {k : Nat} : Gd k .none
  | bl {k : Nat} (b : Bool) : Gd k (.bool b)
  | int {k : Nat} {i : Int} (h : i.natAbs.log2 < 100) : Gd k (.int i)
  | str {k : Nat} {x : Str} (h : x.length ≤ 40) (h2 : ∀ c ∈ x.cps.toList, c < 16 ^ 8) : Gd k (.str x)
  | lst {k : Nat} {ds : List PyData} (n : ds.length ≤ 16) (h : ∀ d ∈ ds, Gd k d) : Gd (k + 1) (.list ds)
  | tup {k : Nat} {ds : List PyData} (n : ds.length ≤ 16) (h : ∀ d ∈ ds, Gd k d) : Gd (k + 1) (.tuple ds)
theorem Gd.up {k : Nat} {d : PyData} (h : Gd k d) : Gd (k + 1) d := by
  induction h with
  | non => exact .non
  | bl b => exact .bl b
  | int h => exact .int h
  | str h h2 => exact .str h h2
  | lst n _ ih => exact .lst n ih
  | tup n _ ih => exact .tup n ih
theorem Gd.mono {k m : Nat} {d : PyData} (h : Gd k d) (hm : k ≤ m) : Gd m d := by
  induction hm with
  | refl => exact h
  | step _ ih => exact ih.up
end Eh
set_option Elab.async false
set_option linter.all false
set_option maxRecDepth 100000
set_option maxHeartbeats 4000000
namespace Eh
open PySem PySem.Spec PyProof.Rows L2 Evl
/-! sayings, as data -/
/-- how many parts stand behind a head -/
def hdN (h : Str) : Option Nat :=
  if h = ("not" : Str) then some 1 else if h = ("both" : Str) then some 2 else if h = ("ahead" : Str) then some 1 else if h = ("beside" : Str) then some 1
  else if h = ("around" : Str) then some 1 else if h = ("since" : Str) then some 2 else if h = ("level" : Str) then some 2 else none
def inL (ls : List Str) : PyData → Bool
  | .str x => decide (x ∈ ls)
  | _ => false
def isArg (ls : List Str) : List PyData → Bool
  | [x] => inL ls x
  | _ => false
def formD (ls : List Str) : PyData → Bool
  | .tuple (.str h :: r) => if h = ("is" : Str) then isArg ls r else decide (hdN h = some r.length)
  | _ => false
def kidsD : PyData → List PyData
  | .tuple (.str h :: r) => if h = ("is" : Str) then [] else r
  | _ => []
theorem formD_eq (ls : List Str) (h : Str) (r : List PyData) : formD ls (.tuple (.str h :: r)) = if h = ("is" : Str) then isArg ls r else decide (hdN h = some r.length) := rfl
theorem kidsD_eq (h : Str) (r : List PyData) : kidsD (.tuple (.str h :: r)) = if h = ("is" : Str) then [] else r := rfl
def sumO : List (Option Nat) → Option Nat
  | [] => some 0
  | none :: _ => none
  | some a :: r => (sumO r).map (a + ·)
/-- how many sayings a saying has in all, no more than n within one another -/
def cnt (ls : List Str) : Nat → PyData → Option Nat
  | 0, _ => none
  | n + 1, d => if formD ls d = true then (sumO ((kidsD d).map (cnt ls n))).map (1 + ·) else none
theorem sumO_cons (x : Option Nat) (r : List (Option Nat)) : sumO (x :: r) = (match x, sumO r with | some a, some b => some (a + b) | _, _ => none) := by
  cases x with
  | none => rfl
  | some a =>
    show (sumO r).map (a + ·) = _
    cases sumO r <;> rfl
theorem sumO_app : ∀ (a b : List (Option Nat)), sumO (a ++ b) = (match sumO a, sumO b with | some x, some y => some (x + y) | _, _ => none)
  | [], b => by
    show sumO b = _
    cases h : sumO b with
    | none => rfl
    | some y =>
      show some y = some (0 + y)
      rw [Nat.zero_add]
  | x :: a, b => by
    rw [List.cons_append, sumO_cons, sumO_app a b, sumO_cons]
    cases x with
    | none => rfl
    | some n =>
      cases sumO a with
      | none => rfl
      | some m =>
        cases sumO b with
        | none => rfl
        | some l =>
          show some (n + (m + l)) = some (n + m + l)
          rw [Nat.add_assoc]
theorem sumO_rev : ∀ a : List (Option Nat), sumO a.reverse = sumO a
  | [] => rfl
  | x :: a => by
    rw [List.reverse_cons, sumO_app, sumO_rev a, sumO_cons x a, sumO_cons x []]
    cases x with
    | none => cases sumO a <;> rfl
    | some n =>
      cases sumO a with
      | none => rfl
      | some m =>
        show some (m + (n + 0)) = some (n + m)
        rw [Nat.add_zero, Nat.add_comm]
theorem cnt_pos {ls : List Str} {n c : Nat} {d : PyData} (h : cnt ls n d = some c) : 1 ≤ c := by
  cases n with
  | zero => cases h
  | succ n =>
    unfold cnt at h
    split at h
    · cases e : sumO ((kidsD d).map (cnt ls n)) with
      | none =>
        rw [e] at h
        cases h
      | some m =>
        rw [e] at h
        have : 1 + m = c := Option.some.inj h
        omega
    · cases h
theorem sumO_up {α : Type} {f g : α → Option Nat} : ∀ (l : List α), (∀ x ∈ l, ∀ c, f x = some c → g x = some c) → ∀ c, sumO (l.map f) = some c → sumO (l.map g) = some c
  | [], _, c, h => h
  | x :: l, hl, c, h => by
    rw [List.map_cons, sumO_cons] at h ⊢
    cases ef : f x with
    | none =>
      rw [ef] at h
      cases h
    | some a =>
      rw [ef] at h
      rw [hl x (.head _) a ef]
      cases es : sumO (l.map f) with
      | none =>
        rw [es] at h
        cases h
      | some b =>
        rw [es] at h
        rw [sumO_up l (fun y hy => hl y (.tail _ hy)) b es]
        exact h
theorem cnt_up {ls : List Str} : ∀ {n c : Nat} {d : PyData}, cnt ls n d = some c → cnt ls (n + 1) d = some c
  | 0, c, d, h => by cases h
  | n + 1, c, d, h => by
    unfold cnt at h ⊢
    split at h
    · rename_i hf
      rw [if_pos hf]
      cases e : sumO ((kidsD d).map (cnt ls n)) with
      | none =>
        rw [e] at h
        cases h
      | some m =>
        rw [e] at h
        rw [sumO_up _ (fun x _ c hc => cnt_up hc) m e]
        exact h
    · cases h
theorem cnt_mono {ls : List Str} {n m c : Nat} {d : PyData} (h : cnt ls n d = some c) (nm : n ≤ m) : cnt ls m d = some c := by
  induction nm with
  | refl => exact h
  | step _ ih => exact cnt_up ih
/-- what is asked of a pile of things, each with how deep it stands -/
def dfs (ls : List Str) : Nat → List (PyData × Nat) → Bool
  | _, [] => true
  | 0, _ :: _ => false
  | n + 1, (d, l) :: W => if l ≤ 8 ∧ formD ls d = true then dfs ls n (((kidsD d).map fun k => (k, l + 1)).reverse ++ W) else false
def okO (n : Nat) : Option Nat → Bool
  | some c => decide (c ≤ n)
  | none => false
theorem dfs_eq (ls : List Str) : ∀ (n : Nat) (W : List (PyData × Nat)), dfs ls n W = okO n (sumO (W.map fun x => cnt ls (9 - x.2) x.1))
  | n, [] => by
    cases n with
    | zero => rfl
    | succ n =>
      show true = decide (0 ≤ n + 1)
      rw [decide_eq_true (Nat.zero_le _)]
  | 0, (d, l) :: W => by
    show false = okO 0 (sumO (cnt ls (9 - l) d :: W.map _))
    rw [sumO_cons]
    cases e : cnt ls (9 - l) d with
    | none => rfl
    | some c =>
      have := cnt_pos e
      cases sumO (W.map fun x => cnt ls (9 - x.2) x.1) with
      | none => rfl
      | some b =>
        show false = decide (c + b ≤ 0)
        rw [decide_eq_false (by omega)]
  | n + 1, (d, l) :: W => by
    show (if l ≤ 8 ∧ formD ls d = true then dfs ls n (((kidsD d).map fun k => (k, l + 1)).reverse ++ W) else false) = okO (n + 1) (sumO (cnt ls (9 - l) d :: W.map _))
    by_cases hl : l ≤ 8
    · obtain ⟨m, hm⟩ : ∃ m, 9 - l = m + 1 := ⟨8 - l, by omega⟩
      have hm2 : 9 - (l + 1) = m := by omega
      by_cases hf : formD ls d = true
      · rw [if_pos ⟨hl, hf⟩, dfs_eq ls n, hm, sumO_cons]
        rw [List.map_append, List.map_reverse, List.map_map, sumO_app, sumO_rev]
        have e1 : ((fun x : PyData × Nat => cnt ls (9 - x.2) x.1) ∘ fun k => (k, l + 1)) = cnt ls m := by
          funext k
          show cnt ls (9 - (l + 1)) k = _
          rw [hm2]
        rw [e1]
        have e2 : cnt ls (m + 1) d = (sumO ((kidsD d).map (cnt ls m))).map (1 + ·) := by
          rw [cnt, if_pos hf]
        rw [e2]
        cases sumO ((kidsD d).map (cnt ls m)) with
        | none => rfl
        | some a =>
          cases sumO (W.map fun x => cnt ls (9 - x.2) x.1) with
          | none => rfl
          | some b =>
            show decide (a + b ≤ n) = decide (1 + a + b ≤ n + 1)
            rw [decide_eq_decide]
            omega
      · rw [if_neg (fun h => hf h.2), hm, cnt, if_neg hf]
        rfl
    · rw [if_neg (fun h => hl h.1), show 9 - l = 0 by omega]
      rfl
/-- the law's own look: layer by layer -/
def dueL (ls : List Str) : Nat → List PyData → Nat → Bool
  | 0, layer, many => layer.isEmpty && decide (many < 16)
  | n + 1, layer, many => if layer.all (formD ls) = true then dueL ls n (layer.flatMap kidsD) (many + layer.length) else false
theorem sum_layer {ls : List Str} {n : Nat} : ∀ layer : List PyData, layer.all (formD ls) = true → sumO (layer.map (cnt ls (n + 1))) = (sumO ((layer.flatMap kidsD).map (cnt ls n))).map (layer.length + ·)
  | [], _ => rfl
  | d :: r, h => by
    rw [List.all_cons, Bool.and_eq_true] at h
    rw [List.map_cons, sumO_cons, sum_layer r h.2, List.flatMap_cons, List.map_append, sumO_app, cnt, if_pos h.1]
    cases sumO ((kidsD d).map (cnt ls n)) with
    | none => rfl
    | some a =>
      cases sumO ((r.flatMap kidsD).map (cnt ls n)) with
      | none => rfl
      | some b =>
        show some (1 + a + (r.length + b)) = some ((r.length + 1) + (a + b))
        congr 1
        omega
theorem sum_bad {ls : List Str} {n : Nat} : ∀ layer : List PyData, layer.all (formD ls) ≠ true → sumO (layer.map (cnt ls (n + 1))) = none
  | [], h => absurd rfl h
  | d :: r, h => by
    rw [List.map_cons, sumO_cons]
    by_cases hf : formD ls d = true
    · rw [sum_bad r (fun z => h (by rw [List.all_cons, hf, z]; rfl))]
      cases cnt ls (n + 1) d <;> rfl
    · rw [cnt, if_neg hf]
theorem due_eq (ls : List Str) : ∀ (n : Nat) (layer : List PyData) (many : Nat), dueL ls n layer many = okO 15 ((sumO (layer.map (cnt ls n))).map (many + ·))
  | 0, layer, many => by
    cases layer with
    | nil =>
      show (true && decide (many < 16)) = decide (many + 0 ≤ 15)
      rw [Bool.true_and, decide_eq_decide]
      omega
    | cons d r => rfl
  | n + 1, layer, many => by
    show (if layer.all (formD ls) = true then dueL ls n (layer.flatMap kidsD) (many + layer.length) else false) = _
    by_cases h : layer.all (formD ls) = true
    · rw [if_pos h, due_eq ls n, sum_layer layer h]
      cases sumO ((layer.flatMap kidsD).map (cnt ls n)) with
      | none => rfl
      | some a =>
        show decide (many + layer.length + a ≤ 15) = decide (many + (layer.length + a) ≤ 15)
        rw [Nat.add_assoc]
    · rw [if_neg h, sum_bad layer h]
      rfl
/-- whether a thing is a saying -/
def sayD (ls : List Str) (d : PyData) : Bool := okO 15 (cnt ls 8 d)
theorem dfs_say (ls : List Str) (d : PyData) : dfs ls 15 [(d, 1)] = sayD ls d := by
  rw [dfs_eq]
  show okO 15 (sumO [cnt ls 8 d]) = _
  rw [sumO_cons]
  unfold sayD
  cases cnt ls 8 d <;> rfl
theorem due_say (ls : List Str) (d : PyData) : dueL ls 8 [d] 0 = sayD ls d := by
  rw [due_eq]
  show okO 15 ((sumO [cnt ls 8 d]).map (0 + ·)) = _
  rw [sumO_cons]
  unfold sayD
  cases cnt ls 8 d with
  | none => rfl
  | some c =>
    show decide (0 + (c + 0) ≤ 15) = decide (c ≤ 15)
    rw [Nat.zero_add, Nat.add_zero]
end Eh
set_option Elab.async false
set_option linter.all false
set_option maxRecDepth 100000
set_option maxHeartbeats 4000000
namespace Eh
open PySem PySem.Spec PyProof.Rows L2
section
variable {X : Cx}
theorem call_repr_bl : CallR X (.builtin "repr") (fun xs H Q => ∃ b, xs = [.bl b] ∧ Q (.str (if b then "True" else "False")) H) := by
  intro pins s σ H xs us Q I r h
  obtain ⟨b, rfl, q⟩ := h
  cases r with
  | cons r1 rr =>
    cases rr
    cases r1
    exact PySem.P.repr_of_bool ⟨.str _, H, I.tok _, ⟨_, rfl⟩, q⟩
/-- a text so often -/
def repS (x : Str) (n : Nat) : Str := ⟨(List.replicate n x.cps).foldl (· ++ ·) #[]⟩
theorem foldl_app (l : List (Array Nat)) (a : Array Nat) : (l.foldl (· ++ ·) a).toList = a.toList ++ (l.map (·.toList)).flatten := by
  induction l generalizing a with
  | nil => simp
  | cons x r ih =>
    rw [List.foldl_cons, ih]
    simp
theorem repS_cs (x : Str) (n : Nat) : (repS x n).cps.toList = (List.replicate n x.cps.toList).flatten := by
  unfold repS
  rw [foldl_app, List.map_replicate]
  rfl
theorem op_repS : OpR X (binaryOp .Mult) (fun x y H Q => ∃ (z : Str) (n : Nat), x = .str z ∧ y = .int (n : Int) ∧ z.length ≤ 1000 ∧ n ≤ 1000 ∧ Q (.str (repS z n)) H) := by
  intro pins s σ H x y v u Q I rx ry h
  obtain ⟨z, n, rfl, rfl, hz, hn, q⟩ := h
  obtain ⟨t, rfl⟩ := rx
  obtain ⟨t', rfl⟩ := ry
  have e0 : n < 1 → repS z n = Str.empty := fun h => by
    have : n = 0 := by omega
    subst this
    rfl
  have ext : ∀ a b : Str, a.cps.toList = b.cps.toList → a = b := fun a b h => by
    cases a
    cases b
    congr 1
    exact Array.toList_inj.mp h
  have e1 : (n = 1 ∨ z.length = 0) → ¬ n < 1 → repS z n = z := fun h h1 => by
    apply ext
    rw [repS_cs]
    rcases h with h | h
    · subst h
      simp
    · have hz0 : z.cps.toList = [] := by
        have : z.cps.size = 0 := h
        exact List.eq_nil_of_length_eq_zero (by simpa using this)
      rw [hz0]
      simp
  have hm : z.length * n ≤ 1000000 := Nat.le_trans (Nat.mul_le_mul hz hn) (by decide)
  refine PySem.P.mul_str (by rw [decide_eq_false (by omega), decide_eq_false (by omega)]; rfl) (fun h1 _ => ?_) (fun h1 _ => ?_) ?_
  · have h2 : (1 : Int) ≤ n := by omega
    have h3 : (9223372036854775807 : Int) / (n : Int) ≥ 9223372036854775807 / 1000 := by
      refine Int.le_ediv_of_mul_le (by omega) ?_
      omega
    show ¬ ((z.length : Int) > (2 ^ 63 - 1) / (n : Int))
    have e2 : ((2 : Int) ^ 63 - 1) = 9223372036854775807 := by decide
    rw [e2]
    omega
  · rw [Int.toNat_natCast]
    show decide (z.length * n > sizeLine) = false
    rw [sizeLine_eq]
    exact decide_eq_false (by omega)
  · by_cases h1 : (n : Int) < 1
    · rw [if_pos h1]
      refine ⟨by decide, .str (repS z n), H, I.tok _, ⟨s.toks, ?_⟩, q⟩
      rw [e0 (by omega)]
    · rw [if_neg h1]
      by_cases h2 : ((n : Int) == 1 || z.length == 0) = true
      · rw [if_pos h2]
        have h3 : n = 1 ∨ z.length = 0 := by
          simp at h2
          omega
        have h4 := e1 h3 (by omega)
        rw [h4] at q
        exact ⟨.str z, H, I, ⟨_, rfl⟩, q⟩
      · rw [if_neg h2]
        have hl : (repS z n).length ≤ sizeLine := by
          have : (repS z n).length = n * z.length := by
            show (repS z n).cps.size = n * z.cps.size
            rw [← Array.length_toList, repS_cs]
            simp
          rw [this, sizeLine_eq, Nat.mul_comm]
          omega
        exact ⟨hl, .str (repS z n), H, I.tok _, ⟨_, rfl⟩, q⟩
/-- xs < ys, lists of ints -/
theorem firstLt_lex : ∀ (ns ms : List Int) (k : Nat) (e r : Nat → Bool), (∀ j, j < ns.length → j < ms.length → e (k + j) = decide (ns[j]? = ms[j]?)) → (∀ j, j < ns.length → j < ms.length → r (k + j) = decide (ns.getD j 0 < ms.getD j 0)) → SeqAt.firstLt e r (decide (ns.length < ms.length)) ((List.range (min ns.length ms.length)).map (k + ·)) = HT.lexLt ns ms
  | [], [], k, e, r, _, _ => rfl
  | [], y :: ms, k, e, r, _, _ => by simp [SeqAt.firstLt, HT.lexLt]
  | x :: ns, [], k, e, r, _, _ => by simp [SeqAt.firstLt, HT.lexLt]
  | x :: ns, y :: ms, k, e, r, he, hr => by
    rw [HT.lexLt_cons, List.length_cons, List.length_cons, show min (ns.length + 1) (ms.length + 1) = min ns.length ms.length + 1 by omega, List.range_succ_eq_map, List.map_cons, List.map_map]
    have e0 := he 0 (by simp) (by simp)
    have r0 := hr 0 (by simp) (by simp)
    have ih := firstLt_lex ns ms (k + 1) e r (fun j h1 h2 => by
      have := he (j + 1) (by simpa using h1) (by simpa using h2)
      rw [show k + 1 + j = k + (j + 1) by omega, this]
      simp) (fun j h1 h2 => by
      have := hr (j + 1) (by simpa using h1) (by simpa using h2)
      rw [show k + 1 + j = k + (j + 1) by omega, this]
      simp)
    by_cases h : x = y
    · rw [if_pos h, SeqAt.firstLt_yes (by rw [e0]; simp [h])]
      rw [show (decide (ns.length + 1 < ms.length + 1)) = decide (ns.length < ms.length) by simp, show ((fun x => k + x) ∘ Nat.succ) = (fun x => k + 1 + x) by funext z; show k + (z + 1) = k + 1 + z; omega]
      exact ih
    · rw [if_neg h, SeqAt.firstLt_no (by rw [e0]; simp [h]), r0]
      rfl
def rLtL (K : PySem.W.Frag) : R2 := fun x y H Q => ∃ (a b : Addr) (ns ms : List Int), x = .ref a ∧ y = .ref b ∧ SqL K H a (ns.map V.int) ∧ SqL K H b (ms.map V.int) ∧ Q (.bl (HT.lexLt ns ms)) H
theorem op_ltL (hu : X.A.units < cLine) : OpR X (compareOp .Lt) (rLtL X.K) := by
  intro pins s σ H x y v u Q I rx ry h
  obtain ⟨a, b, ns, ms, rfl, rfl, ha, hb, q⟩ := h
  cases rx
  cases ry
  obtain ⟨its, r1, p1, _⟩ := I.list ha
  obtain ⟨its2, r2, p2, _⟩ := I.list hb
  have l1 : its.length = ns.length := by
    have := r1.length
    rw [List.length_map] at this
    exact this.symm
  have l2 : its2.length = ms.length := by
    have := r2.length
    rw [List.length_map] at this
    exact this.symm
  have g1 : ∀ j (h : j < ns.length), ∃ t, its[j]'(by omega) = .int ns[j] t := fun j h => by
    obtain ⟨u, hu, t, ru⟩ := r1.get (i := j) (show (ns.map V.int)[j]? = some (.int ns[j]) by rw [List.getElem?_map, List.getElem?_eq_getElem h]; rfl)
    obtain ⟨_, e⟩ := List.getElem?_eq_some_iff.mp hu
    exact ⟨t, e.trans ru⟩
  have g2 : ∀ j (h : j < ms.length), ∃ t, its2[j]'(by omega) = .int ms[j] t := fun j h => by
    obtain ⟨u, hu, t, ru⟩ := r2.get (i := j) (show (ms.map V.int)[j]? = some (.int ms[j]) by rw [List.getElem?_map, List.getElem?_eq_getElem h]; rfl)
    obtain ⟨_, e⟩ := List.getElem?_eq_some_iff.mp hu
    exact ⟨t, e.trans ru⟩
  have key := SeqAt.RcLt.lists (A := X.A) (s := s) (e := fun j => decide (ns[j]? = ms[j]?)) (r := fun j => decide (ns.getD j 0 < ms.getD j 0)) p1.isList p2.isList hu (fun j h1 h2 => ?_) (fun j h1 h2 hj => ?_)
  · have e : SeqAt.firstLt (fun j => decide (ns[j]? = ms[j]?)) (fun j => decide (ns.getD j 0 < ms.getD j 0)) (decide (its.toArray.size < its2.toArray.size)) (List.range (min its.toArray.size its2.toArray.size)) = HT.lexLt ns ms := by
      have := firstLt_lex ns ms 0 (fun j => decide (ns[j]? = ms[j]?)) (fun j => decide (ns.getD j 0 < ms.getD j 0)) (fun j _ _ => by rw [Nat.zero_add]) (fun j _ _ => by rw [Nat.zero_add])
      rw [← this]
      simp [l1, l2]
    rw [e] at key
    exact key _ _ _ _ ⟨.bl _, H, I, rfl, q⟩
  · have h1' : j < ns.length := by simpa [l1] using h1
    have h2' : j < ms.length := by simpa [l2] using h2
    obtain ⟨t1, e1⟩ := g1 j h1'
    obtain ⟨t2, e2⟩ := g2 j h2'
    have e3 : its.toArray[j] = .int ns[j] t1 := by simpa using e1
    have e4 : its2.toArray[j] = .int ms[j] t2 := by simpa using e2
    rw [e3, e4]
    have := SeqAt.EqAt.int_int (A := X.A.in1) (s := s) ns[j] t1 ms[j] t2
    have e5 : decide (ns[j]? = ms[j]?) = (ns[j] == ms[j]) := by
      rw [List.getElem?_eq_getElem h1', List.getElem?_eq_getElem h2']
      by_cases z : ns[j] = ms[j] <;> simp [z]
    simp only [e5]
    exact this
  · have h1' : j < ns.length := by simpa [l1] using h1
    have h2' : j < ms.length := by simpa [l2] using h2
    obtain ⟨t1, e1⟩ := g1 j h1'
    obtain ⟨t2, e2⟩ := g2 j h2'
    have e3 : its.toArray[j] = .int ns[j] t1 := by simpa using e1
    have e4 : its2.toArray[j] = .int ms[j] t2 := by simpa using e2
    rw [e3, e4]
    have e5 : decide (ns.getD j 0 < ms.getD j 0) = decide (ns[j] < ms[j]) := by
      rw [List.getD_eq_getElem?_getD, List.getD_eq_getElem?_getD, List.getElem?_eq_getElem h1', List.getElem?_eq_getElem h2']
      rfl
    simp only [e5]
    intro prog w E Q hq
    exact HT.rcLt_int _ _ _ _ _ _ prog w E Q hq
end
end Eh
set_option Elab.async false
set_option linter.all false
set_option maxRecDepth 100000
set_option maxHeartbeats 4000000
namespace Eh
open PySem PySem.Spec PyProof.Rows L2
/-! repr of anything -/
def rRepr (K : PySem.W.Frag) : List V → Hp → VK → Prop := fun xs H Q => ∃ v d, xs = [v] ∧ Dp K H v d ∧ d.showable = true ∧ d.hasDict = false ∧ d.depth ≤ 40 ∧ d.shown.length ≤ sizeLine ∧ Q (.str d.shown) H
theorem call_repr {X : Cx} {k : Nat} (hr : Room k X.A) (hg : X.A.guards = some []) : CallR X (.builtin "repr") (rRepr X.K) := by
  intro pins s σ H xs us Q I r h
  obtain ⟨v, d, rfl, hd, sh, nd, dp, sz, q⟩ := h
  cases r with
  | cons r1 r2 =>
    rename_i u us'
    cases r2
    obtain ⟨as, rd⟩ := Dp.reads I d v u hd r1
    have un := hr.un
    have big : ∀ a, u = .ref a → wpAny (model X.prog X.w) X.A (call (.builtin "repr") [u]) (EP X pins σ Q) X.xe s := fun a e => by
      subst e
      exact repr_of_reads' rd sh (PyData.noDict_hsm nd) hg (by omega) (fun _ _ z => z) (fun h' u tk kp => ⟨.str d.shown, H, I.kept kp, ⟨_, rfl⟩, q⟩) sz
    cases hd with
    | non =>
      cases r1
      exact PySem.P.repr_of_none ⟨.str _, H, I.tok _, ⟨_, rfl⟩, q⟩
    | bl b =>
      cases r1
      exact PySem.P.repr_of_bool ⟨.str _, H, I.tok _, ⟨_, rfl⟩, q⟩
    | int i =>
      obtain ⟨t, rfl⟩ := r1
      exact PySem.P.repr_of_int (of_decide_eq_true sh) ⟨.str _, H, I.tok _, ⟨_, rfl⟩, q⟩
    | str x =>
      obtain ⟨t, rfl⟩ := r1
      exact PySem.P.repr_of_str ⟨.str _, H, I.tok _, ⟨_, rfl⟩, q⟩ sz
    | lst => exact big _ r1
    | tup => exact big _ r1
/-! what is not great may be shown -/
def gB : Nat → Nat
  | 0 => 500
  | k + 1 => 16 * (gB k + 2) + 2
theorem gB_mono (k : Nat) : 500 ≤ gB k := by
  induction k with
  | zero => exact Nat.le_refl _
  | succ k ih =>
    show 500 ≤ 16 * (gB k + 2) + 2
    omega
theorem piled_le {B : Nat} : ∀ (ts : List Str), (∀ t ∈ ts, t.length ≤ B) → piled ts ≤ ts.length * (B + 2)
  | [], _ => by
    rw [piled_nil]
    omega
  | t :: r, h => by
    have := piled_le r fun x hx => h x (.tail _ hx)
    have h1 := h t (.head _)
    rw [piled_cons, List.length_cons, Nat.add_mul]
    omega
theorem from_len : ∀ (ts : List Str) (k : Nat) (acc : Str), (textFrom k acc ts).length ≤ acc.length + piled ts
  | [], k, acc => by
    show acc.length ≤ _
    omega
  | t :: r, k, acc => by
    have ih := from_len r (k + 1) (acc ++ (if k > 0 then ", " else "" : String) ++ t)
    have e : (((if k > 0 then ", " else "" : String) : Str)).length ≤ 2 := by split <;> decide +kernel
    rw [strLen_append, strLen_append] at ih
    rw [piled_cons]
    show (textFrom (k + 1) (acc ++ (if k > 0 then ", " else "" : String) ++ t) r).length ≤ _
    omega
theorem list_len (ts : List Str) : (listText ts).length ≤ piled ts + 2 := by
  have h := from_len ts 0 "["
  have e1 : ((("[" : String) : Str)).length = 1 := rfl
  have e2 : ((("]" : String) : Str)).length = 1 := rfl
  unfold listText
  rw [strLen_append, e2]
  rw [e1] at h
  omega
theorem shownAll_map : ∀ ds : List PyData, PyData.shownAll ds = ds.map PyData.shown
  | [] => rfl
  | d :: r => by
    rw [PyData.shownAll, shownAll_map r, List.map_cons]
theorem Gd.shown {k : Nat} {d : PyData} (h : Gd k d) : d.shown.length ≤ gB k := by
  induction h with
  | non =>
    have := gB_mono ‹Nat›
    exact Nat.le_trans (show (PyData.none).shown.length ≤ 500 by decide +kernel) this
  | bl b =>
    have := gB_mono ‹Nat›
    exact Nat.le_trans (show (PyData.bool b).shown.length ≤ 500 by cases b <;> decide +kernel) this
  | @int k i h =>
    have := gB_mono k
    have e := int_text_length_le (k := 100) (by decide) h
    show (Str.ofString (toString i)).length ≤ _
    rw [PySem.ofString_length]
    omega
  | @str k x h h2 =>
    have := gB_mono k
    have e := StrLaws.reprText_len x h2
    show (reprText x).length ≤ _
    omega
  | @lst k ds n h ih =>
    show (listText (PyData.shownAll ds)).length ≤ 16 * (gB k + 2) + 2
    rw [shownAll_map]
    have a := list_len (ds.map PyData.shown)
    have b := piled_le (B := gB k) (ds.map PyData.shown) fun t ht => by
      obtain ⟨d, hd, rfl⟩ := List.mem_map.mp ht
      exact ih d hd
    rw [List.length_map] at b
    have c := Nat.mul_le_mul_right (gB k + 2) n
    omega
  | @tup k ds n h ih =>
    show (tupleText (PyData.shownAll ds)).length ≤ 16 * (gB k + 2) + 2
    rw [shownAll_map]
    have a := fmt_text (ds.map PyData.shown)
    have b := piled_le (B := gB k) (ds.map PyData.shown) fun t ht => by
      obtain ⟨d, hd, rfl⟩ := List.mem_map.mp ht
      exact ih d hd
    rw [List.length_map] at b
    have c := Nat.mul_le_mul_right (gB k + 2) n
    omega
theorem all_show : ∀ ds : List PyData, (∀ d ∈ ds, d.showable = true) → PyData.showableAll ds = true
  | [], _ => rfl
  | d :: r, h => by
    rw [PyData.showableAll, h d (.head _), all_show r fun x hx => h x (.tail _ hx)]
    rfl
theorem all_nod : ∀ ds : List PyData, (∀ d ∈ ds, d.hasDict = false) → PyData.hasDictAll ds = false
  | [], _ => rfl
  | d :: r, h => by
    rw [PyData.hasDictAll, h d (.head _), all_nod r fun x hx => h x (.tail _ hx)]
    rfl
theorem all_dep {k : Nat} : ∀ ds : List PyData, (∀ d ∈ ds, d.depth ≤ k) → PyData.depthAll ds ≤ k
  | [], _ => Nat.zero_le _
  | d :: r, h => by
    have a := h d (.head _)
    have b := all_dep r fun x hx => h x (.tail _ hx)
    show max d.depth (PyData.depthAll r) ≤ k
    omega
theorem Gd.can {k : Nat} {d : PyData} (h : Gd k d) : d.showable = true ∧ d.hasDict = false ∧ d.depth ≤ k := by
  induction h with
  | non => exact ⟨rfl, rfl, Nat.zero_le _⟩
  | bl b => exact ⟨rfl, rfl, Nat.zero_le _⟩
  | int h => exact ⟨decide_eq_true (by omega), rfl, Nat.zero_le _⟩
  | str h h2 => exact ⟨rfl, rfl, Nat.zero_le _⟩
  | lst n h ih => exact ⟨all_show _ fun d hd => (ih d hd).1, all_nod _ fun d hd => (ih d hd).2.1, Nat.succ_le_succ (all_dep _ fun d hd => (ih d hd).2.2)⟩
  | tup n h ih => exact ⟨all_show _ fun d hd => (ih d hd).1, all_nod _ fun d hd => (ih d hd).2.1, Nat.succ_le_succ (all_dep _ fun d hd => (ih d hd).2.2)⟩
theorem gB3 : gB 3 ≤ sizeLine := by
  rw [sizeLine_eq]
  decide
theorem repr_th {K : PySem.W.Frag} {N : Addr} {H : Hp} {v : V} {d : PyData} {σ : L2.St} {i : Nat} {Q : VK} (h : Th N H v d) (g : Gd 3 d) (hi : σ[i]? = some (some v)) (q : Q (.str d.shown) H) : tCB (rRepr K) (tCons (tVar i) tNil) σ H Q :=
  ⟨v, hi, v, d, rfl, h.dp, g.can.1, g.can.2.1, Nat.le_trans g.can.2.2 (by decide), Nat.le_trans g.shown gB3, q⟩
end Eh
set_option Elab.async false
set_option linter.all false
set_option maxRecDepth 100000
set_option maxHeartbeats 4000000
namespace Eh
open PySem PySem.Spec PyProof.Rows L2 Evl GxR Gx
theorem all_take {α : Type} {f : α → Bool} {l : List α} {i : Nat} {c : α} (h : (l.take i).all f = true) (hc : l[i]? = some c) (hf : f c = true) : (l.take (i + 1)).all f = true := by
  rw [List.take_add_one, hc, List.all_append, h]
  simp [hf]
theorem all_bad {α : Type} {f : α → Bool} {l : List α} {i : Nat} {c : α} (hc : l[i]? = some c) (hf : f c = false) : l.all f = false := by
  rw [Bool.eq_false_iff]
  intro h
  rw [List.all_eq_true] at h
  rw [h c (List.mem_of_getElem? hc)] at hf
  cases hf
end Eh
set_option Elab.async false
set_option linter.all false
set_option maxRecDepth 100000
set_option maxHeartbeats 4000000
namespace Eh
open PySem PySem.Spec PyProof.Rows L2 Evl
/-- nothing in it is great, all signs plain; no more than k within one another -/
inductive Gk : Nat → PyData → Prop
  | non {k : Nat} : Gk k .none
  | bl {k : Nat} (b : Bool) : Gk k (.bool b)
  | int {k : Nat} {i : Int} (h : i.natAbs.log2 < 100) : Gk k (.int i)
  | str {k : Nat} {x : Str} (h : (cs x).length ≤ 40) (h2 : ∀ c ∈ cs x, c < 128) : Gk k (.str x)
  | lst {k : Nat} {ds : List PyData} (n : ds.length ≤ 16) (h : ∀ d ∈ ds, Gk k d) : Gk (k + 1) (.list ds)
  | tup {k : Nat} {ds : List PyData} (n : ds.length ≤ 16) (h : ∀ d ∈ ds, Gk k d) : Gk (k + 1) (.tuple ds)
theorem Gk.up {k : Nat} {d : PyData} (h : Gk k d) : Gk (k + 1) d := by
  induction h with
  | non => exact .non
  | bl b => exact .bl b
  | int h => exact .int h
  | str h h2 => exact .str h h2
  | lst n _ ih => exact .lst n ih
  | tup n _ ih => exact .tup n ih
theorem Gk.mono {k m : Nat} {d : PyData} (h : Gk k d) (hm : k ≤ m) : Gk m d := by
  induction hm with
  | refl => exact h
  | step _ ih => exact ih.up
theorem Gk.gd {k : Nat} {d : PyData} (h : Gk k d) : Gd k d := by
  induction h with
  | non => exact .non
  | bl b => exact .bl b
  | int h => exact .int h
  | str h h2 => exact .str (by rw [len_cs]; exact h) fun c hc => Nat.lt_trans (h2 c hc) (by decide)
  | lst n _ ih => exact .lst n ih
  | tup n _ ih => exact .tup n ih
theorem all_lay : ∀ ds : List PyData, (∀ d ∈ ds, d.canLay0 = true) → PyData.canLayAll0 ds = true
  | [], _ => rfl
  | d :: r, h => by
    rw [PyData.canLayAll0, h d (.head _), all_lay r fun x hx => h x (.tail _ hx)]
    rfl
theorem Gk.lay {k : Nat} {d : PyData} (h : Gk k d) : d.canLay0 = true := by
  induction h with
  | non => rfl
  | bl b => rfl
  | int h => rfl
  | @str k x h h2 =>
    show PyData.strOk x = true
    unfold PyData.strOk
    rw [← Array.all_toList, List.all_eq_true]
    intro c hc
    have := h2 c hc
    exact decide_eq_true (by omega)
  | lst n h ih => exact all_lay _ ih
  | tup n h ih => exact all_lay _ ih
theorem Gk.shaped {k : Nat} {d : PyData} (h : Gk k d) (hk : k ≤ 64) : SeqAt.shaped d = true := by
  unfold SeqAt.shaped
  rw [Bool.and_eq_true]
  exact ⟨h.lay, decide_eq_true (Nat.le_trans h.gd.can.2.2 hk)⟩
mutual
/-- how much is in it -/
def wt : PyData → Nat
  | .list ds => 1 + wtAll ds
  | .tuple ds => 1 + wtAll ds
  | _ => 1
def wtAll : List PyData → Nat
  | [] => 0
  | d :: r => wt d + wtAll r
end
theorem wtAll_app : ∀ a b : List PyData, wtAll (a ++ b) = wtAll a + wtAll b
  | [], b => by
    show wtAll b = 0 + wtAll b
    omega
  | d :: a, b => by
    show wt d + wtAll (a ++ b) = wt d + wtAll a + wtAll b
    rw [wtAll_app a b]
    omega
theorem wtAll_mem {d : PyData} : ∀ {l : List PyData}, d ∈ l → wt d ≤ wtAll l
  | x :: r, h => by
    show wt d ≤ wt x + wtAll r
    rcases List.mem_cons.mp h with e | e
    · rw [e]
      omega
    · have := wtAll_mem e
      omega
theorem piledW : ∀ ds : List PyData, (∀ d ∈ ds, d.shown.length ≤ 600 * wt d) → piled (ds.map PyData.shown) ≤ 600 * wtAll ds + 2 * ds.length
  | [], _ => by
    show piled [] ≤ _
    rw [piled_nil]
    omega
  | d :: r, h => by
    have a := h d (.head _)
    have b := piledW r fun x hx => h x (.tail _ hx)
    rw [List.map_cons, piled_cons, List.length_cons]
    show _ ≤ 600 * (wt d + wtAll r) + _
    omega
theorem Gk.shownW {k : Nat} {d : PyData} (h : Gk k d) : d.shown.length ≤ 600 * wt d := by
  induction h with
  | non => exact (show (PyData.none).shown.length ≤ 600 by decide +kernel)
  | bl b => exact (show (PyData.bool b).shown.length ≤ 600 by cases b <;> decide +kernel)
  | @int k i h =>
    have := (Gk.int (k := 0) h).gd.shown
    exact Nat.le_trans this (show 500 ≤ 600 by decide)
  | @str k x h h2 =>
    have := (Gk.str (k := 0) h h2).gd.shown
    exact Nat.le_trans this (show 500 ≤ 600 by decide)
  | @lst k ds n h ih =>
    show (listText (PyData.shownAll ds)).length ≤ 600 * (1 + wtAll ds)
    rw [shownAll_map]
    have a := list_len (ds.map PyData.shown)
    have b := piledW ds ih
    omega
  | @tup k ds n h ih =>
    show (tupleText (PyData.shownAll ds)).length ≤ 600 * (1 + wtAll ds)
    rw [shownAll_map]
    have a := fmt_text (ds.map PyData.shown)
    have b := piledW ds ih
    omega
theorem repr_gk {K : PySem.W.Frag} {N : Addr} {H : Hp} {v : V} {d : PyData} {σ : L2.St} {i k : Nat} {Q : VK} (h : Th N H v d) (g : Gk k d) (hk : k ≤ 40) (hw : wt d ≤ 1000) (hi : σ[i]? = some (some v)) (q : Q (.str d.shown) H) : tCB (rRepr K) (tCons (tVar i) tNil) σ H Q :=
  ⟨v, hi, v, d, rfl, h.dp, g.gd.can.1, g.gd.can.2.1, Nat.le_trans g.gd.can.2.2 hk, Nat.le_trans g.shownW (Nat.le_trans (Nat.mul_le_mul_left 600 hw) (by rw [sizeLine_eq]; decide)), q⟩
theorem gk_lit {k : Nat} {x : Str} (h : (cs x).length ≤ 40 ∧ ∀ c ∈ cs x, c < 128) : Gk k (.str x) := .str h.1 h.2
theorem gk_ltr {k : Nat} {x : Str} (h : Ltr x) : Gk k (.str x) := .str (by have := h.2.2; omega) fun c hc => by
  have := h.1 c hc
  unfold az at this
  omega
/-! sayings -/
theorem hd_is {h : Str} {n : Nat} (e : hdN h = some n) : h ≠ ("is" : Str) := fun z => by
  subst z
  revert e
  rw [show hdN ("is" : Str) = none by decide +kernel]
  intro e
  cases e
theorem hd_gk {k n : Nat} {h : Str} (e : hdN h = some n) : Gk k (.str h) := by
  unfold hdN at e
  repeat' split at e
  all_goals first
    | (subst_vars; exact gk_lit (by decide +kernel))
    | cases e
inductive Sy (ls : List Str) : Nat → PyData → Prop
  | is {n : Nat} {x : Str} : x ∈ ls → Sy ls n (.tuple [.str "is", .str x])
  | one {n : Nat} {h : Str} {d : PyData} : hdN h = some 1 → Sy ls n d → Sy ls (n + 1) (.tuple [.str h, d])
  | two {n : Nat} {h : Str} {d e : PyData} : hdN h = some 2 → Sy ls n d → Sy ls n e → Sy ls (n + 1) (.tuple [.str h, d, e])
theorem Sy.up {ls : List Str} {n : Nat} {d : PyData} (h : Sy ls n d) : Sy ls (n + 1) d := by
  induction h with
  | is h => exact .is h
  | one h _ ih => exact .one h ih
  | two h _ _ ih1 ih2 => exact .two h ih1 ih2
theorem Sy.mono {ls : List Str} {n m : Nat} {d : PyData} (h : Sy ls n d) (hm : n ≤ m) : Sy ls m d := by
  induction hm with
  | refl => exact h
  | step _ ih => exact ih.up
theorem cnt_is {ls : List Str} {n : Nat} {x : Str} (h : x ∈ ls) : cnt ls (n + 1) (.tuple [.str "is", .str x]) = some 1 := by
  have e1 : formD ls (.tuple [.str "is", .str x]) = true := by
    rw [formD_eq, if_pos rfl]
    exact decide_eq_true h
  have e2 : kidsD (.tuple [.str "is", .str x]) = [] := by
    rw [kidsD_eq, if_pos rfl]
  rw [cnt, if_pos e1, e2]
  rfl
theorem form_hd {ls : List Str} {h : Str} {r : List PyData} (e : hdN h = some r.length) : formD ls (.tuple (.str h :: r)) = true ∧ kidsD (.tuple (.str h :: r)) = r := by
  have n := hd_is e
  refine ⟨?_, ?_⟩
  · rw [formD_eq, if_neg n]
    exact decide_eq_true e
  · rw [kidsD_eq, if_neg n]
theorem cnt_one {ls : List Str} {n : Nat} {h : Str} {d : PyData} (e : hdN h = some 1) : cnt ls (n + 1) (.tuple [.str h, d]) = (cnt ls n d).map (1 + ·) := by
  obtain ⟨e1, e2⟩ := form_hd (ls := ls) (r := [d]) e
  rw [cnt, if_pos e1, e2, List.map_cons, sumO_cons]
  cases cnt ls n d <;> rfl
theorem cnt_two {ls : List Str} {n : Nat} {h : Str} {d f : PyData} (e : hdN h = some 2) : cnt ls (n + 1) (.tuple [.str h, d, f]) = (match cnt ls n d, cnt ls n f with | some a, some b => some (1 + (a + b)) | _, _ => none) := by
  obtain ⟨e1, e2⟩ := form_hd (ls := ls) (r := [d, f]) e
  rw [cnt, if_pos e1, e2, List.map_cons, sumO_cons, List.map_cons, sumO_cons]
  cases cnt ls n d with
  | none => rfl
  | some a =>
    cases cnt ls n f with
    | none => rfl
    | some b => rfl
theorem Sy.cn {ls : List Str} {n : Nat} {d : PyData} (h : Sy ls n d) : ∃ c, cnt ls (n + 1) d = some c ∧ c < 2 ^ (n + 1) ∧ wt d ≤ 3 * c := by
  induction h with
  | @is n x h => exact ⟨1, cnt_is h, by rw [Nat.pow_succ]; have := Nat.one_le_two_pow (n := n); omega, by show 3 ≤ 3 * 1; decide⟩
  | @one n h d e _ ih =>
    obtain ⟨c, h1, h2, h3⟩ := ih
    refine ⟨1 + c, by rw [cnt_one e, h1]; rfl, by rw [Nat.pow_succ]; have := Nat.one_le_two_pow (n := n + 1); omega, ?_⟩
    show 1 + (1 + (wt d + 0)) ≤ 3 * (1 + c)
    omega
  | @two n h d f e _ _ ih1 ih2 =>
    obtain ⟨c, h1, h2, h3⟩ := ih1
    obtain ⟨b, g1, g2, g3⟩ := ih2
    refine ⟨1 + (c + b), by rw [cnt_two e, h1, g1], by rw [Nat.pow_succ]; omega, ?_⟩
    show 1 + (1 + (wt d + (wt f + 0))) ≤ 3 * (1 + (c + b))
    omega
theorem Sy.gk {ls : List Str} {n : Nat} {d : PyData} (hl : ∀ x ∈ ls, Ltr x) (h : Sy ls n d) : Gk (n + 1) d := by
  induction h with
  | @is n x h =>
    refine .tup (by show 2 ≤ 16; decide) fun d hd => ?_
    simp only [List.mem_cons, List.not_mem_nil, or_false] at hd
    rcases hd with rfl | rfl
    · exact gk_lit (by decide +kernel)
    · exact gk_ltr (hl x h)
  | @one n h d e _ ih =>
    refine .tup (by show 2 ≤ 16; decide) fun d hd => ?_
    simp only [List.mem_cons, List.not_mem_nil, or_false] at hd
    rcases hd with rfl | rfl
    · exact hd_gk e
    · exact ih
  | @two n h d f e _ _ ih1 ih2 =>
    refine .tup (by show 3 ≤ 16; decide) fun d hd => ?_
    simp only [List.mem_cons, List.not_mem_nil, or_false] at hd
    rcases hd with rfl | rfl | rfl
    · exact hd_gk e
    · exact ih1
    · exact ih2
theorem Sy.say {ls : List Str} {n : Nat} {d : PyData} (h : Sy ls n d) (hn : n ≤ 3) : sayD ls d = true := by
  obtain ⟨c, h1, h2, _⟩ := (h.mono hn).cn
  unfold sayD
  rw [cnt_mono h1 (by decide : 3 + 1 ≤ 8)]
  exact decide_eq_true (by omega)
end Eh
set_option Elab.async false
set_option linter.all false
set_option maxRecDepth 100000
set_option maxHeartbeats 4000000
namespace Eh
open PySem PySem.Spec PyProof.Rows L2 Evl GxR Gx
/-! x in t: t a tuple of data of any depth -/
def rInT (K : PySem.W.Frag) : R2 := fun x y H Q => ∃ d ds, Dp K H x d ∧ Dp K H y (.tuple ds) ∧ SeqAt.shaped d = true ∧ SeqAt.shaped (.tuple ds) = true ∧ Q (.bl (ds.any fun z => PyData.eqv z d)) H
theorem op_inT {X : Cx} {k : Nat} (hr : Room k X.A) : OpR X (compareOp .In) (rInT X.K) := by
  have hu : X.A.units + 65 < cLine := by have := hr.un; omega
  intro pins s σ H x y v u Q I rx ry h
  obtain ⟨d, ds, hd, he, sd, se, q⟩ := h
  obtain ⟨as, r1⟩ := Dp.reads I d x v hd rx
  obtain ⟨bs, r2⟩ := Dp.reads I (.tuple ds) y u he ry
  exact SeqAt.in_tuple_reads r2 r1 (SeqAt.canLay_of_shaped se) (SeqAt.canLay_of_shaped sd) (room_in_shaped sd hu) ⟨.bl _, H, I, rfl, q⟩
theorem catA_rd {K : PySem.W.Frag} {a b : Addr} {xs ys : List V} {H : Hp} {Q : VK} (h1 : H a = some (.tup xs)) (h2 : H b = some (.tup ys)) (hz : xs.length + ys.length ≤ 1000) (q : ∀ p H', Ex H H' → H' p = some (.tup (xs ++ ys)) → Q (.ref p) H') : rCatA K (.ref a) (.ref b) H Q := by
  refine ⟨a, b, xs, ys, rfl, rfl, st_of h1, st_of h2, by rw [sizeLine_eq]; omega, fun e => ?_, fun _ e => ?_, fun _ _ p np => ?_⟩
  · subst e
    exact q b H (Ex.refl H) h2
  · subst e
    exact q a H (Ex.refl H) (by rw [List.append_nil]; exact h1)
  · exact q p _ (Ex.new np) upd_same
theorem th_strs {N a : Addr} {H : Hp} {zs : List Str} (h : H a = some (.tup (zs.map V.str))) : Th N H (.ref a) (.tuple (zs.map PyData.str)) := .tup h (ThAll.strs zs)
theorem eqv_str (y : Str) (d : PyData) : PyData.eqv (.str y) d = (match d with | .str x => y == x | _ => false) := by
  cases d <;> rfl
theorem any_eqv (ls : List Str) (d : PyData) : ((ls.map PyData.str).any fun z => PyData.eqv z d) = inL ls d := by
  rw [List.any_map]
  cases d with
  | str x =>
    show (ls.any fun y => y == x) = decide (x ∈ ls)
    rw [Bool.eq_iff_iff, List.any_eq_true, decide_eq_true_iff]
    constructor
    · rintro ⟨y, hy, e⟩
      rw [← eq_of_beq e]
      exact hy
    · exact fun h => ⟨x, h, beq_self_eq_true x⟩
  | _ =>
    show (ls.any fun _ => false) = false
    rw [List.any_eq_false]
    exact fun _ _ z => by cases z
theorem strs_lay : ∀ z : List Str, (∀ x ∈ z, Ltr x) → PyData.canLayAll0 (z.map PyData.str) = true := fun z h => all_lay _ fun d hd => by
  obtain ⟨x, hx, rfl⟩ := List.mem_map.mp hd
  exact (gk_ltr (k := 0) (h x hx)).lay
theorem strs_dep : ∀ z : List Str, PyData.depthAll (z.map PyData.str) = 0
  | [] => rfl
  | x :: r => by
    rw [List.map_cons, PyData.depthAll, strs_dep r]
    rfl
theorem strs_shaped (z : List Str) (h : ∀ x ∈ z, Ltr x) : SeqAt.shaped (.tuple (z.map PyData.str)) = true := by
  unfold SeqAt.shaped
  rw [Bool.and_eq_true]
  refine ⟨strs_lay z h, decide_eq_true ?_⟩
  show PyData.depthAll (z.map PyData.str) + 1 ≤ 64
  rw [strs_dep]
  decide
/-- the parts of a head, as they stand in the program -/
structure PartsAt (K : PySem.W.Frag) (w : World) (dP : Addr) (es : Array DictEntry) (n : Nat) : Prop where
  kd : KDict K w dP es n
  at_ : ∀ z : Str, (hdN z = none ∧ PySem.W.nsIn K dP z = some none) ∨ ∃ (m : Nat) (t : Tok), hdN z = some m ∧ PySem.W.nsIn K dP z = some (some (.int (m : Int) t))
/-- a sheet's letters, few and plain -/
structure Shl (H : Hp) (s : Addr) (os ps qs : List Str) : Prop where
  at_ : SheetAt H s os ps qs
  few : os.length ≤ 4 ∧ ps.length ≤ 4 ∧ qs.length ≤ 4
  lt : ∀ x ∈ os ++ ps ++ qs, Ltr x
theorem Shl.ex {H H' : Hp} {s : Addr} {os ps qs : List Str} (h : Shl H s os ps qs) (e : Ex H H') : Shl H' s os ps qs := ⟨h.at_.ex e, h.few, h.lt⟩
abbrev nIsForm : List Str := ["sheet", "thing"]
theorem scIsForm : FnScope nIsForm ["sheet", "thing"] (defScope sIsForm) := ⟨rfl, rfl, rfl, by decide +kernel, rfl, by decide +kernel, by decide +kernel⟩
section
variable {P : Program} {w : World} {K : PySem.W.Frag} {mg : Str → Option Value} {base : Heap}
def spForm : Sp := fun vs H Q _ => ∃ (N s : Addr) (v : V) (d : PyData) (os ps qs : List Str) (g : Nat), vs = [.ref s, v] ∧ Shl H s os ps qs ∧ Th N H v d ∧ Gk g d ∧ g ≤ 64 ∧ ∀ H', Ex H H' → Q (.bl (formD (os ++ ps ++ qs) d)) H'
theorem ok_isForm {f dP : Addr} {fd : FuncData} {es : Array DictEntry} {n k : Nat} (F : Fun K "is_form" "is_form" sIsForm f fd) (PA : PartsAt K w dP es n) (mP : mg "PARTS" = some (.ref dP)) (misinstance : mg "isinstance" = none) (mtuple : mg "tuple" = none) (mstr : mg "str" = none) (mlen : mg "len" = none) : FnOk P w K mg base CX0 (k + 1) f fd ["sheet", "thing"] spForm := by
  have nd := scIsForm.nd
  refine F.ok scIsForm (fun vs H Q E h => ?_) (fun cdv A outer s0 H vs Q E hr h => ?_)
  · obtain ⟨N, s, v, d, os, ps, qs, g, rfl, _⟩ := h
    rfl
  · obtain ⟨N, s, v, d, os, ps, qs, g, rfl, hS, hT, hg, g64, q⟩ := h
    refine ⟨_, pss_cons (ps_if (PW.pt (pw_or (pt_not (pt_val (pe_callB call_isi (by rfl) misinstance (by decide +kernel) (pa_cons (pv 1) (pa_cons (pe_bltn (v := .ty "tuple") (by rfl) mtuple (by decide +kernel) rfl) pa_nil))))) (pw_or (pt_not (pt_truth (pv 1) (by intro _; rfl))) (pw_or1 (pt_not (pt_val (pe_callB call_isi (by rfl) misinstance (by decide +kernel) (pa_cons (pe_ix ix_tup (pv 1) pe_int (fun _ _ => rfl)) (pa_cons (pe_bltn (v := .ty "str") (by rfl) mstr (by decide +kernel) rfl) pa_nil))))))))) (pss_one (ps_ret pe_bl)) pss_nil)
      (pss_cons (ps_if (pt_cmpR op_eq (pe_ix ix_tup (pv 1) pe_int (fun _ _ => rfl)) pe_str (nomark _)) (pss_one (ps_ret (pe_and (pe_cmpR op_eq (pe_callB call_len_seq (by rfl) mlen PySem.boot_len (pa_cons (pv 1) pa_nil)) pe_int (nomark _)) (pe_one (pe_cmpR (op_inT hr) (pe_ix ix_tup (pv 1) pe_int (fun _ _ => rfl)) (pe_op op_catA (pe_op op_catA (pe_ix ix_tup (pv 0) pe_int (fun _ _ => rfl)) (pe_ix ix_tup (pv 0) pe_int (fun _ _ => rfl))) (pe_ix ix_tup (pv 0) pe_int (fun _ _ => rfl))) (by rfl)))))) pss_nil)
      (pss_one (ps_ret (pe_and (pe_cmpR (op_in_kd PA.kd) (pe_ix ix_tup (pv 1) pe_int (fun _ _ => rfl)) (pe_glob (v := .ref dP) rfl mP rfl) (by rfl)) (pe_one (pe_cmpR op_eq (pe_callB call_len_seq (by rfl) mlen PySem.boot_len (pa_cons (pv 1) pa_nil)) (pe_op op_add pe_int (pe_ix ix_kdict (pe_glob (v := .ref dP) rfl mP rfl) (pe_ix ix_tup (pv 1) pe_int (fun _ _ => rfl)) (fun _ _ => rfl))) (nomark _))))))), ?_⟩
    refine isi_tup rfl hT ⟨_, rfl, ?_⟩
    cases hT with
    | @tup a xs ds ha hall =>
      refine iteF ⟨_, rfl, _, .inr (.inl ⟨_, st_of ha, rfl⟩), ?_⟩
      cases hall with
      | nil => exact iteT (q H (Ex.refl H))
      | @cons v0 vr d0 dr h0 hrest =>
        have e0 := hrest.len
        refine iteF ?_
        refine ⟨_, rfl, a, _, 0, v0, rfl, rfl, st_of ha, atI_nat (j := 0) rfl, v0, .ty "str", .type (dTy d0), .type "str", isS d0, rfl, .ty "str", h0.ty, kit_ty (kit_str h0), _, rfl, ?_⟩
        cases h0 with
        | str x =>
          refine iteF ⟨_, rfl, a, _, 0, .str x, rfl, rfl, st_of ha, atI_nat (j := 0) rfl, rfl, _, rfl, ?_⟩
          rw [formD_eq] at q
          rw [show decide (V.str x = V.str ("is" : Str)) = decide (x = ("is" : Str)) from by
            by_cases h : x = ("is" : Str)
            · subst h
              simp
            · rw [decide_eq_false h, decide_eq_false]
              intro e
              cases e
              exact h rfl]
          by_cases hx : x = ("is" : Str)
          · rw [if_pos hx] at q
            rw [decide_eq_true hx]
            refine iteT ⟨_, rfl, a, _, rfl, .inr (st_of ha), rfl, _, rfl, ?_⟩
            cases hrest with
            | nil => exact iteF (q H (Ex.refl H))
            | @cons v1 vr d1 dr h1 hrest =>
              cases hrest with
              | nil =>
                refine iteT ?_
                have hgd : Gk 64 d1 := by
                  cases hg with
                  | tup n h => exact (h d1 (by simp)).mono (by omega)
                obtain ⟨ao, ap, ac, s0', so, sp, sc⟩ := hS.at_
                have f4 := hS.few
                refine ⟨_, rfl, a, _, 1, v1, rfl, rfl, st_of ha, atI_nat (j := 1) rfl, ?_⟩
                refine ⟨_, rfl, s, _, 0, .ref ao, rfl, rfl, st_of s0', atI_nat (j := 0) rfl, _, rfl, s, _, 1, .ref ap, rfl, rfl, st_of s0', atI_nat (j := 1) rfl, ?_⟩
                refine catA_rd so sp (by rw [List.length_map, List.length_map]; omega) fun p1 H1 e1 hp1 => ?_
                refine ⟨_, rfl, s, _, 2, .ref ac, rfl, rfl, st_of (e1 _ _ s0'), atI_nat (j := 2) rfl, ?_⟩
                refine catA_rd hp1 (e1 _ _ sc) (by rw [List.length_append, List.length_map, List.length_map, List.length_map]; omega) fun p2 H2 e2 hp2 => ?_
                rw [← List.map_append, ← List.map_append] at hp2
                refine ⟨d1, (os ++ ps ++ qs).map PyData.str, (h1.et (ET.of (e1.trans e2))).dp, (th_strs (N := N) hp2).dp, hgd.shaped (Nat.le_refl _), strs_shaped _ hS.lt, ?_⟩
                rw [any_eqv]
                exact q H2 (e1.trans e2)
              | cons h2 hrest =>
                rename_i v2 vr d2 dr
                rw [show decide (V.int ((((.str x : V) :: v1 :: v2 :: vr).length : Nat) : Int) = V.int 2) = false from decide_eq_false (by
                  intro e
                  have : ((((.str x : V) :: v1 :: v2 :: vr).length : Nat) : Int) = 2 := V.int.inj e
                  simp only [List.length_cons] at this
                  omega)]
                exact iteF (q H (Ex.refl H))
          · rw [if_neg hx] at q
            rw [decide_eq_false hx]
            refine iteF ?_
            refine ⟨_, rfl, a, _, 0, .str x, rfl, rfl, st_of ha, atI_nat (j := 0) rfl, ?_⟩
            rcases PA.at_ x with ⟨hn, hk⟩ | ⟨m, t, hn, hk⟩
            · refine ⟨x, none, rfl, rfl, hk, _, rfl, ?_⟩
              rw [decide_eq_false (by rw [hn]; exact fun z => by cases z)] at q
              exact iteF (q H (Ex.refl H))
            · refine ⟨x, some _, rfl, rfl, hk, _, rfl, iteT ?_⟩
              refine ⟨_, rfl, a, _, rfl, .inr (st_of ha), _, rfl, a, _, 0, .str x, rfl, rfl, st_of ha, atI_nat (j := 0) rfl, dP, x, .int (m : Int), rfl, rfl, ⟨es, n, _, PA.kd.at_, PA.kd.lit, hk, ⟨t, rfl⟩⟩, _, _, rfl, rfl, rfl, ?_⟩
              rw [show decide (V.int ((((.str x : V) :: vr).length : Nat) : Int) = V.int (1 + (m : Int))) = decide (hdN x = some dr.length) from by
                rw [decide_eq_decide, hn]
                constructor
                · intro e
                  have := V.int.inj e
                  rw [List.length_cons, e0] at this
                  congr 1
                  omega
                · intro e
                  have := Option.some.inj e
                  rw [List.length_cons, e0]
                  congr 1
                  omega]
              exact q H (Ex.refl H)
        | _ => exact iteT (q H (Ex.refl H))
    | _ => exact iteT (q H (Ex.refl H))
end
end Eh
set_option Elab.async false
set_option linter.all false
set_option maxRecDepth 100000
set_option maxHeartbeats 4000000
namespace Eh
open PySem PySem.Spec PyProof.Rows L2 Evl GxR Gx
/-- a pile of pairs (a thing, how deep it stands); the things stand in H0 -/
inductive StA (N : Addr) (H0 H : Hp) : List V → List (PyData × Nat) → Prop
  | nil : StA N H0 H [] []
  | cons {t : Addr} {v : V} {d : PyData} {l : Nat} {us : List V} {st : List (PyData × Nat)} : H t = some (.tup [v, .int (l : Int)]) → Th N H0 v d → Gk 40 d → StA N H0 H us st → StA N H0 H (.ref t :: us) ((d, l) :: st)
theorem StA.imp {N : Addr} {H0 H H' : Hp} (h : ∀ t xs, H t = some (.tup xs) → H' t = some (.tup xs)) {us : List V} {st : List (PyData × Nat)} (s : StA N H0 H us st) : StA N H0 H' us st := by
  induction s with
  | nil => exact .nil
  | cons a b c _ ih => exact .cons (h _ _ a) b c ih
theorem StA.app {N : Addr} {H0 H : Hp} {us vs : List V} {st su : List (PyData × Nat)} (a : StA N H0 H us st) (b : StA N H0 H vs su) : StA N H0 H (us ++ vs) (st ++ su) := by
  induction a with
  | nil => exact b
  | cons x y z _ ih => exact .cons x y z ih
theorem StA.rev {N : Addr} {H0 H : Hp} {us : List V} {st : List (PyData × Nat)} (a : StA N H0 H us st) : StA N H0 H us.reverse st.reverse := by
  induction a with
  | nil => exact .nil
  | cons x y z _ ih =>
    rw [List.reverse_cons, List.reverse_cons]
    exact ih.app (.cons x y z .nil)
theorem StA.len {N : Addr} {H0 H : Hp} {us : List V} {st : List (PyData × Nat)} (a : StA N H0 H us st) : us.length = st.length := by
  induction a with
  | nil => rfl
  | cons x y z _ ih => exact congrArg (· + 1) ih
theorem form_kids {ls : List Str} {d : PyData} (h : formD ls d = true) : ∃ hd r, d = .tuple (.str hd :: r) ∧ kidsD d = if hd = ("is" : Str) then [] else r := by
  cases d with
  | tuple ds =>
    cases ds with
    | nil => cases h
    | cons x r =>
      cases x with
      | str hd => exact ⟨hd, r, rfl, rfl⟩
      | _ => cases h
  | _ => cases h
theorem v_str (a b : Str) : decide (V.str a = V.str b) = decide (a = b) := by
  by_cases h : a = b
  · subst h
    simp
  · rw [decide_eq_false h, decide_eq_false]
    intro e
    cases e
    exact h rfl
theorem vne_str (a b : Str) : (!decide (V.str a = V.str b)) = !decide (a = b) := by rw [v_str]
theorem cut1 (xs : List V) : cutV xs (some (1 : Int)) none = xs.drop 1 := cutF xs 1
theorem slA_rd {K : PySem.W.Frag} {H : Hp} {a : Addr} {xs : List V} {lo hi : Option Int} {Q : VK} (ha : H a = some (.tup xs)) (q : ∀ p H', Ex H H' → H' p = some (.tup (cutV xs lo hi)) → Q (.ref p) H') : rSlA K (.ref a) lo hi H Q := by
  refine ⟨a, xs, rfl, st_of ha, fun hw => ?_, fun _ p hp => q p _ (Ex.new hp) upd_same⟩
  refine q a H (Ex.refl H) ?_
  unfold cutV
  rw [hw.1, hw.2, List.drop_zero, Nat.sub_zero, List.take_length]
  exact ha
/-- what is left to be seen -/
def leftV : Option (Option V) → Nat
  | some (some (.int i)) => (16 - i).toNat
  | _ => 0
def leftOf (σ : L2.St) : Nat := leftV σ[2]?
abbrev nIsSaying : List Str := ["sheet", "thing", "seen", "waiting", "part", "level", "inner"]
theorem scIsSaying : FnScope nIsSaying ["sheet", "thing"] (defScope sIsSaying) := ⟨rfl, rfl, rfl, by decide +kernel, rfl, by decide +kernel, by decide +kernel⟩
section
variable {P : Program} {w : World} {K : PySem.W.Frag} {mg : Str → Option Value} {base : Heap}
def spIsSaying : Sp := fun vs H Q _ => ∃ (N s : Addr) (v : V) (d : PyData) (os ps qs : List Str), vs = [.ref s, v] ∧ Shl H s os ps qs ∧ Th N H v d ∧ Gk 40 d ∧ ∀ H', Ex H H' → Q (.bl (sayD (os ++ ps ++ qs) d)) H'
theorem ok_isSaying {f fis_form : Addr} {fd dis_form : FuncData} {k : Nat} {t1 t2 : Tok} (F : Fun K "is_saying" "is_saying" sIsSaying f fd)
    (Fis_form : Fun K "is_form" "is_form" sIsForm fis_form dis_form) (Gis_form : FnOk P w K mg base CX0 k fis_form dis_form ["sheet", "thing"] spForm) (bis_form : Binds K dis_form ["sheet", "thing"] []) (gis_form : mg "is_form" = some (.ref fis_form))
    (mMOST_IN_ALL : mg "MOST_IN_ALL" = some (.int 15 t1)) (mMOST_WITHIN : mg "MOST_WITHIN" = some (.int 8 t2)) : FnOk P w K mg base CX0 (k + 1) f fd ["sheet", "thing"] spIsSaying := by
  have nd := scIsSaying.nd
  refine F.ok scIsSaying (fun vs H Q E h => ?_) (fun cdv A outer s0 H vs Q E hr h => ?_)
  · obtain ⟨N, s, v, d, os, ps, qs, rfl, _⟩ := h
    rfl
  · obtain ⟨N, s, v, d, os, ps, qs, rfl, hS, hT, hg, q⟩ := h
    refine ⟨_, (pss_cons (ps_set (i := 2) nd rfl (.inl rfl) pe_int)
      (pss_cons (ps_set (i := 3) nd rfl (.inl rfl) (pe_lst (pa_cons (pe_tup (pa_cons (pv 1) (pa_cons pe_int pa_nil))) pa_nil)))
      (pss_cons (ps_while PassesOwn.never (pt_truth (pv 3) (by intro _; rfl)) (pss_cons (ps_asg (pe_bm0 PySem.F.plainAttrs_list PySem.F.slot_list_pop PySem.F.type_list_pop mt_pop (pv 3)) (pg_tup rfl (pgs_cons (pg_name (i := 4) nd rfl (.inl rfl)) (pgs_cons (pg_name (i := 5) nd rfl (.inr rfl)) pgs_nil))))
      (pss_cons (ps_aug (i := 2) nd rfl (.inl rfl) pe_int ip_add)
      (pss_cons (ps_if (PW.pt (pw_or (pt_cmpR op_gt (pv 2) (pe_glob (v := .int 15) rfl mMOST_IN_ALL ⟨_, rfl⟩) (nomark _)) (pw_or (pt_cmpR op_gt (pv 5) (pe_glob (v := .int 8) rfl mMOST_WITHIN ⟨_, rfl⟩) (nomark _)) (pw_or1 (pt_not (pt_val (pe_call Gis_form hr (by rfl) gis_form Fis_form.kp bis_form .nil pass0 (pa_cons (pv 0) (pa_cons (pv 4) pa_nil))))))))) (pss_one (ps_ret pe_bl)) pss_nil)
      (pss_one (ps_if (pt_cmpR op_ne (pe_ix ix_tup (pv 4) pe_int (fun _ _ => rfl)) pe_str (nomark _)) (pss_one (ps_expr (pe_bm PySem.F.plainAttrs_list PySem.F.slot_list_extend PySem.F.type_list_extend mt_extend (pv 3) (pa_cons (pe_lc (own := [("inner", 6)]) (g := gName 6) (tt := tYes) (te := (tTup (tCons (tVar 6) (tCons (tOp (rI0 fun i j => .int (i + j)) (tVar 5) (tC (.int 1))) tNil)))) rfl nd (pi_tup (pe_slice sl_tupA (pv 4) (po_some pe_int) po_none)) (blkOk_by (own := [("inner", 6)]) (N := nIsSaying) (sc := defScope sIsSaying) (by decide +kernel)) (fun _ _ _ _ _ => pg_name (i := 6) nd rfl (.inl rfl)) (fun _ _ _ _ _ => pts_nil) (fun _ _ _ _ _ => (pe_tup (pa_cons (pv 6) (pa_cons (pe_op op_add (pv 5) pe_int) pa_nil))))) pa_nil)))) pss_nil))))))
      (pss_one (ps_ret pe_bl))))), ?_⟩
    generalize hls : os ++ ps ++ qs = ls at q
    refine ⟨_, rfl, (by show 2 ≤ sizeLine; decide), fun T1 nT1 => ⟨(by show 1 ≤ sizeLine; decide), fun W nW => ?_⟩⟩
    have x1 := Ex.new (o := .tup [v, .int 1]) nT1
    have hT1 : upd H T1 (.tup [v, .int 1]) T1 = some (.tup [v, .int 1]) := upd_same
    generalize upd H T1 (.tup [v, .int 1]) = H1 at nW x1 hT1 ⊢
    have nWH : H W = none := by
      cases e : H W with
      | none => rfl
      | some o =>
        rw [x1 _ _ e] at nW
        cases nW
    have x2 := Ex.new (o := .lst [.ref T1]) nW
    dsimp only [gName]
    rw [show ∀ (a b : TS) (D : Ends) (σ : L2.St) (H : Hp), tSeq a b D σ H = a { D with nx := fun σ' H' => b D σ' H' } σ H from fun _ _ _ _ _ => rfl]
    refine while_by (fun σ H' => ∃ (us : List V) (st : List (PyData × Nat)) (n : Nat) (y4 y5 y6 : Option V), σ = [some (.ref s), some v, some (.int ((15 - n : Nat) : Int)), some (.ref W), y4, y5, y6] ∧ n ≤ 15 ∧ us.length ≤ 1 + 16 * (15 - n) ∧ H' W = some (.lst us.reverse) ∧ StA N H H' us st ∧ Ex H H' ∧ dfs ls n st = sayD ls d) (fun σ _ => leftOf σ) ?_ ?_ ?_
    · exact ⟨[.ref T1], [(d, 1)], 15, none, none, none, rfl, by decide, by show 1 ≤ 1 + 16 * (15 - 15); decide, upd_same, .cons (x2 _ _ hT1) hT hg .nil, x1.trans x2, dfs_say ls d⟩
    · rintro σ H2 ⟨us, st, n, y4, y5, y6, rfl, n15, hlen, hW, hSt, ex, hq⟩
      refine ⟨_, rfl, _, .inl ⟨_, sq_of hW, rfl⟩, ?_⟩
      cases hSt with
      | nil =>
        have e : dfs ls n [] = true := by cases n <;> rfl
        rw [e] at hq
        rw [← hq] at q
        exact iteF (q H2 ex)
      | @cons t v1 d1 l us st ht hT1 hg1 hSt =>
        rw [List.reverse_cons] at hW ⊢
        rw [show (!(us.reverse ++ [V.ref t]).isEmpty) = true by simp]
        refine iteT ⟨_, rfl, .inl ⟨rfl, _, sq_of hW⟩, W, _, .ref t, rfl, rfl, hW, by simp, ?_⟩
        rw [List.dropLast_concat]
        have tW : t ≠ W := fun e => by
          rw [e, hW] at ht
          cases ht
        generalize hH3 : upd H2 W (.lst us.reverse) = H3
        have hW3 : H3 W = some (.lst us.reverse) := by rw [← hH3, upd_same]
        have kp3 : ∀ b o, b ≠ W → H2 b = some o → H3 b = some o := fun b o nb e => by rw [← hH3, upd_ne nb]; exact e
        have ex3 : Ex H H3 := fun b o e => kp3 b o (ne_of_none e nWH) (ex b o e)
        have tu3 : ∀ t xs, H2 t = some (.tup xs) → H3 t = some (.tup xs) := fun t xs e => kp3 t _ (fun z => by
          rw [z, hW] at e
          cases e) e
        have hSt3 := hSt.imp tu3
        refine ⟨t, _, rfl, st_of (kp3 _ _ tW ht), rfl, _, _, rfl, _, _, rfl, rfl, ?_⟩
        refine ⟨_, rfl, _, _, rfl, rfl, ?_⟩
        refine ⟨_, rfl, _, _, rfl, rfl, _, rfl, ?_⟩
        cases n with
        | zero =>
          rw [decide_eq_true (show (15 : Int) < ((15 - 0 : Nat) : Int) + 1 by decide)]
          have e : dfs ls 0 ((d1, l) :: st) = false := rfl
          rw [e] at hq
          rw [← hq] at q
          exact iteT (iteT (q H3 ex3))
        | succ n =>
          rw [decide_eq_false (show ¬ (15 : Int) < ((15 - (n + 1) : Nat) : Int) + 1 by omega)]
          have eN : ((15 - (n + 1) : Nat) : Int) + 1 = ((15 - n : Nat) : Int) := by omega
          refine iteF ⟨_, rfl, _, _, rfl, rfl, _, rfl, ?_⟩
          have hq' : (if l ≤ 8 ∧ formD ls d1 = true then dfs ls n (((kidsD d1).map fun k => (k, l + 1)).reverse ++ st) else false) = sayD ls d := hq
          by_cases hl : l ≤ 8
          · rw [decide_eq_false (show ¬ ((l : Nat) : Int) > 8 by omega)]
            refine iteF ⟨_, rfl, _, rfl, N, s, v1, d1, os, ps, qs, 40, rfl, hS.ex ex3, hT1.et (ET.of ex3), hg1, by decide, fun H4 e4 => ⟨_, rfl, ?_⟩⟩
            rw [hls]
            by_cases hf : formD ls d1 = true
            · rw [hf]
              rw [if_pos ⟨hl, hf⟩] at hq'
              refine iteF ?_
              obtain ⟨hd, r, rfl, hk⟩ := form_kids hf
              have ex4 := ex3.trans e4
              cases hT1 with
              | @tup a xs ds ha hall =>
                cases hall with
                | @cons v0 vr d0 dr h0 hrest =>
                  cases h0 with
                  | str x =>
                    refine ⟨_, rfl, a, _, 0, .str hd, rfl, rfl, st_of (ex4 _ _ ha), atI_nat (j := 0) rfl, rfl, _, rfl, ?_⟩
                    rw [vne_str]
                    have hW4 := e4 _ _ hW3
                    by_cases hi : hd = ("is" : Str)
                    · rw [decide_eq_true hi]
                      rw [hk, if_pos hi] at hq'
                      refine iteF ⟨⟨us, st, n, some (.ref a), some (.int (l : Int)), y6, (show [some (.ref s), some v, some (.int (((15 - (n + 1) : Nat) : Int) + 1)), some (.ref W), some (.ref a), some (.int (l : Int)), y6] = _ by rw [eN]), by omega, by simp only [List.length_cons] at hlen; omega, hW4, hSt3.imp (fun t xs e => e4 _ _ e), ex4, hq'⟩, ?_⟩
                      show ((16 : Int) - (((15 - (n + 1) : Nat) : Int) + 1)).toNat < ((16 : Int) - ((15 - (n + 1) : Nat) : Int)).toNat
                      omega
                    · rw [decide_eq_false hi]
                      rw [hk, if_neg hi] at hq'
                      refine iteT ⟨_, rfl, .inl ⟨rfl, _, sq_of hW4⟩, ?_⟩
                      refine ⟨_, rfl, _, rfl, ?_⟩
                      dsimp only [tNoPart]
                      refine slA_rd (ex4 _ _ ha) fun p H5 e5 hp => ?_
                      rw [cut1] at hp
                      have hp : H5 p = some (.tup vr) := hp
                      refine ⟨p, rfl, ⟨_, st_of hp⟩, fun D nD => ?_⟩
                      have ex5 := ex4.trans e5
                      have e0 := hrest.len
                      have hr16 : r.length ≤ 16 ∧ ∀ d ∈ r, Gk 40 d := by
                        cases hg1 with
                        | tup n h =>
                          refine ⟨by simp only [List.length_cons] at n; omega, fun d hd => (h d (.tail _ hd)).mono (by decide)⟩
                      refine lc_tup (K := K) (a := p) (xs := vr) (fun i H6 => ∃ zs, Ex H5 H6 ∧ H6 D = some (.lst zs) ∧ zs.length = i ∧ StA N H H6 zs ((r.take i).map fun k => (k, l + 1))) ⟨[], Ex.new nD, upd_same, rfl, by rw [List.take_zero]; exact .nil⟩ (fun i H6 _ hh => ?_) ?_ ?_
                      · obtain ⟨zs, e6, _⟩ := hh
                        exact st_of (e6 _ _ hp)
                      · rintro i x H6 hx ⟨zs, e6, hD, lz, hz⟩
                        obtain ⟨dk, hdk, hTk⟩ := hrest.get hx
                        refine ⟨rfl, ?_⟩
                        refine ⟨_, rfl, _, rfl, _, _, rfl, rfl, (by show 2 ≤ sizeLine; decide), fun T2 nT2 => ⟨zs, ?_, ?_, zs ++ [.ref T2], ?_, upd_same, by rw [List.length_append, lz]; rfl, ?_⟩⟩
                        · rw [upd_ne (ne_of_none hD nT2)]
                          exact hD
                        · rw [lz, sizeLine_eq]
                          have := (List.getElem?_eq_some_iff.mp hdk).1
                          omega
                        · intro b o e
                          rw [upd_ne (ne_of_none e nD), upd_ne (ne_of_none (e6 _ _ e) nT2)]
                          exact e6 _ _ e
                        · have stp : ∀ t xs, H6 t = some (.tup xs) → upd (upd H6 T2 (.tup [x, .int ((l : Int) + 1)])) D (.lst (zs ++ [.ref T2])) t = some (.tup xs) := fun t xs e => by
                            rw [upd_ne (fun z => by
                              rw [z, hD] at e
                              cases e), upd_ne (ne_of_none e nT2)]
                            exact e
                          rw [List.take_add_one, hdk, List.map_append]
                          refine (hz.imp stp).app (.cons ?_ hTk (hr16.2 dk (List.mem_of_getElem? hdk)) .nil)
                          rw [upd_ne (fun z => by
                            rw [← z] at hD
                            rw [hD] at nT2
                            cases nT2), upd_same]
                          rfl
                      · rintro H6 ⟨zs, e6, hD, lz, hz⟩
                        rw [e0, List.take_length] at hz
                        have hW6 := e6 _ _ (e5 _ _ hW4)
                        refine ⟨W, D, us.reverse, zs, rfl, rfl, hW6, hD, ?_, ⟨zs.reverse ++ us, _, n, some (.ref a), some (.int (l : Int)), y6, (show [some (.ref s), some v, some (.int (((15 - (n + 1) : Nat) : Int) + 1)), some (.ref W), some (.ref a), some (.int (l : Int)), y6] = _ by rw [eN]), by omega, ?_, ?_, ?_, ?_, hq'⟩, ?_⟩
                        · rw [List.length_reverse, sizeLine_eq, lz, e0]
                          simp only [List.length_cons] at hlen
                          omega
                        · rw [List.length_append, List.length_reverse, lz, e0]
                          simp only [List.length_cons] at hlen
                          omega
                        · rw [List.reverse_append, List.reverse_reverse, upd_same]
                        · have stp : ∀ t xs, H6 t = some (.tup xs) → upd H6 W (.lst (us.reverse ++ zs)) t = some (.tup xs) := fun t xs e => by
                            rw [upd_ne (fun z => by
                              rw [z, hW6] at e
                              cases e)]
                            exact e
                          exact (hz.rev.imp stp).app (hSt3.imp fun t xs e => stp _ _ (e6 _ _ (e5 _ _ (e4 _ _ e))))
                        · intro b o e
                          rw [upd_ne (ne_of_none e nWH)]
                          exact e6 _ _ (ex5 _ _ e)
                        · show ((16 : Int) - (((15 - (n + 1) : Nat) : Int) + 1)).toNat < ((16 : Int) - ((15 - (n + 1) : Nat) : Int)).toNat
                          omega
            · rw [if_neg (fun h => hf h.2)] at hq'
              rw [Bool.eq_false_iff.mpr hf]
              rw [← hq'] at q
              exact iteT (q H4 (ex3.trans e4))
          · rw [decide_eq_true (show ((l : Nat) : Int) > 8 by omega)]
            rw [if_neg (fun h => hl h.1)] at hq'
            rw [← hq'] at q
            exact iteT (iteT (q H3 ex3))
    · rintro σ H' Q1 Q2 h ⟨v2, hv, kk, ht, qq⟩
      exact ⟨v2, hv, kk, ht, h _ _ qq⟩
end
end Eh
set_option Elab.async false
set_option linter.all false
set_option maxRecDepth 100000
set_option maxHeartbeats 4000000
namespace Eh
open PySem PySem.Spec PyProof.Rows L2 Evl GxR Gx
abbrev nSame : List Str := ["found", "due", "one", "other"]
theorem scSame : FnScope nSame ["found", "due"] (defScope sSame) := ⟨rfl, rfl, rfl, by decide +kernel, rfl, by decide +kernel, by decide +kernel⟩
def atom : V → Bool
  | .non => true
  | .bl _ => true
  | .int _ => true
  | .str _ => true
  | _ => false
def spSame0 : Sp := fun vs H Q _ => ∃ v : V, vs = [v, v] ∧ atom v = true ∧ Q (.bl true) H
structure SameK (mg : Str → Option Value) : Prop where
  isi : mg "isinstance" = none
  bool : mg "bool" = none
  str : mg "str" = none
  int : mg "int" = none
  tuple : mg "tuple" = none
  list : mg "list" = none
  len : mg "len" = none
  all : mg "all" = none
  zip : mg "zip" = none
theorem Sht.shl {H : Hp} {s : Addr} {os ps qs : List Str} (h : Sht os ps qs) (a : SheetAt H s os ps qs) : Shl H s os ps qs := ⟨a, ⟨h.o4, h.p4, h.c4⟩, h.lt⟩
section
variable {P : Program} {w : World} {K : PySem.W.Frag} {mg : Str → Option Value} {base : Heap}
def spOrder : Sp := fun vs H Q _ => ∃ (s : Addr) (os ps qs : List Str), vs = [.ref s] ∧ Sht os ps qs ∧ SheetAt H s os ps qs ∧ ∀ l H', Ex H H' → H l = none → H' l = some (lS (os ++ ps ++ qs)) → Q (.ref l) H'
theorem ok_order {f : Addr} {fd : FuncData} {k : Nat} (F : Fun K "_law_order" "_law_order" sOrder f fd) (ml : mg "list" = none) : FnOk P w K mg base CX0 (k + 1) f fd ["sheet"] spOrder := by
  refine F.ok scOrder (fun vs H Q E h => ?_) (fun cdv A outer s H vs Q E hr h => ?_)
  · obtain ⟨s, os, ps, qs, rfl, _⟩ := h
    rfl
  · obtain ⟨s, os, ps, qs, rfl, hS, ⟨ao, ap, ac, h0, h1, h2, h3⟩, q⟩ := h
    refine ⟨_, pss_one (ps_ret (pe_op op_cat (pe_op op_cat (pe_callTy call_list_of (by rfl) ml (by decide +kernel) (pa_cons (pe_ix ix_tup (pv 0) pe_int (fun _ _ => rfl)) pa_nil)) (pe_callTy call_list_of (by rfl) ml (by decide +kernel) (pa_cons (pe_ix ix_tup (pv 0) pe_int (fun _ _ => rfl)) pa_nil))) (pe_callTy call_list_of (by rfl) ml (by decide +kernel) (pa_cons (pe_ix ix_tup (pv 0) pe_int (fun _ _ => rfl)) pa_nil)))), ?_⟩
    have := hS.o4
    have := hS.p4
    have := hS.c4
    refine ⟨_, rfl, s, _, 0, .ref ao, rfl, rfl, st_of h0, rfl, ao, _, rfl, .inr (st_of h1), fun l1 n1 => ?_⟩
    have e1 : Ex H _ := Ex.new (o := lS os) n1
    refine ⟨_, rfl, s, _, 1, .ref ap, rfl, rfl, st_of (e1 _ _ h0), rfl, ap, _, rfl, .inr (st_of (e1 _ _ h2)), fun l2 n2 => ?_⟩
    have e2 : Ex _ _ := Ex.new (o := lS ps) n2
    refine ⟨l1, l2, _, _, rfl, rfl, e2 _ _ upd_same, upd_same, ?_, fun l3 n3 => ?_⟩
    · rw [List.length_map, List.length_map]
      exact sz_of (by omega)
    have e3 : Ex _ _ := Ex.new (o := .lst (os.map V.str ++ ps.map V.str)) n3
    refine ⟨_, rfl, s, _, 2, .ref ac, rfl, rfl, st_of (e3 _ _ (e2 _ _ (e1 _ _ h0))), rfl, ac, _, rfl, .inr (st_of (e3 _ _ (e2 _ _ (e1 _ _ h3)))), fun l4 n4 => ?_⟩
    have e4 : Ex _ _ := Ex.new (o := lS qs) n4
    refine ⟨l3, l4, _, _, rfl, rfl, e4 _ _ upd_same, upd_same, ?_, fun l5 n5 => ?_⟩
    · rw [List.length_append, List.length_map, List.length_map, List.length_map]
      exact sz_of (by omega)
    have ee := ((e1.trans e2).trans e3).trans e4
    refine q l5 _ (ee.trans (Ex.new n5)) (fresh_back ee n5) ?_
    rw [upd_same, ← List.map_append, ← List.map_append]
theorem ok_same0 {f : Addr} {fd : FuncData} {k : Nat} (F : Fun K "_law_same" "_law_same" sSame f fd) (T : SameK mg) : FnOk P w K mg base CX0 (k + 1) f fd ["found", "due"] spSame0 := by
  have nd := scSame.nd
  refine F.ok scSame (fun vs H Q E h => ?_) (fun cdv A outer s H vs Q E hr h => ?_)
  · obtain ⟨v, rfl, _⟩ := h
    rfl
  · obtain ⟨v, rfl, hv, q⟩ := h
    refine ⟨_, pss_cons (ps_if (PW.pt (pw_or (pt_cmpR op_isN (pv 1) pe_non (nomark _)) (pw_or1 (pt_val (pe_callB call_isi (by rfl) T.isi (by decide +kernel) (pa_cons (pv 1) (pa_cons (pe_bltn (v := .ty "bool") (by rfl) T.bool (by decide +kernel) rfl) pa_nil))))))) (pss_one (ps_ret (pe_and (pe_cmpR op_eq (pe_callB call_isi (by rfl) T.isi (by decide +kernel) (pa_cons (pv 0) (pa_cons (pe_bltn (v := .ty "bool") (by rfl) T.bool (by decide +kernel) rfl) pa_nil))) (pe_callB call_isi (by rfl) T.isi (by decide +kernel) (pa_cons (pv 1) (pa_cons (pe_bltn (v := .ty "bool") (by rfl) T.bool (by decide +kernel) rfl) pa_nil))) (nomark _)) (pe_one (pe_cmpR op_eq (pv 0) (pv 1) (nomark _)))))) pss_nil)
      (pss_cons (ps_if (pt_val (pe_callB call_isi (by rfl) T.isi (by decide +kernel) (pa_cons (pv 1) (pa_cons (pe_bltn (v := .ty "str") (by rfl) T.str (by decide +kernel) rfl) pa_nil)))) (pss_one (ps_ret (pe_and (pe_callB call_isi (by rfl) T.isi (by decide +kernel) (pa_cons (pv 0) (pa_cons (pe_bltn (v := .ty "str") (by rfl) T.str (by decide +kernel) rfl) pa_nil))) (pe_one (pe_cmpR op_eq (pv 0) (pv 1) (nomark _)))))) pss_nil)
      (pss_cons (ps_if (pt_val (pe_callB call_isi (by rfl) T.isi (by decide +kernel) (pa_cons (pv 1) (pa_cons (pe_bltn (v := .ty "int") (by rfl) T.int (by decide +kernel) rfl) pa_nil)))) (pss_one (ps_ret (pe_and (pe_callB call_isi (by rfl) T.isi (by decide +kernel) (pa_cons (pv 0) (pa_cons (pe_bltn (v := .ty "int") (by rfl) T.int (by decide +kernel) rfl) pa_nil))) (pe_and (pe_not (pe_callB call_isi (by rfl) T.isi (by decide +kernel) (pa_cons (pv 0) (pa_cons (pe_bltn (v := .ty "bool") (by rfl) T.bool (by decide +kernel) rfl) pa_nil)))) (pe_one (pe_cmpR op_eq (pv 0) (pv 1) (nomark _))))))) pss_nil)
      (pss_never))), ?_⟩
    cases v with
    | non =>
      exact ⟨_, rfl, rfl, _, rfl, iteT ⟨_, rfl, _, _, _, _, false, rfl, .ty _, .base .non, kit_ty (by decide +kernel), _, rfl, _, _, _, _, false, rfl, .ty _, .base .non, kit_ty (by decide +kernel), rfl, _, rfl, iteT ⟨_, rfl, _, rfl, rfl, q⟩⟩⟩
    | bl b =>
      refine ⟨_, rfl, rfl, _, rfl, iteF ⟨_, rfl, _, _, _, _, true, rfl, .ty _, .base (.bl b), kit_ty (by decide +kernel), _, rfl, iteT ⟨_, rfl, _, _, _, _, true, rfl, .ty _, .base (.bl b), kit_ty (by decide +kernel), _, rfl, _, _, _, _, true, rfl, .ty _, .base (.bl b), kit_ty (by decide +kernel), rfl, _, rfl, iteT ⟨_, rfl, _, rfl, rfl, ?_⟩⟩⟩⟩
      rw [decide_eq_true rfl]
      exact q
    | int i =>
      refine ⟨_, rfl, rfl, _, rfl, iteF ⟨_, rfl, _, _, _, _, false, rfl, .ty _, .base (.int i), kit_ty (by decide +kernel), _, rfl, iteF ?_⟩⟩
      refine ⟨_, rfl, _, _, _, _, false, rfl, .ty _, .base (.int i), kit_ty (by decide +kernel), _, rfl, iteF ?_⟩
      refine ⟨_, rfl, _, _, _, _, true, rfl, .ty _, .base (.int i), kit_ty (by decide +kernel), _, rfl, iteT ?_⟩
      refine ⟨_, rfl, _, _, _, _, true, rfl, .ty _, .base (.int i), kit_ty (by decide +kernel), _, rfl, iteT ⟨_, rfl, _, _, _, _, false, rfl, .ty _, .base (.int i), kit_ty (by decide +kernel), _, rfl, _, rfl, iteT ⟨_, rfl, _, rfl, rfl, ?_⟩⟩⟩
      rw [decide_eq_true rfl]
      exact q
    | str z =>
      refine ⟨_, rfl, rfl, _, rfl, iteF ⟨_, rfl, _, _, _, _, false, rfl, .ty _, .base (.str z), kit_ty (by decide +kernel), _, rfl, iteF ?_⟩⟩
      refine ⟨_, rfl, _, _, _, _, true, rfl, .ty _, .base (.str z), kit_ty (by decide +kernel), _, rfl, iteT ⟨_, rfl, _, _, _, _, true, rfl, .ty _, .base (.str z), kit_ty (by decide +kernel), _, rfl, iteT ⟨_, rfl, _, rfl, rfl, ?_⟩⟩⟩
      rw [decide_eq_true rfl]
      exact q
    | _ => exact absurd hv Bool.false_ne_true
end
end Eh
set_option Elab.async false
set_option linter.all false
set_option maxRecDepth 100000
set_option maxHeartbeats 4000000
namespace Eh
open PySem PySem.Spec PyProof.Rows L2 Evl GxR Gx
/-- the law's own table of sizes -/
def sizesKV : List (Key × V) := [(Sum.inr "is", .int 2), (Sum.inr "not", .int 2), (Sum.inr "both", .int 3), (Sum.inr "ahead", .int 2), (Sum.inr "beside", .int 2), (Sum.inr "around", .int 2), (Sum.inr "since", .int 3), (Sum.inr "level", .int 3)]
def szN (h : Str) : Option Nat := if h = ("is" : Str) then some 2 else (hdN h).map (1 + ·)
theorem sizes_at (h : Str) : valV (mergeK [] sizesKV) (Sum.inr h) = (szN h).map fun n => V.int (n : Int) := by
  have e : mergeK [] sizesKV = sizesKV := by rfl
  rw [e]
  unfold szN hdN
  by_cases h0 : h = ("is" : Str)
  · subst h0
    rfl
  rw [if_neg h0]
  by_cases h1 : h = ("not" : Str)
  · subst h1
    rfl
  rw [if_neg h1]
  by_cases h2 : h = ("both" : Str)
  · subst h2
    rfl
  rw [if_neg h2]
  by_cases h3 : h = ("ahead" : Str)
  · subst h3
    rfl
  rw [if_neg h3]
  by_cases h4 : h = ("beside" : Str)
  · subst h4
    rfl
  rw [if_neg h4]
  by_cases h5 : h = ("around" : Str)
  · subst h5
    rfl
  rw [if_neg h5]
  by_cases h6 : h = ("since" : Str)
  · subst h6
    rfl
  rw [if_neg h6]
  by_cases h7 : h = ("level" : Str)
  · subst h7
    rfl
  rw [if_neg h7]
  simp [sizesKV, valV]
  exact ⟨fun e => h0 e.symm, fun e => h1 e.symm, fun e => h2 e.symm, fun e => h3 e.symm, fun e => h4 e.symm, fun e => h5 e.symm, fun e => h6 e.symm, fun e => h7 e.symm⟩
theorem inV_st (x : Str) : ∀ os : List Str, inV (.str x) (os.map V.str) = decide (x ∈ os)
  | [] => rfl
  | y :: r => by
    show (eqV (.str y) (.str x) || inV (.str x) (r.map V.str)) = _
    rw [inV_st x r, show eqV (.str y) (.str x) = (y == x) from rfl]
    by_cases h : y = x
    · subst h
      simp
    · rw [beq_eq_false_iff_ne.mpr h, Bool.false_or, decide_eq_decide, List.mem_cons]
      exact ⟨.inr, fun z => z.resolve_left fun e => h e.symm⟩
theorem form_sz {ls : List Str} {h : Str} {r : List PyData} : formD ls (.tuple (.str h :: r)) = (decide (szN h = some (r.length + 1)) && (!decide (h = ("is" : Str)) || isArg ls r)) := by
  rw [formD_eq]
  unfold szN
  by_cases hi : h = ("is" : Str)
  · rw [if_pos hi, if_pos hi, decide_eq_true hi, Bool.not_true, Bool.false_or]
    match r with
    | [] => rfl
    | [x] => rfl
    | x :: y :: r =>
      show false = (decide (some 2 = some ((r.length + 1 + 1) + 1)) && false)
      rw [Bool.and_false]
  · rw [if_neg hi, if_neg hi, decide_eq_false hi, Bool.not_false, Bool.true_or, Bool.and_true, decide_eq_decide]
    cases hdN h with
    | none =>
      constructor
      · intro e
        cases e
      · intro e
        cases e
    | some n =>
      show some n = some r.length ↔ some (1 + n) = some (r.length + 1)
      rw [Option.some.injEq, Option.some.injEq]
      omega
abbrev nHR : List Str := ["sheet", "thing", "sizes"]
theorem scHR : FnScope nHR ["sheet", "thing"] (defScope sLawHeadRight) := ⟨rfl, rfl, rfl, by decide +kernel, rfl, by decide +kernel, by decide +kernel⟩
section
variable {P : Program} {w : World} {K : PySem.W.Frag} {mg : Str → Option Value} {base : Heap}
def spHR : Sp := fun vs H Q _ => ∃ (N s : Addr) (v : V) (d : PyData) (os ps qs : List Str), vs = [.ref s, v] ∧ Sht os ps qs ∧ SheetAt H s os ps qs ∧ Th N H v d ∧ Gk 40 d ∧ ∀ H', Ex H H' → Q (.bl (formD (os ++ ps ++ qs) d)) H'
theorem ok_headRight {f forder : Addr} {fd dorder : FuncData} {k : Nat} (F : Fun K "_law_head_right" "_law_head_right" sLawHeadRight f fd)
    (Forder : Fun K "_law_order" "_law_order" sOrder forder dorder) (Gorder : FnOk P w K mg base CX0 k forder dorder ["sheet"] spOrder) (border : Binds K dorder ["sheet"] []) (gorder : mg "_law_order" = some (.ref forder))
    (misinstance : mg "isinstance" = none) (mtuple : mg "tuple" = none) (mstr : mg "str" = none) (mlen : mg "len" = none) : FnOk P w K mg base CX0 (k + 1) f fd ["sheet", "thing"] spHR := by
  have nd := scHR.nd
  refine F.ok scHR (fun vs H Q E h => ?_) (fun cdv A outer s0 H vs Q E hr h => ?_)
  · obtain ⟨N, s, v, d, os, ps, qs, rfl, _⟩ := h
    rfl
  · obtain ⟨N, s, v, d, os, ps, qs, rfl, hS, hs, hT, hg, q⟩ := h
    have hu := hu_of hr
    refine ⟨_, pss_cons (ps_set (i := 2) nd rfl (.inl rfl) (pe_disp (pps_cons pe_str pe_int (pps_cons pe_str pe_int (pps_cons pe_str pe_int (pps_cons pe_str pe_int (pps_cons pe_str pe_int (pps_cons pe_str pe_int (pps_cons pe_str pe_int (pps_cons pe_str pe_int pps_nil)))))))) (by rfl) (by rfl) (fun z => by cases z) (by decide)))
      (pss_cons (ps_if (PW.pt (pw_or (pt_not (pt_val (pe_callB call_isi (by rfl) misinstance (by decide +kernel) (pa_cons (pv 1) (pa_cons (pe_bltn (v := .ty "tuple") (by rfl) mtuple (by decide +kernel) rfl) pa_nil))))) (pw_or (pt_cmpR (op_eqD hr.units) (pv 1) (pe_tup pa_nil) (nomark _)) (pw_or (pt_not (pt_val (pe_callB call_isi (by rfl) misinstance (by decide +kernel) (pa_cons (pe_ix ix_tup (pv 1) pe_int (fun _ _ => rfl)) (pa_cons (pe_bltn (v := .ty "str") (by rfl) mstr (by decide +kernel) rfl) pa_nil))))) (pw_or1 (pt_cmp (pc_dnotin hu (pe_ix ix_tup (pv 1) pe_int (fun _ _ => rfl)) (pv 2)))))))) (pss_one (ps_ret pe_bl)) pss_nil)
      (pss_cons (ps_if (pt_cmpR op_ne (pe_callB call_len_seq (by rfl) mlen PySem.boot_len (pa_cons (pv 1) pa_nil)) (pe_dget hu (pv 2) (pe_ix ix_tup (pv 1) pe_int (fun _ _ => rfl)) (fun _ _ => rfl)) (nomark _)) (pss_one (ps_ret pe_bl)) pss_nil)
      (pss_one (ps_ret (pe_or (pe_cmpR op_ne (pe_ix ix_tup (pv 1) pe_int (fun _ _ => rfl)) pe_str (nomark _)) (pe_one (pe_and (pe_callB call_isi (by rfl) misinstance (by decide +kernel) (pa_cons (pe_ix ix_tup (pv 1) pe_int (fun _ _ => rfl)) (pa_cons (pe_bltn (v := .ty "str") (by rfl) mstr (by decide +kernel) rfl) pa_nil))) (pe_one (pe_cmpR op_in_seq (pe_ix ix_tup (pv 1) pe_int (fun _ _ => rfl)) (pe_call Gorder hr (by rfl) gorder Forder.kp border .nil pass0 (pa_cons (pv 0) pa_nil)) (by rfl)))))))))), ?_⟩
    generalize hls : os ++ ps ++ qs = ls at q
    refine fun Z nZ => ⟨upd_same, sizesKV, rfl, by decide, ?_⟩
    rw [upd_upd]
    have xZ := Ex.new (o := .dK (mergeK [] sizesKV)) nZ
    have hZ : upd H Z (.dK (mergeK [] sizesKV)) Z = some (.dK (mergeK [] sizesKV)) := upd_same
    generalize upd H Z (.dK (mergeK [] sizesKV)) = H1 at xZ hZ ⊢
    have hT1 := hT.et (ET.of xZ)
    refine isi_tup rfl hT1 ⟨_, rfl, ?_⟩
    have hsh : SeqAt.shaped d = true := hg.shaped (by decide)
    cases hT with
    | @tup a xs ds ha hall =>
      have ha1 := xZ _ _ ha
      refine iteF ⟨_, rfl, by decide, fun T1 nT1 => ?_⟩
      have x1 := Ex.new (o := .tup []) nT1
      refine ⟨_, _, (hT1.et (ET.of x1)).dp, .tup (st_of upd_same) .nil, hsh, by decide +kernel, _, rfl, ?_⟩
      generalize upd H1 T1 (.tup []) = H2 at x1 ⊢
      have e2 := xZ.trans x1
      cases hall with
      | nil => exact iteT (iteT (q H2 e2))
      | @cons v0 vr d0 dr h0 hrest =>
        have e0 := hrest.len
        rw [show PyData.eqv (.tuple (d0 :: dr)) (.tuple []) = false from rfl]
        refine iteF ?_
        have ha2 := e2 _ _ ha
        refine ⟨_, rfl, a, _, 0, v0, rfl, rfl, st_of ha2, atI_nat (j := 0) rfl, v0, .ty "str", .type (dTy d0), .type "str", isS d0, rfl, .ty "str", (h0.et (ET.of e2)).ty, kit_ty (kit_str h0), _, rfl, ?_⟩
        cases h0 with
        | str x =>
          refine iteF ⟨_, rfl, a, _, 0, .str x, rfl, rfl, st_of ha2, atI_nat (j := 0) rfl, _, rfl, Z, _, rfl, DGet.k (k := Sum.inr x) (x1 _ _ hZ), ?_⟩
          rw [sizes_at]
          rw [form_sz] at q
          cases hz : szN x with
          | none =>
            rw [hz, decide_eq_false (fun z => by cases z), Bool.false_and] at q
            exact ⟨_, rfl, iteT (q H2 e2)⟩
          | some m =>
            rw [hz] at q
            refine ⟨_, rfl, iteF ?_⟩
            refine ⟨_, rfl, a, _, rfl, .inr (st_of ha2), _, rfl, _, rfl, a, _, 0, .str x, rfl, rfl, st_of ha2, atI_nat (j := 0) rfl, Z, .int (m : Int), rfl, (by have g := DGet.k (k := Sum.inr x) (x1 _ _ hZ); rw [sizes_at, hz] at g; exact g), rfl, _, rfl, ?_⟩
            rw [show (!decide (V.int ((((.str x : V) :: vr).length : Nat) : Int) = V.int (m : Int))) = !decide (some m = some (dr.length + 1)) from by
              congr 1
              rw [decide_eq_decide, List.length_cons, e0]
              constructor
              · intro e
                have := V.int.inj e
                congr 1
                omega
              · intro e
                have := Option.some.inj e
                congr 1
                omega]
            by_cases hm : some m = some (dr.length + 1)
            · rw [decide_eq_true hm, Bool.true_and] at q
              rw [decide_eq_true hm]
              refine iteF ?_
              refine ⟨_, rfl, a, _, 0, .str x, rfl, rfl, st_of ha2, atI_nat (j := 0) rfl, rfl, _, rfl, ?_⟩
              rw [vne_str]
              by_cases hx : x = ("is" : Str)
              · rw [decide_eq_true hx] at q ⊢
                subst hx
                have h1 : dr.length = 1 := by
                  have : szN ("is" : Str) = some 2 := by decide +kernel
                  rw [this] at hz
                  have := hz.trans hm
                  have := Option.some.inj this
                  omega
                match dr, vr, hrest, h1 with
                | [d1], [v1], .cons h1 .nil, _ =>
                  refine iteF ?_
                  refine ⟨_, rfl, a, _, 1, v1, rfl, rfl, st_of ha2, atI_nat (j := 1) rfl, v1, .ty "str", .type (dTy d1), .type "str", isS d1, rfl, .ty "str", (h1.et (ET.of e2)).ty, kit_ty (kit_str h1), _, rfl, ?_⟩
                  cases h1 with
                  | str y =>
                    refine iteT ⟨_, rfl, a, _, 1, .str y, rfl, rfl, st_of ha2, atI_nat (j := 1) rfl, ?_⟩
                    refine ⟨_, rfl, s, os, ps, qs, rfl, hS, hs.ex e2, fun l H3 e3 nl hl => ⟨l, _, rfl, .inl (sq_of hl), rfl, flat_strs _, ?_⟩⟩
                    rw [if_neg (by decide), inV_st, hls]
                    exact q H3 (e2.trans e3)
                  | _ => exact iteF (q H2 e2)
              · rw [decide_eq_false hx] at q ⊢
                exact iteT (q H2 e2)
            · rw [decide_eq_false hm] at q ⊢
              exact iteT (q H2 e2)
        | _ => exact iteT (iteT (q H2 e2))
    | _ => exact iteT (q H1 xZ)
end
end Eh
set_option Elab.async false
set_option linter.all false
set_option maxRecDepth 100000
set_option maxHeartbeats 4000000
namespace Eh
open PySem PySem.Spec PyProof.Rows L2 Evl GxR Gx
theorem ThAll.app {N : Addr} {H : Hp} : ∀ {vs us : List V} {ds es : List PyData}, ThAll N H vs ds → ThAll N H us es → ThAll N H (vs ++ us) (ds ++ es)
  | _, _, _, _, .nil, b => b
  | _, _, _, _, .cons a r, b => .cons a (ThAll.app r b)
theorem wt_pos (d : PyData) : 1 ≤ wt d := by
  cases d <;> unfold wt <;> omega
theorem len_wt : ∀ ds : List PyData, ds.length ≤ wtAll ds
  | [] => Nat.zero_le _
  | d :: r => by
    have := wt_pos d
    have := len_wt r
    show r.length + 1 ≤ wt d + wtAll r
    omega
theorem wt_kids (d : PyData) : wtAll (kidsD d) ≤ wt d := by
  cases d with
  | tuple ds =>
    cases ds with
    | nil => exact Nat.zero_le _
    | cons x r =>
      cases x with
      | str h =>
        rw [kidsD_eq]
        show _ ≤ 1 + (wt (.str h) + wtAll r)
        split
        · exact Nat.zero_le _
        · omega
      | _ => exact Nat.zero_le _
  | _ => exact Nat.zero_le _
theorem wt_layer : ∀ ds : List PyData, wtAll (ds.flatMap kidsD) ≤ wtAll ds
  | [] => Nat.le_refl _
  | d :: r => by
    have a := wt_kids d
    have b := wt_layer r
    rw [List.flatMap_cons, wtAll_app]
    show _ ≤ wt d + wtAll r
    omega
theorem gk_kids {k : Nat} {d : PyData} (h : Gk k d) : ∀ e ∈ kidsD d, Gk k e := by
  intro e he
  cases d with
  | tuple ds =>
    cases ds with
    | nil => cases he
    | cons x r =>
      cases x with
      | str z =>
        rw [kidsD_eq] at he
        split at he
        · cases he
        · cases h with
          | tup n h => exact (h e (.tail _ he)).up
      | _ => cases he
  | _ => cases he
theorem in_false : ∀ bs : List Bool, inV (.bl false) (bs.map V.bl) = !bs.all id
  | [] => rfl
  | b :: r => by
    show (eqV (.bl b) (.bl false) || inV (.bl false) (r.map V.bl)) = _
    rw [in_false r, List.all_cons]
    cases b <;> rfl
theorem flat_bls : ∀ bs : List Bool, (bs.map V.bl).all flatV = true
  | [] => rfl
  | b :: r => by
    rw [List.map_cons, List.all_cons, flat_bls r]
    rfl
theorem gk_dep {k : Nat} {ds : List PyData} (h : ∀ d ∈ ds, Gk k d) : PyData.depthAll ds ≤ k := all_dep ds fun d hd => (h d hd).gd.can.2.2
theorem list_shaped {k : Nat} {ds : List PyData} (h : ∀ d ∈ ds, Gk k d) (hk : k ≤ 63) : SeqAt.shaped (.list ds) = true := by
  unfold SeqAt.shaped
  rw [Bool.and_eq_true]
  refine ⟨all_lay ds fun d hd => (h d hd).lay, decide_eq_true ?_⟩
  have := gk_dep h
  show PyData.depthAll ds + 1 ≤ 64
  omega
abbrev nLawDue : List Str := ["sheet", "thing", "layer", "many", "deep_at", "one", "below"]
theorem scLawDue : FnScope nLawDue ["sheet", "thing"] (defScope sLawDue) := ⟨rfl, rfl, rfl, by decide +kernel, rfl, by decide +kernel, by decide +kernel⟩
section
variable {P : Program} {w : World} {K : PySem.W.Frag} {mg : Str → Option Value} {base : Heap}
def spDue : Sp := fun vs H Q _ => ∃ (N s : Addr) (v : V) (d : PyData) (os ps qs : List Str), vs = [.ref s, v] ∧ Sht os ps qs ∧ SheetAt H s os ps qs ∧ Th N H v d ∧ Gk 40 d ∧ wt d ≤ 1000 ∧ ∀ H', Ex H H' → Q (.bl (sayD (os ++ ps ++ qs) d)) H'
theorem ok_due {f fhead_right : Addr} {fd dhead_right : FuncData} {k : Nat} (F : Fun K "_law_due" "_law_due" sLawDue f fd)
    (Fhead_right : Fun K "_law_head_right" "_law_head_right" sLawHeadRight fhead_right dhead_right) (Ghead_right : FnOk P w K mg base CX0 k fhead_right dhead_right ["sheet", "thing"] spHR) (bhead_right : Binds K dhead_right ["sheet", "thing"] []) (ghead_right : mg "_law_head_right" = some (.ref fhead_right))
    (mrange : mg "range" = none) (mlen : mg "len" = none) (mlist : mg "list" = none) (mint : mg "int" = none) : FnOk P w K mg base CX0 (k + 1) f fd ["sheet", "thing"] spDue := by
  have nd := scLawDue.nd
  refine F.ok scLawDue (fun vs H Q E h => ?_) (fun cdv A outer s0 H vs Q E hr h => ?_)
  · obtain ⟨N, s, v, d, os, ps, qs, rfl, _⟩ := h
    rfl
  · obtain ⟨N, s, v, d, os, ps, qs, rfl, hS, hs, hT, hg, hw, q⟩ := h
    refine ⟨_, (pss_cons (ps_set (i := 2) nd rfl (.inl rfl) (pe_lst (pa_cons (pv 1) pa_nil)))
      (pss_cons (ps_set (i := 3) nd rfl (.inl rfl) pe_int)
      (pss_cons (ps_for PassesOwn.never rfl (pi_range1 (by rfl) mrange (pa_cons pe_int pa_nil)) (pg_name (i := 4) nd rfl (.inl rfl)) (pss_cons (ps_if (pt_cmpR op_in_seq pe_bl (pe_lc (own := [("one", 5)]) (g := gName 5) (tt := tYes) (te := (tCall spHR [] E0 (tCons (tVar 0) (tCons (tVar 5) tNil)))) rfl nd (pi_list (pv 2)) (blkOk_by (own := [("one", 5)]) (N := nLawDue) (sc := defScope sLawDue) (by decide +kernel)) (fun _ _ _ _ _ => pg_name (i := 5) nd rfl (.inl rfl)) (fun _ _ _ _ _ => pts_nil) (fun _ _ _ _ _ => (pe_call Ghead_right hr (by rfl) ghead_right Fhead_right.kp bhead_right .nil pass0 (pa_cons (pv 0) (pa_cons (pv 5) pa_nil))))) (by rfl)) (pss_one (ps_ret pe_bl)) pss_nil)
      (pss_cons (ps_set (i := 3) nd rfl (.inl rfl) (pe_op op_add (pv 3) (pe_callB call_len_seq (by rfl) mlen PySem.boot_len (pa_cons (pv 2) pa_nil))))
      (pss_cons (ps_set (i := 6) nd rfl (.inl rfl) (pe_lst pa_nil))
      (pss_cons (ps_for PassesOwn.never rfl (pi_list (pv 2)) (pg_name (i := 5) nd rfl (.inl rfl)) (pss_one (ps_expr (pe_bm PySem.F.plainAttrs_list PySem.F.slot_list_extend PySem.F.type_list_extend mt_extend (pv 6) (pa_cons (pe_op op_rep (pe_callTy call_list_of (by rfl) mlist (by decide +kernel) (pa_cons (pe_slice sl_tupA (pv 5) (po_some pe_int) po_none) pa_nil)) (pe_callTy call_int1 (by rfl) mint (by decide +kernel) (pa_cons (pe_cmpR op_ne (pe_ix ix_tup (pv 5) pe_int (fun _ _ => rfl)) pe_str (nomark _)) pa_nil))) pa_nil)))))
      (pss_one (ps_set (i := 2) nd rfl (.inl rfl) (pv 6))))))))
      (pss_one (ps_ret (pe_and (pe_cmpR (op_eqD hr.units) (pv 2) (pe_lst pa_nil) (nomark _)) (pe_one (pe_cmpR op_lt (pv 3) pe_int (nomark _))))))))), ?_⟩
    generalize hls : os ++ ps ++ qs = ls at q
    refine ⟨_, rfl, (by show 1 ≤ sizeLine; decide), fun L nL => ?_⟩
    have xL := Ex.new (o := .lst [v]) nL
    have w0 : wtAll [d] ≤ 1000 := by
      show wt d + 0 ≤ 1000
      omega
    refine ⟨8, rfl, by decide, by decide, for_range (lo := 0) (n := 8) (fun i σ H' => ∃ (L : Addr) (us : List V) (ds : List PyData) (m : Nat) (y4 y5 y6 : Option V), σ = [some (.ref s), some v, some (.ref L), some (.int (m : Int)), y4, y5, y6] ∧ Ex H H' ∧ H' L = some (.lst us) ∧ ThAll N H us ds ∧ (∀ d ∈ ds, Gk 40 d) ∧ wtAll ds ≤ 1000 ∧ dueL ls (8 - i) ds m = sayD ls d)
      ⟨L, [v], [d], 0, none, none, none, rfl, xL, upd_same, .cons hT .nil, fun e he => by rw [List.mem_singleton.mp he]; exact hg, w0, due_say ls d⟩ ?_ ?_⟩
    · rintro i σ H1 hi ⟨L, us, ds, m, y4, y5, y6, rfl, ex, hL, hall, hgk, hwt, hq⟩
      have e0 := hall.len
      have lw := len_wt ds
      refine ⟨_, rfl, L, rfl, ⟨_, sq_of hL⟩, fun D nD => ?_⟩
      have hq' : (if ds.all (formD ls) = true then dueL ls (8 - (i + 1)) (ds.flatMap kidsD) (m + ds.length) else false) = sayD ls d := by
        rw [← hq, show 8 - i = (8 - (i + 1)) + 1 by omega]
        rfl
      refine lc_list (K := K) (a := L) (xs := us) (fun j H2 => Ex H1 H2 ∧ H2 D = some (.lst (((ds.take j).map (formD ls)).map V.bl))) ⟨Ex.new nD, upd_same⟩ (fun j H2 _ hh => sq_of (hh.1 _ _ hL)) ?_ ?_
      · rintro j x H2 hx ⟨e2, hD⟩
        obtain ⟨dk, hdk, hTk⟩ := hall.get hx
        have hj := (List.getElem?_eq_some_iff.mp hdk).1
        refine ⟨rfl, ?_⟩
        refine ⟨_, rfl, _, rfl, N, s, x, dk, os, ps, qs, rfl, hS, hs.ex (ex.trans e2), hTk.et (ET.of (ex.trans e2)), hgk dk (List.mem_of_getElem? hdk), fun H3 e3 => ⟨_, e3 _ _ hD, ?_, ?_, ?_⟩⟩
        · rw [List.length_map, List.length_map, List.length_take, sizeLine_eq]
          omega
        · intro b o e
          rw [upd_ne (ne_of_none e nD)]
          exact e3 _ _ (e2 _ _ e)
        · rw [upd_same, List.take_add_one, hdk, List.map_append, List.map_append, hls]
          rfl
      · rintro H2 ⟨e2, hD⟩
        rw [e0, List.take_length] at hD
        refine ⟨D, _, rfl, .inl (sq_of hD), rfl, flat_bls _, _, rfl, ?_⟩
        rw [if_neg (by decide), in_false, List.all_map]
        rw [show (id ∘ formD ls) = formD ls from rfl]
        by_cases hf : ds.all (formD ls) = true
        · rw [if_pos hf] at hq'
          rw [hf]
          refine iteF ?_
          have hL2 := e2 _ _ hL
          refine ⟨_, rfl, _, rfl, L, _, rfl, .inl (sq_of hL2), _, _, rfl, rfl, ?_⟩
          rw [e0]
          refine ⟨by decide, fun B nB => ?_⟩
          have nBH : H B = none := by
            cases e : H B with
            | none => rfl
            | some o =>
              rw [e2 _ _ (ex _ _ e)] at nB
              cases nB
          have LB : L ≠ B := ne_of_none hL2 nB
          refine ⟨_, rfl, L, rfl, ⟨_, sq_of (by rw [upd_ne LB]; exact hL2)⟩, for_list (K := K) (a := L) (xs := us) (fun j σ H3 => ∃ (ws : List V) (y5 : Option V), σ = [some (.ref s), some v, some (.ref L), some (.int ((m : Int) + (ds.length : Int))), some (.int ((0 : Int) + (i : Int))), y5, some (.ref B)] ∧ Ex H H3 ∧ H3 L = some (.lst us) ∧ H3 B = some (.lst ws) ∧ ThAll N H ws ((ds.take j).flatMap kidsD)) ⟨[], y5, rfl, ?_, by rw [upd_ne LB]; exact hL2, upd_same, .nil⟩ (fun j σ H3 _ hh => ?_) ?_ ?_⟩
          · exact fun b o e => by
              rw [upd_ne (ne_of_none e nBH)]
              exact e2 _ _ (ex _ _ e)
          · obtain ⟨ws, y5, _, _, h3, _⟩ := hh
            exact sq_of h3
          · rintro j x σ H3 hx ⟨ws, y5, rfl, e3, hL3, hB3, hws⟩
            obtain ⟨dk, hdk, hTk⟩ := hall.get hx
            have hfk := List.all_eq_true.mp hf dk (List.mem_of_getElem? hdk)
            obtain ⟨hd, r, rfl, hk⟩ := form_kids hfk
            have lws := hws.len
            have lt1 := len_wt ((ds.take j).flatMap kidsD)
            have lt2 := wt_layer (ds.take j)
            have lt3 : wtAll (ds.take j) ≤ wtAll ds := by
              have := wtAll_app (ds.take j) (ds.drop j)
              rw [List.take_append_drop] at this
              omega
            cases hTk with
            | @tup a xs es ha hall2 =>
              cases hall2 with
              | @cons v0 vr d0 dr h0 hrest =>
                cases h0 with
                | str z =>
                  have er := hrest.len
                  have ha3 := e3 _ _ ha
                  have rw1 : r.length ≤ 16 := by
                    cases hgk _ (List.mem_of_getElem? hdk) with
                    | tup n h =>
                      simp only [List.length_cons] at n
                      omega
                  refine ⟨_, rfl, .inl ⟨rfl, _, sq_of hB3⟩, _, rfl, _, rfl, ?_⟩
                  dsimp only [tNoPart]
                  refine slA_rd ha3 fun p H4 e4 hp => ?_
                  rw [cut1] at hp
                  have hp : H4 p = some (.tup vr) := hp
                  refine ⟨p, _, rfl, .inr (st_of hp), fun l1 n1 => ?_⟩
                  have x5 := Ex.new (o := .lst vr) n1
                  have hl1 : upd H4 l1 (.lst vr) l1 = some (.lst vr) := upd_same
                  generalize upd H4 l1 (.lst vr) = H5 at x5 hl1 ⊢
                  have e35 := e4.trans x5
                  refine ⟨_, rfl, a, _, 0, .str hd, rfl, rfl, st_of (e35 _ _ ha3), atI_nat (j := 0) rfl, rfl, .inr ⟨_, rfl, ?_⟩⟩
                  rw [vne_str]
                  have hB5 := e35 _ _ hB3
                  by_cases hi : hd = ("is" : Str)
                  · rw [decide_eq_true hi]
                    refine ⟨l1, 0, vr, rfl, rfl, hl1, by decide, by decide, by show vr.length * 0 ≤ sizeLine; rw [Nat.mul_zero]; exact Nat.zero_le _, fun l2 n2 => ?_⟩
                    have x6 := Ex.new (o := .lst (List.replicate (0 : Int).toNat vr).flatten) n2
                    refine ⟨B, l2, ws, [], rfl, rfl, x6 _ _ hB5, upd_same, ?_, ws ++ [], _, rfl, ?_, ?_, upd_same, ?_⟩
                    · rw [lws, sizeLine_eq]
                      show _ + 0 ≤ _
                      omega
                    · intro b o e
                      rw [upd_ne (ne_of_none e nBH)]
                      exact x6 _ _ (e35 _ _ (e3 _ _ e))
                    · rw [upd_ne LB]
                      exact x6 _ _ (e35 _ _ hL3)
                    · rw [List.append_nil, List.take_add_one, hdk, List.flatMap_append]
                      rw [show (some (PyData.tuple (PyData.str hd :: r))).toList.flatMap kidsD = [] by
                        show kidsD _ ++ [] = []
                        rw [hk, if_pos hi]
                        rfl, List.append_nil]
                      exact hws
                  · rw [decide_eq_false hi]
                    refine ⟨l1, 1, vr, rfl, rfl, hl1, by decide, by decide, by show vr.length * 1 ≤ sizeLine; rw [er, sizeLine_eq]; omega, fun l2 n2 => ?_⟩
                    have x6 := Ex.new (o := .lst (List.replicate (1 : Int).toNat vr).flatten) n2
                    refine ⟨B, l2, ws, vr, rfl, rfl, x6 _ _ hB5, ?_, ?_, ws ++ vr, _, rfl, ?_, ?_, upd_same, ?_⟩
                    · rw [upd_same]
                      show some (HO.lst (vr ++ [])) = _
                      rw [List.append_nil]
                    · rw [lws, er, sizeLine_eq]
                      omega
                    · intro b o e
                      rw [upd_ne (ne_of_none e nBH)]
                      exact x6 _ _ (e35 _ _ (e3 _ _ e))
                    · rw [upd_ne LB]
                      exact x6 _ _ (e35 _ _ hL3)
                    · rw [List.take_add_one, hdk, List.flatMap_append]
                      rw [show (some (PyData.tuple (PyData.str hd :: r))).toList.flatMap kidsD = r by
                        show kidsD _ ++ [] = r
                        rw [hk, if_neg hi, List.append_nil]]
                      exact hws.app hrest
          · rintro σ H3 ⟨ws, y5, rfl, e3, hL3, hB3, hws⟩
            rw [e0, List.take_length] at hws
            have := wt_layer ds
            refine ⟨_, rfl, B, ws, _, m + ds.length, _, _, _, rfl, e3, hB3, hws, fun e he => ?_, by omega, hq'⟩
            obtain ⟨d', hd', he'⟩ := List.mem_flatMap.mp he
            exact gk_kids (hgk d' hd') e he'
        · rw [if_neg hf] at hq'
          rw [Bool.eq_false_iff.mpr hf]
          rw [← hq'] at q
          exact iteT (q H2 (ex.trans e2))
    · rintro σ H1 ⟨L, us, ds, m, y4, y5, y6, rfl, ex, hL, hall, hgk, hwt, hq⟩
      refine ⟨_, rfl, by decide, fun M nM => ?_⟩
      have xM := Ex.new (o := .lst []) nM
      refine ⟨_, _, .lst (sq_of (xM _ _ hL)) ((hall.et (ET.of (ex.trans xM))).dp), .lst (sq_of upd_same) .nil, list_shaped hgk (by decide), by decide +kernel, _, rfl, ?_⟩
      have hq2 : (ds.isEmpty && decide (m < 16)) = sayD ls d := hq
      rw [← hq2] at q
      cases ds with
      | nil =>
        refine iteT ⟨_, rfl, _, _, rfl, rfl, ?_⟩
        show Q (.bl (decide ((m : Int) < 16))) _
        rw [show decide ((m : Int) < 16) = decide (m < 16) by rw [decide_eq_decide]; omega]
        exact q _ (ex.trans xM)
      | cons d0 dr => exact iteF (q _ (ex.trans xM))
end
end Eh
set_option Elab.async false
set_option linter.all false
set_option maxRecDepth 100000
set_option maxHeartbeats 4000000
namespace Eh
open PySem PySem.Spec PyProof.Rows L2 Evl GxR Gx
abbrev headsV : List V := [.str "not", .str "both", .str "ahead", .str "beside", .str "around", .str "since", .str "level"]
theorem heads_at {j : Nat} (h : j < 7) : ∃ x : Str, headsV[j]? = some (.str x) ∧ ((hdN x = some 1 ∧ inV (.str x) [.str "both", .str "since", .str "level"] = false) ∨ (hdN x = some 2 ∧ inV (.str x) [.str "both", .str "since", .str "level"] = true)) := by
  rcases (show j = 0 ∨ j = 1 ∨ j = 2 ∨ j = 3 ∨ j = 4 ∨ j = 5 ∨ j = 6 by omega) with rfl | rfl | rfl | rfl | rfl | rfl | rfl
  · exact ⟨_, rfl, .inl ⟨by decide +kernel, by decide +kernel⟩⟩
  · exact ⟨_, rfl, .inr ⟨by decide +kernel, by decide +kernel⟩⟩
  · exact ⟨_, rfl, .inl ⟨by decide +kernel, by decide +kernel⟩⟩
  · exact ⟨_, rfl, .inl ⟨by decide +kernel, by decide +kernel⟩⟩
  · exact ⟨_, rfl, .inl ⟨by decide +kernel, by decide +kernel⟩⟩
  · exact ⟨_, rfl, .inr ⟨by decide +kernel, by decide +kernel⟩⟩
  · exact ⟨_, rfl, .inr ⟨by decide +kernel, by decide +kernel⟩⟩
theorem Pot.not {p c : Addr} {ns : List Int} {H : Hp} (h : Pot p c ns H) : ∀ xs, H p ≠ some (.tup xs) := fun xs z => (h.ne_tup z) rfl
abbrev nLawSaying : List Str := ["pot", "sheet", "deep", "letters", "way", "word", "one"]
theorem scLawSaying : FnScope nLawSaying ["pot", "sheet", "deep"] (defScope sLawSaying) := ⟨rfl, rfl, rfl, by decide +kernel, rfl, by decide +kernel, by decide +kernel⟩
section
variable {P : Program} {w : World} {K : PySem.W.Frag} {mg : Str → Option Value} {base : Heap}
theorem fn_no {k : Nat} {f : Addr} {fd : FuncData} {ps : List Str} : FnOk P w K mg base CX0 k f fd ps (fun _ _ _ _ => False) := ⟨fun _ _ _ _ h => h.elim, fun _ _ _ _ _ _ _ _ _ _ _ _ _ h => h.elim⟩
def spSy : Nat → Sp
  | 0 => fun _ _ _ _ => False
  | n + 1 => fun vs H Q _ => ∃ (p c s : Addr) (ns : List Int) (dp : Int) (os ps qs : List Str), vs = [.ref p, .ref s, .int dp] ∧ dp ≤ (n : Int) ∧ Pot p c ns H ∧ Sht os ps qs ∧ SheetAt H s os ps qs ∧ ∀ v d H', Th p H' v d → Sy (os ++ ps ++ qs) n d → Keep p H H' → Pot p c ns H' → Q v H'
theorem ok_saying1 {f fpick forder : Addr} {fd dpick dorder : FuncData} {k n : Nat} (F : Fun K "_law_saying" "_law_saying" sLawSaying f fd) (Gsaying : FnOk P w K mg base CX0 k f fd ["pot", "sheet", "deep"] (spSy n)) (bsaying : Binds K fd ["pot", "sheet", "deep"] []) (gsaying : mg "_law_saying" = some (.ref f))
    (Fpick : Fun K "_law_pick" "_law_pick" sPick fpick dpick) (Gpick : FnOk P w K mg base CX0 k fpick dpick ["pot", "many"] spPick) (bpick : Binds K dpick ["pot", "many"] []) (gpick : mg "_law_pick" = some (.ref fpick))
    (Forder : Fun K "_law_order" "_law_order" sOrder forder dorder) (Gorder : FnOk P w K mg base CX0 k forder dorder ["sheet"] spOrder) (border : Binds K dorder ["sheet"] []) (gorder : mg "_law_order" = some (.ref forder))
    (mint : mg "int" = none) (mlen : mg "len" = none) : FnOk P w K mg base CX0 (k + 1) f fd ["pot", "sheet", "deep"] (spSy (n + 1)) := by
  have nd := scLawSaying.nd
  refine F.ok scLawSaying (fun vs H Q E h => ?_) (fun cdv A outer s0 H vs Q E hr h => ?_)
  · obtain ⟨p, c, s, ns, dp, os, ps, qs, rfl, _⟩ := h
    rfl
  · obtain ⟨p, c, s, ns, dp, os, ps, qs, rfl, hdp, hP, hS, hs, q⟩ := h
    have Fsaying := F
    refine ⟨_, (pss_cons (ps_set (i := 3) nd rfl (.inl rfl) (pe_call Gorder hr (by rfl) gorder Forder.kp border .nil pass0 (pa_cons (pv 1) pa_nil)))
      (pss_cons (ps_set (i := 4) nd rfl (.inl rfl) (pe_op op_mul (pe_call Gpick hr (by rfl) gpick Fpick.kp bpick .nil pass0 (pa_cons (pv 0) (pa_cons pe_int pa_nil))) (pe_callTy call_int1 (by rfl) mint (by decide +kernel) (pa_cons (pe_cmpR op_gt (pv 2) pe_int (nomark _)) pa_nil))))
      (pss_cons (ps_if (pt_cmpR op_lt (pv 4) pe_int (nomark _)) (pss_one (ps_ret (pe_tup (pa_cons pe_str (pa_cons (pe_ix ix_list (pv 3) (pe_call Gpick hr (by rfl) gpick Fpick.kp bpick .nil pass0 (pa_cons (pv 0) (pa_cons (pe_callB call_len_seq (by rfl) mlen PySem.boot_len (pa_cons (pv 3) pa_nil)) pa_nil))) (fun _ _ => rfl)) pa_nil))))) pss_nil)
      (pss_cons (ps_set (i := 5) nd rfl (.inl rfl) (pe_ix ix_list (pe_lst (pa_cons pe_str (pa_cons pe_str (pa_cons pe_str (pa_cons pe_str (pa_cons pe_str (pa_cons pe_str (pa_cons pe_str pa_nil)))))))) (pe_op op_sub (pv 4) pe_int) (fun _ _ => rfl)))
      (pss_cons (ps_set (i := 6) nd rfl (.inl rfl) (pe_call Gsaying hr (by rfl) gsaying Fsaying.kp bsaying .nil pass0 (pa_cons (pv 0) (pa_cons (pv 1) (pa_cons (pe_op op_sub (pv 2) pe_int) pa_nil)))))
      (pss_cons (ps_if (pt_cmpR op_in_seq (pv 5) (pe_tup (pa_cons pe_str (pa_cons pe_str (pa_cons pe_str pa_nil)))) (by rfl)) (pss_one (ps_ret (pe_tup (pa_cons (pv 5) (pa_cons (pv 6) (pa_cons (pe_call Gsaying hr (by rfl) gsaying Fsaying.kp bsaying .nil pass0 (pa_cons (pv 0) (pa_cons (pv 1) (pa_cons (pe_op op_sub (pe_op op_sub (pv 2) pe_int) (pe_call Gpick hr (by rfl) gpick Fpick.kp bpick .nil pass0 (pa_cons (pv 0) (pa_cons pe_int pa_nil)))) pa_nil)))) pa_nil)))))) pss_nil)
      (pss_one (ps_ret (pe_tup (pa_cons (pv 5) (pa_cons (pv 6) pa_nil))))))))))), ?_⟩
    have l1 := hS.o1
    have l4 := hS.o4
    have lp := hS.p4
    have lc := hS.c4
    refine ⟨_, rfl, s, os, ps, qs, rfl, hS, hs, fun l H1 e1 nl hl => ?_⟩
    generalize hls : os ++ ps ++ qs = ls at q hl
    have hlen : 1 ≤ ls.length ∧ ls.length ≤ 12 := by
      rw [← hls, List.length_append, List.length_append]
      omega
    have hP1 := hP.ex e1
    have lp1 := (hP.ne_new nl).1.symm
    refine ⟨_, rfl, p, c, ns, 9, rfl, by decide, by decide, hP1, fun v2 H2 hv2 kp2 hP2 => ?_⟩
    have kp02 : Keep p H H2 := (Keep.ofEx e1).trans kp2
    have hs2 := hs.keep hP kp02
    have hl2 := kp2 _ _ lp1 hl
    refine ⟨_, rfl, _, _, rfl, rfl, .inr ⟨_, rfl, ?_⟩⟩
    have leaf : ∀ H3, Keep p H2 H3 → Pot p c ns H3 → H3 l = some (lS ls) → ∀ (j : Nat), (j : Int) < (ls.length : Int) → ∃ x, (ls.map V.str)[j]? = some (.str x) ∧ x ∈ ls := fun H3 _ _ _ j hj => by
      have hj2 : j < ls.length := by omega
      exact ⟨ls[j], by rw [List.getElem?_map, List.getElem?_eq_getElem hj2]; rfl, List.getElem_mem hj2⟩
    have isr : ∀ (x : Str) (H3 : Hp) (T : Addr), x ∈ ls → H3 T = none → Keep p H H3 → Pot p c ns H3 → Q (.ref T) (upd H3 T (.tup [.str "is", .str x])) := fun x H3 T hx nT kp hP3 =>
      q (.ref T) _ _ (.tup upd_same (.cons (.str _) (.cons (.str x) .nil))) (.is hx) (kp.trans (Keep.ofEx (Ex.new nT))) (hP3.ex (Ex.new nT))
    by_cases hd : dp > 0
    · rw [decide_eq_true hd]
      refine ⟨(v2 : Int), 1, rfl, rfl, .inl ⟨by omega, by omega⟩, _, rfl, _, _, rfl, rfl, _, rfl, ?_⟩
      by_cases h2 : (v2 : Int) * 1 < 2
      · rw [decide_eq_true h2]
        refine iteT ⟨_, rfl, _, rfl, _, rfl, l, _, rfl, .inl (sq_of hl2), p, c, ns, _, rfl, by rw [List.length_map]; omega, by rw [List.length_map]; omega, hP2, fun j H3 hj kp3 hP3 => ?_⟩
        rw [List.length_map] at hj
        have hl3 := kp3 _ _ lp1 hl2
        obtain ⟨x, hx1, hx2⟩ := leaf H3 kp3 hP3 hl3 j hj
        exact ⟨l, _, _, .str x, rfl, rfl, sq_of hl3, atI_nat hx1, (by show 2 ≤ sizeLine; decide), fun T nT => isr x H3 T hx2 nT (kp02.trans kp3) hP3⟩
      · rw [decide_eq_false h2]
        refine iteF ⟨(by show 7 ≤ sizeLine; decide), fun M nM => ?_⟩
        have xM := Ex.new (o := .lst headsV) nM
        obtain ⟨x, hx1, hx2⟩ := heads_at (j := v2 - 2) (by omega)
        refine ⟨_, rfl, _, _, rfl, rfl, M, _, _, .str x, rfl, rfl, sq_of upd_same, (by show atI headsV ((v2 : Int) * 1 - 2) = _; rw [show (v2 : Int) * 1 - 2 = ((v2 - 2 : Nat) : Int) by omega]; exact atI_nat hx1), ?_⟩
        generalize upd H2 M (.lst headsV) = H3 at xM ⊢
        have hP3 := hP2.ex xM
        have hs3 := hs2.ex xM
        obtain ⟨n, rfl⟩ : ∃ m, n = m + 1 := ⟨n - 1, by omega⟩
        refine ⟨_, rfl, _, rfl, _, rfl, _, _, rfl, rfl, p, c, s, ns, dp - 1, os, ps, qs, rfl, by omega, hP3, hS, hs3, fun v4 d4 H4 th4 sy4 kp4 hP4 => ?_⟩
        rw [hls] at sy4
        have hs4 := hs3.keep hP3 kp4
        refine ⟨_, rfl, (by show 3 ≤ sizeLine; decide), fun T5 nT5 => ?_⟩
        have x5 := Ex.new (o := .tup [.str "both", .str "since", .str "level"]) nT5
        refine ⟨T5, _, rfl, .inr (st_of upd_same), rfl, by decide +kernel, _, rfl, ?_⟩
        rw [if_neg (by decide)]
        generalize upd H4 T5 (.tup [.str "both", .str "since", .str "level"]) = H5 at x5 ⊢
        have hP5 := hP4.ex x5
        have kp05 : Keep p H H5 := ((kp02.trans (Keep.ofEx xM)).trans kp4).trans (Keep.ofEx x5)
        have th5 := th4.et (ET.of x5)
        rcases hx2 with ⟨hd1, hin⟩ | ⟨hd2, hin⟩
        · rw [hin]
          refine iteF ⟨_, rfl, _, rfl, (by show 2 ≤ sizeLine; decide), fun T nT => ?_⟩
          have x6 := Ex.new (o := .tup [.str x, v4]) nT
          exact q (.ref T) _ _ (.tup upd_same (.cons (.str x) (.cons (th5.et (ET.of x6)) .nil))) (.one hd1 sy4) (kp05.trans (Keep.ofEx x6)) (hP5.ex x6)
        · rw [hin]
          refine iteT ⟨_, rfl, _, rfl, _, rfl, _, rfl, _, rfl, _, _, rfl, rfl, _, rfl, p, c, ns, 2, rfl, by decide, by decide, hP5, fun v6 H6 hv6 kp6 hP6 => ?_⟩
          refine ⟨_, _, rfl, rfl, p, c, s, ns, _, os, ps, qs, rfl, by omega, hP6, hS, (hs4.ex x5).keep hP5 kp6, fun v7 d7 H7 th7 sy7 kp7 hP7 => ⟨(by show 3 ≤ sizeLine; decide), fun T nT => ?_⟩⟩
          rw [hls] at sy7
          have x8 := Ex.new (o := .tup [.str x, v4, v7]) nT
          have th8 := ((th5.kp kp6 hP5.not).kp kp7 hP6.not).et (ET.of x8)
          exact q (.ref T) _ _ (.tup upd_same (.cons (.str x) (.cons th8 (.cons (th7.et (ET.of x8)) .nil)))) (.two hd2 sy4 sy7) (((kp05.trans kp6).trans kp7).trans (Keep.ofEx x8)) (hP7.ex x8)
    · rw [decide_eq_false hd]
      refine ⟨(v2 : Int), 0, rfl, rfl, .inl ⟨by omega, by omega⟩, _, rfl, _, _, rfl, rfl, _, rfl, ?_⟩
      rw [decide_eq_true (show (v2 : Int) * 0 < 2 by omega)]
      refine iteT ⟨_, rfl, _, rfl, _, rfl, l, _, rfl, .inl (sq_of hl2), p, c, ns, _, rfl, by rw [List.length_map]; omega, by rw [List.length_map]; omega, hP2, fun j H3 hj kp3 hP3 => ?_⟩
      rw [List.length_map] at hj
      have hl3 := kp3 _ _ lp1 hl2
      obtain ⟨x, hx1, hx2⟩ := leaf H3 kp3 hP3 hl3 j hj
      exact ⟨l, _, _, .str x, rfl, rfl, sq_of hl3, atI_nat hx1, (by show 2 ≤ sizeLine; decide), fun T nT => isr x H3 T hx2 nT (kp02.trans kp3) hP3⟩
theorem ok_saying {f fpick forder : Addr} {fd dpick dorder : FuncData} (F : Fun K "_law_saying" "_law_saying" sLawSaying f fd) (bsaying : Binds K fd ["pot", "sheet", "deep"] []) (gsaying : mg "_law_saying" = some (.ref f))
    (Fpick : Fun K "_law_pick" "_law_pick" sPick fpick dpick) (Gpick : ∀ k, FnOk P w K mg base CX0 (k + 2) fpick dpick ["pot", "many"] spPick) (bpick : Binds K dpick ["pot", "many"] []) (gpick : mg "_law_pick" = some (.ref fpick))
    (Forder : Fun K "_law_order" "_law_order" sOrder forder dorder) (Gorder : ∀ k, FnOk P w K mg base CX0 (k + 1) forder dorder ["sheet"] spOrder) (border : Binds K dorder ["sheet"] []) (gorder : mg "_law_order" = some (.ref forder))
    (mint : mg "int" = none) (mlen : mg "len" = none) : ∀ n : Nat, FnOk P w K mg base CX0 (2 + n) f fd ["pot", "sheet", "deep"] (spSy n)
  | 0 => fn_no
  | n + 1 => ok_saying1 (k := 2 + n) F (ok_saying F bsaying gsaying Fpick Gpick bpick gpick Forder Gorder border gorder mint mlen n) bsaying gsaying Fpick (by rw [Nat.add_comm]; exact Gpick n) bpick gpick Forder (by rw [show 2 + n = (n + 1) + 1 by omega]; exact Gorder (n + 1)) border gorder mint mlen
end
end Eh
set_option Elab.async false
set_option linter.all false
set_option maxRecDepth 100000
set_option maxHeartbeats 4000000
namespace Eh
open PySem PySem.Spec PyProof.Rows L2 Evl GxR Gx
mutual
/-- no list in it -/
def noL : PyData → Bool
  | .list _ => false
  | .tuple ds => noLAll ds
  | _ => true
def noLAll : List PyData → Bool
  | [] => true
  | d :: r => noL d && noLAll r
end
mutual
theorem Th.tups {N M : Addr} {H H' : Hp} (h : ∀ t xs, H t = some (.tup xs) → H' t = some (.tup xs)) : ∀ {v : V} {d : PyData}, Th N H v d → noL d = true → Th M H' v d
  | _, _, .non, _ => .non
  | _, _, .bl b, _ => .bl b
  | _, _, .int i, _ => .int i
  | _, _, .str x, _ => .str x
  | _, _, .lst _ _ _, n => by cases n
  | _, _, .tup a b, n => .tup (h _ _ a) (ThAll.tups h b n)
theorem ThAll.tups {N M : Addr} {H H' : Hp} (h : ∀ t xs, H t = some (.tup xs) → H' t = some (.tup xs)) : ∀ {vs : List V} {ds : List PyData}, ThAll N H vs ds → noLAll ds = true → ThAll M H' vs ds
  | _, _, .nil, _ => .nil
  | _, _, .cons a b, n => by
    have n' := Bool.and_eq_true_iff.mp n
    exact .cons (Th.tups h a n'.1) (ThAll.tups h b n'.2)
end
theorem noLAll_app : ∀ a b : List PyData, noLAll a = true → noLAll b = true → noLAll (a ++ b) = true
  | [], b, _, h => h
  | d :: a, b, h1, h2 => by
    have h := Bool.and_eq_true_iff.mp h1
    show (noL d && noLAll (a ++ b)) = true
    rw [h.1, noLAll_app a b h.2 h2]
    rfl
theorem noL_mem {d : PyData} : ∀ {ds : List PyData}, noLAll ds = true → d ∈ ds → noL d = true
  | x :: r, h, hd => by
    have h' := Bool.and_eq_true_iff.mp h
    rcases List.mem_cons.mp hd with e | e
    · rw [e]
      exact h'.1
    · exact noL_mem h'.2 e
mutual
theorem Th.kp2 {p N : Addr} {H H' : Hp} (k : Keep p H H') (no : ∀ xs, H p ≠ some (.tup xs)) : ∀ {v : V} {d : PyData}, Th p H v d → Th N H v d → Th N H' v d
  | _, _, .non, _ => .non
  | _, _, .bl b, _ => .bl b
  | _, _, .int i, _ => .int i
  | _, _, .str x, _ => .str x
  | _, _, .lst z h t, .lst z' h' t' => by
    have e := HO.lst.inj (Option.some.inj (h.symm.trans h'))
    subst e
    exact .lst z' (k _ _ z h) (ThAll.kp2 k no t t')
  | _, _, .tup h t, .tup h' t' => by
    have e := HO.tup.inj (Option.some.inj (h.symm.trans h'))
    subst e
    exact .tup (k _ _ (fun e => no _ (e ▸ h)) h) (ThAll.kp2 k no t t')
theorem ThAll.kp2 {p N : Addr} {H H' : Hp} (k : Keep p H H') (no : ∀ xs, H p ≠ some (.tup xs)) : ∀ {vs : List V} {ds : List PyData}, ThAll p H vs ds → ThAll N H vs ds → ThAll N H' vs ds
  | _, _, .nil, _ => .nil
  | _, _, .cons a b, .cons a' b' => .cons (Th.kp2 k no a a') (ThAll.kp2 k no b b')
end
theorem Sy.nl {ls : List Str} {n : Nat} {d : PyData} (h : Sy ls n d) : noL d = true := by
  induction h with
  | is h => rfl
  | one e _ ih =>
    show (true && (noL _ && true)) = true
    rw [ih]
    rfl
  | two e _ _ ih1 ih2 =>
    show (true && (noL _ && (noL _ && true))) = true
    rw [ih1, ih2]
    rfl
theorem Gk.nl0 {d : PyData} (h : Gk 0 d) : noL d = true := by
  cases h <;> rfl
theorem old_keep {p c N : Addr} {ns : List Int} {H H' : Hp} (k : Keep p H H') (hP : Pot p c ns H') (h : H N ≠ none) : H' N ≠ none := by
  by_cases e : N = p
  · obtain ⟨_, _, _, h1, _⟩ := hP
    rw [e, h1]
    exact fun z => by cases z
  · cases e2 : H N with
    | none => exact absurd e2 h
    | some o =>
      rw [k _ _ e e2]
      exact fun z => by cases z
theorem old_ne {N q : Addr} {H : Hp} (h : H N ≠ none) (hq : H q = none) : q ≠ N := fun e => h (e ▸ hq)
end Eh
set_option Elab.async false
set_option linter.all false
set_option maxRecDepth 100000
set_option maxHeartbeats 4000000
namespace Eh
open PySem PySem.Spec PyProof.Rows L2 Evl GxR Gx
theorem ThAll.take {N : Addr} {H : Hp} : ∀ {vs : List V} {ds : List PyData}, ThAll N H vs ds → ∀ i, ThAll N H (vs.take i) (ds.take i)
  | _, _, _, 0 => by
    rw [List.take_zero, List.take_zero]
    exact .nil
  | _, _, .nil, i + 1 => .nil
  | _, _, .cons a b, i + 1 => .cons a (ThAll.take b i)
theorem ThAll.drop {N : Addr} {H : Hp} : ∀ {vs : List V} {ds : List PyData}, ThAll N H vs ds → ∀ i, ThAll N H (vs.drop i) (ds.drop i)
  | _, _, h, 0 => h
  | _, _, .nil, i + 1 => .nil
  | _, _, .cons a b, i + 1 => ThAll.drop b i
theorem wt_sub {a b : List PyData} (h : a.Sublist b) : wtAll a ≤ wtAll b := by
  induction h with
  | slnil => exact Nat.le_refl _
  | cons x _ ih =>
    show _ ≤ wt x + _
    omega
  | cons_cons x _ ih =>
    show wt x + _ ≤ wt x + _
    omega
theorem wt_put {ds : List PyData} {i : Nat} {e : PyData} (h : ds[i]? = some e) (o : PyData) : wtAll (ds.take i ++ [o] ++ ds.drop (i + 1)) + wt e = wtAll ds + wt o := by
  obtain ⟨hi, he⟩ := List.getElem?_eq_some_iff.mp h
  have e1 : ds = ds.take i ++ (e :: ds.drop (i + 1)) := by
    rw [← he, ← List.drop_eq_getElem_cons hi, List.take_append_drop]
  have e2 : wtAll ds = wtAll (ds.take i) + (wt e + wtAll (ds.drop (i + 1))) := by
    rw [e1]
    rw [wtAll_app]
    rw [← e1]
    rfl
  rw [wtAll_app, wtAll_app]
  have e3 : wtAll [o] = wt o + 0 := rfl
  omega
theorem mem_put {ds : List PyData} {i : Nat} {o x : PyData} (h : x ∈ ds.take i ++ [o] ++ ds.drop (i + 1)) : x ∈ ds ∨ x = o := by
  rcases List.mem_append.mp h with z | z
  · rcases List.mem_append.mp z with z | z
    · exact .inl (List.mem_of_mem_take z)
    · exact .inr (List.mem_singleton.mp z)
  · exact .inl (List.mem_of_mem_drop z)
theorem len_put {ds : List PyData} {i : Nat} {o : PyData} : (ds.take i ++ [o] ++ ds.drop (i + 1)).length ≤ ds.length + 1 := by
  rw [List.length_append, List.length_append, List.length_take, List.length_drop, List.length_singleton]
  omega
theorem v_int (a b : Nat) : decide (V.int (a : Int) = V.int (b : Int)) = decide (a = b) := by
  by_cases h : a = b
  · subst h
    simp
  · rw [decide_eq_false h, decide_eq_false]
    intro e
    have := V.int.inj e
    omega
theorem Sy.parts {ls : List Str} {n : Nat} {d : PyData} (h : Sy ls n d) : ∃ x r, d = .tuple (.str x :: r) ∧ (r.length = 1 ∨ r.length = 2) ∧ (x ≠ ("is" : Str) → ∃ m, n = m + 1 ∧ ∀ e ∈ r, Sy ls m e) := by
  cases h with
  | is h => exact ⟨_, _, rfl, .inl rfl, fun z => absurd rfl z⟩
  | one e h => exact ⟨_, _, rfl, .inl rfl, fun _ => ⟨_, rfl, fun e he => by rw [List.mem_singleton.mp he]; exact h⟩⟩
  | two e h g => exact ⟨_, _, rfl, .inr rfl, fun _ => ⟨_, rfl, fun e he => by
      simp only [List.mem_cons, List.not_mem_nil, or_false] at he
      rcases he with rfl | rfl
      · exact h
      · exact g⟩⟩
abbrev nLawBent : List Str := ["pot", "sheet", "thing", "at", "way", "heads", "some"]
theorem scLawBent : FnScope nLawBent ["pot", "sheet", "thing"] (defScope sLawBent) := ⟨rfl, rfl, rfl, by decide +kernel, rfl, by decide +kernel, by decide +kernel⟩
abbrev oddV : List V := [.str "is", .str "not", .str "both", .str "ahead", .str "beside", .str "around", .str "since", .str "level", .str "Is", .str "", .non, .int 0, .str "either"]
theorem odd_th (N : Addr) (H : Hp) : ∃ ds, ThAll N H oddV ds ∧ ∀ d ∈ ds, Gk 0 d ∧ wt d = 1 := by
  refine ⟨_, .cons (.str _) (.cons (.str _) (.cons (.str _) (.cons (.str _) (.cons (.str _) (.cons (.str _) (.cons (.str _) (.cons (.str _) (.cons (.str _) (.cons (.str _) (.cons .non (.cons (.int 0) (.cons (.str _) .nil)))))))))))), ?_⟩
  intro d hd
  simp only [List.mem_cons, List.not_mem_nil, or_false] at hd
  rcases hd with rfl | rfl | rfl | rfl | rfl | rfl | rfl | rfl | rfl | rfl | rfl | rfl | rfl
  case inr.inr.inr.inr.inr.inr.inr.inr.inr.inr.inl => exact ⟨.non, rfl⟩
  case inr.inr.inr.inr.inr.inr.inr.inr.inr.inr.inr.inl => exact ⟨.int (by decide), rfl⟩
  all_goals exact ⟨gk_lit (by decide +kernel), rfl⟩
section
variable {P : Program} {w : World} {K : PySem.W.Frag} {mg : Str → Option Value} {base : Heap}
def spBn : Nat → Sp
  | 0 => fun _ _ _ _ => False
  | n + 1 => fun vs H Q _ => ∃ (p c s : Addr) (ns : List Int) (v : V) (d : PyData) (os ps qs : List Str), vs = [.ref p, .ref s, v] ∧ Pot p c ns H ∧ Sht os ps qs ∧ SheetAt H s os ps qs ∧ Th p H v d ∧ Sy (os ++ ps ++ qs) n d ∧ ∀ v' d' H', (∀ N, H N ≠ none → Th N H' v' d') → Gk (n + 3) d' → wt d' ≤ 2 * wt d + 20 → Keep p H H' → Pot p c ns H' → Q v' H'
theorem ok_bent1 {f fpick : Addr} {fd dpick : FuncData} {k n : Nat} (F : Fun K "_law_bent" "_law_bent" sLawBent f fd) (Gbent : FnOk P w K mg base CX0 k f fd ["pot", "sheet", "thing"] (spBn n)) (bbent : Binds K fd ["pot", "sheet", "thing"] []) (gbent : mg "_law_bent" = some (.ref f))
    (Fpick : Fun K "_law_pick" "_law_pick" sPick fpick dpick) (Gpick : FnOk P w K mg base CX0 k fpick dpick ["pot", "many"] spPick) (bpick : Binds K dpick ["pot", "many"] []) (gpick : mg "_law_pick" = some (.ref fpick))
    (mlen : mg "len" = none) (mlist : mg "list" = none) : FnOk P w K mg base CX0 (k + 1) f fd ["pot", "sheet", "thing"] (spBn (n + 1)) := by
  have nd := scLawBent.nd
  refine F.ok scLawBent (fun vs H Q E h => ?_) (fun cdv A outer s0 H vs Q E hr h => ?_)
  · obtain ⟨p, c, s, ns, v, d, os, ps, qs, rfl, _⟩ := h
    rfl
  · obtain ⟨p, c, s, ns, v, d, os, ps, qs, rfl, hP, hS, hs, hT, hSy, q⟩ := h
    have Fbent := F
    refine ⟨_, (pss_cut (ps_if (PW.pt (pw_and (pt_cmpR op_ne (pe_ix ix_tup (pv 2) pe_int (fun _ _ => rfl)) pe_str (nomark _)) (pw_and1 (pt_cmpR op_gt (pe_call Gpick hr (by rfl) gpick Fpick.kp bpick .nil pass0 (pa_cons (pv 0) (pa_cons pe_int pa_nil))) pe_int (nomark _))))) (pss_cons (ps_set (i := 3) nd rfl (.inl rfl) (pe_op op_add pe_int (pe_call Gpick hr (by rfl) gpick Fpick.kp bpick .nil pass0 (pa_cons (pv 0) (pa_cons (pe_op op_sub (pe_callB call_len_seq (by rfl) mlen PySem.boot_len (pa_cons (pv 2) pa_nil)) pe_int) pa_nil)))))
      (pss_one (ps_ret (pe_op op_catA (pe_op op_catA (pe_slice sl_tupA (pv 2) po_none (po_some (pv 3))) (pe_tup (pa_cons (pe_call Gbent hr (by rfl) gbent Fbent.kp bbent .nil pass0 (pa_cons (pv 0) (pa_cons (pv 1) (pa_cons (pe_ix ix_tup (pv 2) (pv 3) (fun _ _ => rfl)) pa_nil)))) pa_nil))) (pe_slice sl_tupA (pv 2) (po_some (pe_op op_add (pv 3) pe_int)) po_none))))) pss_nil)
      (pss_cons (ps_set (i := 4) nd rfl (.inl rfl) (pe_call Gpick hr (by rfl) gpick Fpick.kp bpick .nil pass0 (pa_cons (pv 0) (pa_cons pe_int pa_nil))))
      (pss_cons (ps_if (pt_cmpR op_eq (pv 4) pe_int (nomark _)) (pss_cons (ps_set (i := 5) nd rfl (.inl rfl) (pe_lst (pa_cons pe_str (pa_cons pe_str (pa_cons pe_str (pa_cons pe_str (pa_cons pe_str (pa_cons pe_str (pa_cons pe_str (pa_cons pe_str (pa_cons pe_str (pa_cons pe_str (pa_cons pe_non (pa_cons pe_int (pa_cons pe_str pa_nil)))))))))))))))
      (pss_one (ps_ret (pe_op op_catA (pe_tup (pa_cons (pe_ix ix_list (pv 5) (pe_call Gpick hr (by rfl) gpick Fpick.kp bpick .nil pass0 (pa_cons (pv 0) (pa_cons (pe_callB call_len_seq (by rfl) mlen PySem.boot_len (pa_cons (pv 5) pa_nil)) pa_nil))) (fun _ _ => rfl)) pa_nil)) (pe_slice sl_tupA (pv 2) (po_some pe_int) po_none))))) pss_nil)
      (pss_cons (ps_if (pt_cmpR op_eq (pv 4) pe_int (nomark _)) (pss_one (ps_ret (pe_slice sl_tupA (pv 2) po_none (po_some (pe_un un_neg pe_int))))) pss_nil)
      (pss_cons (ps_if (pt_cmpR op_eq (pv 4) pe_int (nomark _)) (pss_one (ps_ret (pe_op op_catA (pv 2) (pe_tup (pa_cons (pe_ix ix_tup (pv 2) (pe_un un_neg pe_int) (fun _ _ => rfl)) pa_nil))))) pss_nil)
      (pss_cons (ps_if (pt_cmpR op_eq (pv 4) pe_int (nomark _)) (pss_one (ps_ret (pe_ix ix_list (pe_lst (pa_cons (pe_callTy call_list_of (by rfl) mlist (by decide +kernel) (pa_cons (pv 2) pa_nil)) (pa_cons (pe_ix ix_tup (pv 2) pe_int (fun _ _ => rfl)) (pa_cons (pe_tup (pa_cons (pv 2) pa_nil)) (pa_cons (pe_tup pa_nil) pa_nil))))) (pe_call Gpick hr (by rfl) gpick Fpick.kp bpick .nil pass0 (pa_cons (pv 0) (pa_cons pe_int pa_nil))) (fun _ _ => rfl)))) pss_nil)
      (pss_cons (ps_set (i := 6) nd rfl (.inl rfl) (pe_lst (pa_cons pe_str (pa_cons pe_str (pa_cons pe_non (pa_cons pe_int (pa_cons pe_bl (pa_cons (pe_ix ix_tup (pe_ix ix_tup (pv 1) pe_int (fun _ _ => rfl)) pe_int (fun _ _ => rfl)) (pa_cons (pe_ix ix_tup (pe_ix ix_tup (pv 1) pe_int (fun _ _ => rfl)) (pe_un un_neg pe_int) (fun _ _ => rfl)) (pa_cons (pe_tup pa_nil) (pa_cons (pe_tup (pa_cons pe_str (pa_cons (pe_ix ix_tup (pe_ix ix_tup (pv 1) pe_int (fun _ _ => rfl)) pe_int (fun _ _ => rfl)) pa_nil))) (pa_cons (pe_tup (pa_cons pe_str (pa_cons pe_str pa_nil))) (pa_cons (pv 2) (pa_cons (pe_lst (pa_cons (pv 2) pa_nil)) pa_nil))))))))))))))
      (pss_cons (ps_set (i := 3) nd rfl (.inl rfl) (pe_call Gpick hr (by rfl) gpick Fpick.kp bpick .nil pass0 (pa_cons (pv 0) (pa_cons (pe_callB call_len_seq (by rfl) mlen PySem.boot_len (pa_cons (pv 2) pa_nil)) pa_nil))))
      (pss_one (ps_ret (pe_op op_catA (pe_op op_catA (pe_slice sl_tupA (pv 2) po_none (po_some (pv 3))) (pe_tup (pa_cons (pe_ix ix_list (pv 6) (pe_call Gpick hr (by rfl) gpick Fpick.kp bpick .nil pass0 (pa_cons (pv 0) (pa_cons (pe_callB call_len_seq (by rfl) mlen PySem.boot_len (pa_cons (pv 6) pa_nil)) pa_nil))) (fun _ _ => rfl)) pa_nil))) (pe_slice sl_tupA (pv 2) (po_some (pe_op op_add (pv 3) pe_int)) po_none)))))))))))), ?_⟩
    have hgk := hSy.gk hS.lt
    obtain ⟨x, r, rfl, hr12, hsub⟩ := hSy.parts
    generalize hds : (PyData.str x :: r) = ds at *
    have lds : 2 ≤ ds.length ∧ ds.length ≤ 3 := by
      rw [← hds, List.length_cons]
      omega
    have gds : ∀ e ∈ ds, Gk n e := by
      cases hgk with
      | tup n h => exact h
    have wds : wt (.tuple ds) = 1 + wtAll ds := rfl
    have hfull := hT
    cases hT with
    | @tup a xs _ ha hall =>
      have e0 := hall.len
      -- the answer is a tuple
      have qT : ∀ (r : Addr) (H' : Hp) (vs : List V) (es : List PyData), H' r = some (.tup vs) → (∀ N, H N ≠ none → ThAll N H' vs es) → es.length ≤ 16 → (∀ e ∈ es, Gk (n + 2) e) → wtAll es ≤ 2 * wtAll ds + 21 → Keep p H H' → Pot p c ns H' → Q (.ref r) H' := fun r H' vs es h1 h2 h3 h4 h5 h6 h7 =>
        q _ _ H' (fun N hN => .tup h1 (h2 N hN)) (.tup h3 h4) (by show 1 + wtAll es ≤ _; omega) h6 h7
      have at0 : xs[0]? = some (.str x) := by
        subst hds
        cases hall with
        | cons h0 _ =>
          cases h0
          rfl
      have w1 := wt_pos
      have pOld : H p ≠ none := by
        obtain ⟨_, _, _, h1, _⟩ := hP
        rw [h1]
        exact fun z => by cases z
      have nlds : noLAll ds = true := hSy.nl
      have tp : ∀ {H' : Hp}, Keep p H H' → ∀ t xs, H t = some (.tup xs) → H' t = some (.tup xs) := fun k t xs e => k _ _ (fun z => hP.not _ (z ▸ e)) e
      have w12 : wtAll ds ≥ 2 := by
        have := len_wt ds
        omega
      -- an item of it
      have itm : ∀ i, i < ds.length → ∃ u e, xs[i]? = some u ∧ ds[i]? = some e ∧ Th p H u e := fun i hi => by
        have hx : xs[i]? = some xs[i] := List.getElem?_eq_getElem (by omega)
        obtain ⟨e, h1, h2⟩ := hall.get hx
        exact ⟨_, e, hx, h1, h2⟩
      -- one item put otherwise
      have put : ∀ (i : Nat) (ov : V) (od e : PyData) (r : Addr) (H' : Hp), ds[i]? = some e → (∀ N, H N ≠ none → Th N H' ov od) → Gk (n + 2) od → wt od ≤ wtAll ds + wt e + 21 → Keep p H H' → Pot p c ns H' → H' r = some (.tup (xs.take i ++ [ov] ++ xs.drop (i + 1))) → Q (.ref r) H' := fun i ov od e r H' he h1 h2 h3 h4 h5 h6 => by
        have al : ∀ N, ThAll N H' xs ds := fun N => hall.tups (tp h4) nlds
        refine qT r H' _ (ds.take i ++ [od] ++ ds.drop (i + 1)) h6 (fun N hN => (((al N).take i).app (.cons (h1 N hN) .nil)).app ((al N).drop (i + 1))) (Nat.le_trans len_put (by omega)) (fun z hz => ?_) ?_ h4 h5
        · rcases mem_put hz with z1 | z1
          · exact (gds z z1).mono (by omega)
          · rw [z1]
            exact h2
        · have := wt_put he od
          omega
      have l4 : xs.length ≤ 3 := by omega
      refine ⟨fun σ' H' => ∃ y3, σ' = [some (.ref p), some (.ref s), some (.ref a), y3, none, none, none] ∧ Keep p H H' ∧ Pot p c ns H', ?_, ?_⟩
      · refine ⟨_, rfl, a, _, 0, .str x, rfl, rfl, st_of ha, atI_nat (j := 0) at0, rfl, _, rfl, ?_⟩
        rw [vne_str]
        by_cases hx : x = ("is" : Str)
        · rw [decide_eq_true hx]
          exact iteF (iteF ⟨_, rfl, Keep.refl p H, hP⟩)
        · rw [decide_eq_false hx]
          obtain ⟨m, rfl, hsy⟩ := hsub hx
          refine iteT ⟨_, rfl, p, c, ns, 3, rfl, by decide, by decide, hP, fun v1 H1 hv1 kp1 hP1 => ⟨_, _, rfl, rfl, _, rfl, ?_⟩⟩
          by_cases hv : (v1 : Int) > 0
          · rw [decide_eq_true hv]
            have ha1 := kp1 _ _ (hP.ne_tup ha) ha
            refine iteT ⟨_, rfl, _, rfl, a, _, rfl, .inr (st_of ha1), _, _, rfl, rfl, p, c, ns, _, rfl, by omega, by omega, hP1, fun v2 H2 hv2 kp2 hP2 => ⟨_, _, rfl, rfl, ?_⟩⟩
            have ha2 := kp2 _ _ (hP1.ne_tup ha1) ha1
            have kp02 := kp1.trans kp2
            have ei : (1 : Int) + (v2 : Int) = ((1 + v2 : Nat) : Int) := by omega
            refine ⟨_, rfl, ?_⟩
            dsimp only [tNoPart]
            refine ⟨_, rfl, _, rfl, ?_⟩
            refine slA_rd ha2 fun r1 H3 x3 hr1 => ?_
            rw [ei, cut0] at hr1
            have hP3 := hP2.ex x3
            have kp03 := kp02.trans (Keep.ofEx x3)
            obtain ⟨u, e, hu, he, hTu⟩ := itm (1 + v2) (by omega)
            have hmem : e ∈ r := by
              rw [← hds] at he
              rw [Nat.add_comm] at he
              exact List.mem_of_getElem? (i := v2) he
            refine ⟨_, rfl, _, rfl, _, rfl, _, rfl, a, _, _, u, rfl, rfl, st_of (x3 _ _ ha2), (by rw [ei]; exact atI_nat hu), ?_⟩
            refine ⟨p, c, s, ns, u, e, os, ps, qs, rfl, hP3, hS, hs.keep hP kp03, hTu.kp kp03 hP.not, hsy e hmem, fun v4 d4 H4 th4 g4 wt4 kp4 hP4 => ⟨(by show 1 ≤ sizeLine; decide), fun r2 nr2 => ?_⟩⟩
            have x5 := Ex.new (o := .tup [v4]) nr2
            have hr4 := kp4 _ _ (hP3.ne_tup hr1) hr1
            refine catA_rd (x5 _ _ hr4) upd_same (by rw [List.length_take]; show _ + 1 ≤ 1000; omega) fun r3 H6 x6 hr3 => ?_
            have x46 := x5.trans x6
            have kp06 := (kp03.trans kp4).trans (Keep.ofEx x46)
            have hP6 := hP4.ex x46
            refine ⟨_, rfl, _, rfl, _, _, rfl, rfl, _, rfl, ?_⟩
            dsimp only [tNoPart]
            refine slA_rd (kp06 _ _ (hP.ne_tup ha) ha) fun r4 H7 x7 hr4 => ?_
            rw [show (1 : Int) + (v2 : Int) + 1 = (((1 + v2) + 1 : Nat) : Int) by omega, cutF] at hr4
            refine catA_rd (x7 _ _ hr3) hr4 (by rw [List.length_append, List.length_take, List.length_drop]; show _ + 1 + _ ≤ 1000; omega) fun r5 H8 x8 hr5 => ?_
            have x48 := (x46.trans x7).trans x8
            refine put (1 + v2) v4 d4 e r5 H8 he (fun N hN => (th4 N (old_keep kp03 hP3 hN)).et (ET.of x48)) (g4.mono (by omega)) ?_ ((kp03.trans kp4).trans (Keep.ofEx x48)) (hP4.ex x48) hr5
            have : wt e ≤ wtAll ds := wtAll_mem (List.mem_of_getElem? he)
            omega
          · rw [decide_eq_false hv]
            exact iteF ⟨_, rfl, kp1, hP1⟩
      · rintro σ' H1 ⟨y3, rfl, kp1, hP1⟩
        have hs1 := hs.keep hP kp1
        refine ⟨_, rfl, p, c, ns, 6, rfl, by decide, by decide, hP1, fun v2 H2 hv2 kp2 hP2 => ?_⟩
        have kp02 := kp1.trans kp2
        have ha2 := kp02 _ _ (hP.ne_tup ha) ha
        have al2 : ∀ N, ThAll N H2 xs ds := fun N => hall.tups (tp kp02) nlds
        refine ⟨_, rfl, rfl, _, rfl, ?_⟩
        rw [show decide (V.int (v2 : Int) = V.int 0) = decide (v2 = 0) from v_int v2 0]
        by_cases c0 : v2 = 0
        · rw [decide_eq_true c0]
          refine iteT ⟨(by show 13 ≤ sizeLine; decide), fun L nL => ?_⟩
          have x3 := Ex.new (o := .lst oddV) nL
          have hL : upd H2 L (.lst oddV) L = some (.lst oddV) := upd_same
          have Lp := (hP2.ne_new nL).1.symm
          generalize upd H2 L (.lst oddV) = H3 at x3 hL ⊢
          have hP3 := hP2.ex x3
          refine ⟨_, rfl, _, rfl, _, rfl, L, _, rfl, .inl (sq_of hL), p, c, ns, _, rfl, by decide, by decide, hP3, fun v4 H4 hv4 kp4 hP4 => ?_⟩
          have hv4 : (v4 : Int) < 13 := hv4
          have hL4 := kp4 _ _ Lp hL
          obtain ⟨od, hod, hog⟩ := odd_th p H4
          have hj : v4 < oddV.length := by show v4 < 13; omega
          obtain ⟨o, ho, hTo⟩ := hod.get (List.getElem?_eq_getElem hj)
          obtain ⟨go, wo⟩ := hog o (List.mem_of_getElem? ho)
          refine ⟨L, _, _, oddV[v4], rfl, rfl, sq_of hL4, atI_nat (List.getElem?_eq_getElem hj), (by show 1 ≤ sizeLine; decide), fun r1 nr1 => ?_⟩
          generalize oddV[v4] = ov at hTo ⊢
          have x5 := Ex.new (o := .tup [ov]) nr1
          have kp05 := ((kp02.trans (Keep.ofEx x3)).trans kp4).trans (Keep.ofEx x5)
          have hr1 : upd H4 r1 (.tup [ov]) r1 = some (.tup [ov]) := upd_same
          generalize upd H4 r1 (.tup [ov]) = H5 at x5 kp05 hr1 ⊢
          refine ⟨_, rfl, _, rfl, ?_⟩
          dsimp only [tNoPart]
          refine slA_rd (kp05 _ _ (hP.ne_tup ha) ha) fun r2 H6 x6 hr2 => ?_
          rw [cut1] at hr2
          refine catA_rd (x6 _ _ hr1) hr2 (by rw [List.length_drop]; show 1 + _ ≤ 1000; omega) fun r3 H7 x7 hr3 => ?_
          have x57 := x6.trans x7
          refine put 0 ov o (.str x) r3 H7 (by rw [← hds]; rfl) (fun N _ => hTo.tups (fun t xs e => (x5.trans x57) _ _ e) go.nl0) (go.mono (by omega)) (by omega) (kp05.trans (Keep.ofEx x57)) ((hP4.ex x5).ex x57) hr3
        · rw [decide_eq_false c0]
          refine iteF ⟨_, rfl, rfl, _, rfl, ?_⟩
          rw [show decide (V.int (v2 : Int) = V.int 1) = decide (v2 = 1) from v_int v2 1]
          by_cases c1 : v2 = 1
          · rw [decide_eq_true c1]
            refine iteT ⟨_, rfl, ?_⟩
            dsimp only [tNoPart]
            refine ⟨_, rfl, _, rfl, ?_⟩
            refine slA_rd ha2 fun r1 H3 x3 hr1 => ?_
            unfold cutV at hr1
            refine qT r1 H3 _ _ hr1 (fun N _ => (((al2 N).et (ET.of x3)).drop _).take _) ?_ (fun e he => (gds e (List.mem_of_mem_drop (List.mem_of_mem_take he))).mono (by omega)) ?_ (kp02.trans (Keep.ofEx x3)) (hP2.ex x3)
            · rw [List.length_take, List.length_drop]
              omega
            · have := wt_sub ((List.take_sublist (HT.sIx xs.length xs.length (some (-1)) - HT.sIx xs.length 0 none) (ds.drop (HT.sIx xs.length 0 none))).trans (List.drop_sublist _ ds))
              exact Nat.le_trans this (by omega)
          · rw [decide_eq_false c1]
            refine iteF ⟨_, rfl, rfl, _, rfl, ?_⟩
            rw [show decide (V.int (v2 : Int) = V.int 2) = decide (v2 = 2) from v_int v2 2]
            by_cases c2 : v2 = 2
            · rw [decide_eq_true c2]
              obtain ⟨u, e, hu, he, hTu⟩ := itm (ds.length - 1) (by omega)
              have exs : xs = xs.take (ds.length - 1) ++ [u] := by
                have h1 := List.take_append_drop (ds.length - 1) xs
                obtain ⟨hi, hx⟩ := List.getElem?_eq_some_iff.mp hu
                rw [List.drop_eq_getElem_cons hi, hx, List.drop_eq_nil_of_le (by omega)] at h1
                exact h1.symm
              refine iteT ⟨_, rfl, _, rfl, _, rfl, a, _, _, u, rfl, rfl, st_of ha2, (by rw [exs]; exact atI_last _ _), (by show 1 ≤ sizeLine; decide), fun r1 nr1 => ?_⟩
              have x3 := Ex.new (o := .tup [u]) nr1
              refine catA_rd (x3 _ _ ha2) upd_same (by show _ + 1 ≤ 1000; omega) fun r3 H4 x4 hr3 => ?_
              have x24 := x3.trans x4
              refine qT r3 H4 _ (ds ++ [e]) hr3 (fun N _ => ((al2 N).et (ET.of x24)).app (.cons ((hTu.tups (tp kp02) (noL_mem nlds (List.mem_of_getElem? he))).et (ET.of x24)) .nil)) (by rw [List.length_append]; show _ + 1 ≤ 16; omega) (fun z hz => ?_) ?_ (kp02.trans (Keep.ofEx x24)) (hP2.ex x24)
              · rcases List.mem_append.mp hz with h | h
                · exact (gds z h).mono (by omega)
                · rw [List.mem_singleton.mp h]
                  exact (gds e (List.mem_of_getElem? he)).mono (by omega)
              · have : wt e ≤ wtAll ds := wtAll_mem (List.mem_of_getElem? he)
                rw [wtAll_app]
                show _ + (wt e + 0) ≤ _
                omega
            · rw [decide_eq_false c2]
              refine iteF ⟨_, rfl, rfl, _, rfl, ?_⟩
              rw [show decide (V.int (v2 : Int) = V.int 3) = decide (v2 = 3) from v_int v2 3]
              by_cases c3 : v2 = 3
              · rw [decide_eq_true c3]
                refine iteT ⟨_, rfl, a, _, rfl, .inr (st_of ha2), fun l1 nl1 => ?_⟩
                have x3 := Ex.new (o := .lst xs) nl1
                have hl1 : upd H2 l1 (.lst xs) l1 = some (.lst xs) := upd_same
                have l1p := (hP2.ne_new nl1).1.symm
                generalize upd H2 l1 (.lst xs) = H3 at x3 hl1 ⊢
                refine ⟨_, rfl, a, _, 0, .str x, rfl, rfl, st_of (x3 _ _ ha2), atI_nat (j := 0) at0, _, rfl, (by show 1 ≤ sizeLine; decide), fun r1 nr1 => ?_⟩
                have x4 := Ex.new (o := .tup [.ref a]) nr1
                have hr1 : upd H3 r1 (.tup [.ref a]) r1 = some (.tup [.ref a]) := upd_same
                generalize upd H3 r1 (.tup [.ref a]) = H4 at x4 hr1 ⊢
                refine ⟨by decide, fun r2 nr2 => ⟨(by show 4 ≤ sizeLine; decide), fun L nL => ?_⟩⟩
                have x5 := Ex.new (o := .tup []) nr2
                have hr2 : upd H4 r2 (.tup []) r2 = some (.tup []) := upd_same
                generalize upd H4 r2 (.tup []) = H5 at x5 hr2 nL ⊢
                have x6 := Ex.new (o := .lst [.ref l1, .str x, .ref r1, .ref r2]) nL
                have hL : upd H5 L (.lst [.ref l1, .str x, .ref r1, .ref r2]) L = some (.lst [.ref l1, .str x, .ref r1, .ref r2]) := upd_same
                have x25 := (x3.trans x4).trans x5
                have Lp := ((hP2.ex x25).ne_new nL).1.symm
                generalize upd H5 L (.lst [.ref l1, .str x, .ref r1, .ref r2]) = H6 at x6 hL ⊢
                have x26 := x25.trans x6
                have hP6 := hP2.ex x26
                refine ⟨_, rfl, p, c, ns, 4, rfl, by decide, by decide, hP6, fun v7 H7 hv7 kp7 hP7 => ?_⟩
                have hL7 := kp7 _ _ Lp hL
                have kp27 : Keep p H2 H7 := (Keep.ofEx x26).trans kp7
                have kp07 : Keep p H H7 := kp02.trans kp27
                have all : ∃ dl, (∀ N, H N ≠ none → ThAll N H6 [.ref l1, .str x, .ref r1, .ref r2] dl) ∧ ∀ e ∈ dl, Gk (n + 3) e ∧ wt e ≤ 2 * wt (.tuple ds) + 20 := by
                  have x46 := x5.trans x6
                  refine ⟨_, fun N hN => .cons (.lst (old_ne (old_keep kp02 hP2 hN) nl1) ((x4.trans x46) _ _ hl1) ((al2 N).et (ET.of x26))) (.cons (.str x) (.cons (.tup (x46 _ _ hr1) (.cons ((hfull.tups (tp kp02) hSy.nl).et (ET.of x26)) .nil)) (.cons (.tup (x6 _ _ hr2) .nil) .nil))), fun e he => ?_⟩
                  simp only [List.mem_cons, List.not_mem_nil, or_false] at he
                  rcases he with rfl | rfl | rfl | rfl
                  · exact ⟨.lst (by omega) fun e he => (gds e he).mono (by omega), by show 1 + wtAll ds ≤ _; omega⟩
                  · exact ⟨(gds (.str x) (by rw [← hds]; simp)).mono (by omega), by show 1 ≤ _; omega⟩
                  · exact ⟨.tup (by show 1 ≤ 16; decide) fun e he => by rw [List.mem_singleton.mp he]; exact hgk.mono (by omega), by show 1 + (wt (.tuple ds) + 0) ≤ _; omega⟩
                  · exact ⟨.tup (by show 0 ≤ 16; decide) fun e he => (by cases he), by show 1 + 0 ≤ _; omega⟩
                obtain ⟨dl, hdl, hgl⟩ := all
                have hj : v7 < ([.ref l1, .str x, .ref r1, .ref r2] : List V).length := by show v7 < 4; omega
                obtain ⟨o, ho, hTo⟩ := (hdl p pOld).get (List.getElem?_eq_getElem hj)
                obtain ⟨g1, g2⟩ := hgl o (List.mem_of_getElem? ho)
                refine ⟨L, _, _, _, rfl, rfl, sq_of hL7, atI_nat (List.getElem?_eq_getElem hj), q _ o H7 (fun N hN => ?_) g1 g2 kp07 hP7⟩
                obtain ⟨o', ho', hTo'⟩ := (hdl N hN).get (List.getElem?_eq_getElem hj)
                rw [ho] at ho'
                cases ho'
                exact hTo.kp2 kp7 hP6.not hTo'
              · rw [decide_eq_false c3]
                refine iteF ?_
                have hs2 := hs1.keep hP1 kp2
                obtain ⟨ao, ap, ac, s0', so, sp, sc⟩ := hs2
                obtain ⟨o1, o2, rfl⟩ : ∃ o1 o2, os = o1 :: o2 := by
                  cases os with
                  | nil => exact absurd hS.o1 (by decide)
                  | cons o1 o2 => exact ⟨o1, o2, rfl⟩
                obtain ⟨q1, q2, eq⟩ : ∃ q1 q2, qs = q1 ++ [q2] := by
                  rcases List.eq_nil_or_concat qs with e | ⟨q1, q2, e⟩
                  · rw [e] at hS
                    exact absurd hS.c1 (by decide)
                  · exact ⟨q1, q2, by rw [e, List.concat_eq_append]⟩
                obtain ⟨q3, q4, eq3⟩ : ∃ q3 q4, qs = q3 :: q4 := by
                  cases qs with
                  | nil => exact absurd hS.c1 (by decide)
                  | cons q3 q4 => exact ⟨q3, q4, rfl⟩
                have lo1 : Ltr o1 := hS.lt o1 (by simp)
                have lq2 : Ltr q2 := hS.lt q2 (by rw [eq]; simp)
                have lq3 : Ltr q3 := hS.lt q3 (by rw [eq3]; simp)
                refine ⟨_, rfl, s, _, 0, .ref ao, rfl, rfl, st_of s0', atI_nat (j := 0) rfl, ao, _, 0, .str o1, rfl, rfl, st_of so, atI_nat (j := 0) rfl, ?_⟩
                refine ⟨_, rfl, s, _, 2, .ref ac, rfl, rfl, st_of s0', atI_nat (j := 2) rfl, ?_⟩
                refine ⟨_, rfl, ac, _, -1, .str q2, rfl, rfl, st_of sc, (by rw [eq, List.map_append]; exact atI_last _ _), ?_⟩
                refine ⟨by decide, fun t1 nt1 => ?_⟩
                have x3 := Ex.new (o := .tup []) nt1
                have ht1 : upd H2 t1 (.tup []) t1 = some (.tup []) := upd_same
                generalize upd H2 t1 (.tup []) = H3 at x3 ht1 ⊢
                refine ⟨_, rfl, s, _, 2, .ref ac, rfl, rfl, st_of (x3 _ _ s0'), atI_nat (j := 2) rfl, ac, _, 0, .str q3, rfl, rfl, st_of (x3 _ _ sc), (by rw [eq3]; exact atI_nat (j := 0) rfl), (by show 2 ≤ sizeLine; decide), fun t2 nt2 => ?_⟩
                have x4 := Ex.new (o := .tup [.str "is", .str q3]) nt2
                have ht2 : upd H3 t2 (.tup [.str "is", .str q3]) t2 = some (.tup [.str "is", .str q3]) := upd_same
                generalize upd H3 t2 (.tup [.str "is", .str q3]) = H4 at x4 ht2 ⊢
                refine ⟨(by show 2 ≤ sizeLine; decide), fun t3 nt3 => ?_⟩
                have x5 := Ex.new (o := .tup [.str "is", .str "Z"]) nt3
                have ht3 : upd H4 t3 (.tup [.str "is", .str "Z"]) t3 = some (.tup [.str "is", .str "Z"]) := upd_same
                generalize upd H4 t3 (.tup [.str "is", .str "Z"]) = H5 at x5 ht3 ⊢
                refine ⟨_, rfl, _, rfl, (by show 1 ≤ sizeLine; decide), fun t4 nt4 => ?_⟩
                have x25 := (x3.trans x4).trans x5
                have t4p := ((hP2.ex x25).ne_new nt4).1.symm
                have x6 := Ex.new (o := .lst [.ref a]) nt4
                have ht4 : upd H5 t4 (.lst [.ref a]) t4 = some (.lst [.ref a]) := upd_same
                generalize upd H5 t4 (.lst [.ref a]) = H6 at x6 ht4 ⊢
                refine ⟨(by show 12 ≤ sizeLine; decide), fun L nL => ?_⟩
                have x26 := x25.trans x6
                have Lp := ((hP2.ex x26).ne_new nL).1.symm
                generalize hml : ([.str "", .str "Z", .non, .int 0, .bl true, .str o1, .str q2, .ref t1, .ref t2, .ref t3, .ref a, .ref t4] : List V) = ml
                have x7 := Ex.new (o := .lst ml) nL
                have hL : upd H6 L (.lst ml) L = some (.lst ml) := upd_same
                generalize upd H6 L (.lst ml) = H7 at x7 hL ⊢
                have x27 := x26.trans x7
                have hP7 := hP2.ex x27
                have lml : ml.length = 12 := by
                  rw [← hml]
                  rfl
                have all : ∃ dl, (∀ N, H N ≠ none → ThAll N H7 ml dl) ∧ ∀ e ∈ dl, Gk (n + 2) e ∧ wt e ≤ wtAll ds + 20 := by
                  have tt : ∀ N, Th N H7 (.ref a) (.tuple ds) := fun N => (hfull.tups (tp kp02) hSy.nl).et (ET.of x27)
                  subst hml
                  refine ⟨_, fun N hN => .cons (.str _) (.cons (.str _) (.cons .non (.cons (.int 0) (.cons (.bl true) (.cons (.str o1) (.cons (.str q2) (.cons (.tup ((((x4.trans x5).trans x6).trans x7) _ _ ht1) .nil) (.cons (.tup (((x5.trans x6).trans x7) _ _ ht2) (.cons (.str _) (.cons (.str q3) .nil))) (.cons (.tup ((x6.trans x7) _ _ ht3) (.cons (.str _) (.cons (.str _) .nil))) (.cons (tt N) (.cons (.lst (old_ne (old_keep (kp02.trans (Keep.ofEx x25)) (hP2.ex x25) hN) nt4) (x7 _ _ ht4) (.cons (tt N) .nil)) .nil))))))))))), fun e he => ?_⟩
                  simp only [List.mem_cons, List.not_mem_nil, or_false] at he
                  rcases he with rfl | rfl | rfl | rfl | rfl | rfl | rfl | rfl | rfl | rfl | rfl | rfl
                  · exact ⟨gk_lit (by decide +kernel), by show 1 ≤ _; omega⟩
                  · exact ⟨gk_lit (by decide +kernel), by show 1 ≤ _; omega⟩
                  · exact ⟨.non, by show 1 ≤ _; omega⟩
                  · exact ⟨.int (by decide), by show 1 ≤ _; omega⟩
                  · exact ⟨.bl true, by show 1 ≤ _; omega⟩
                  · exact ⟨gk_ltr lo1, by show 1 ≤ _; omega⟩
                  · exact ⟨gk_ltr lq2, by show 1 ≤ _; omega⟩
                  · exact ⟨.tup (by show 0 ≤ 16; decide) fun e he => (by cases he), by show 1 + 0 ≤ _; omega⟩
                  · refine ⟨.tup (by show 2 ≤ 16; decide) fun e he => ?_, by show 1 + (1 + (1 + 0)) ≤ _; omega⟩
                    simp only [List.mem_cons, List.not_mem_nil, or_false] at he
                    rcases he with rfl | rfl
                    · exact gk_lit (by decide +kernel)
                    · exact gk_ltr lq3
                  · refine ⟨.tup (by show 2 ≤ 16; decide) fun e he => ?_, by show 1 + (1 + (1 + 0)) ≤ _; omega⟩
                    simp only [List.mem_cons, List.not_mem_nil, or_false] at he
                    rcases he with rfl | rfl
                    · exact gk_lit (by decide +kernel)
                    · exact gk_lit (by decide +kernel)
                  · exact ⟨hgk.mono (by omega), by rw [wds]; omega⟩
                  · exact ⟨.lst (by show 1 ≤ 16; decide) fun e he => by rw [List.mem_singleton.mp he]; exact hgk, by show 1 + (wt (.tuple ds) + 0) ≤ _; rw [wds]; omega⟩
                clear hml
                obtain ⟨dl, hdl, hgl⟩ := all
                have ha7 := x27 _ _ ha2
                refine ⟨_, rfl, _, rfl, a, _, rfl, .inr (st_of ha7), p, c, ns, _, rfl, by omega, by omega, hP7, fun v8 H8 hv8 kp8 hP8 => ?_⟩
                have kp08 : Keep p H H8 := (kp02.trans (Keep.ofEx x27)).trans kp8
                have ha8 := kp08 _ _ (hP.ne_tup ha) ha
                refine ⟨_, rfl, ?_⟩
                dsimp only [tNoPart]
                refine ⟨_, rfl, _, rfl, ?_⟩
                refine slA_rd ha8 fun r1 H9 x9 hr1 => ?_
                rw [cut0] at hr1
                have hP9 := hP8.ex x9
                have hL9 := x9 _ _ (kp8 _ _ Lp hL)
                refine ⟨_, rfl, _, rfl, _, rfl, L, _, rfl, .inl (sq_of hL9), p, c, ns, _, rfl, by omega, by omega, hP9, fun v10 H10 hv10 kp10 hP10 => ?_⟩
                have hj : v10 < ml.length := by omega
                have kp710 : Keep p H7 H10 := (kp8.trans (Keep.ofEx x9)).trans kp10
                obtain ⟨o, ho, hTo⟩ := (hdl p pOld).get (List.getElem?_eq_getElem hj)
                have hToN : ∀ N, H N ≠ none → Th N H10 ml[v10] o := fun N hN => by
                  obtain ⟨o', ho', hTo'⟩ := (hdl N hN).get (List.getElem?_eq_getElem hj)
                  rw [ho] at ho'
                  cases ho'
                  exact hTo.kp2 kp710 hP7.not hTo'
                obtain ⟨g1, g2⟩ := hgl o (List.mem_of_getElem? ho)
                refine ⟨L, _, _, _, rfl, rfl, sq_of (kp10 _ _ Lp hL9), atI_nat (List.getElem?_eq_getElem hj), (by show 1 ≤ sizeLine; decide), fun r2 nr2 => ?_⟩
                generalize ml[v10] = ov at hToN ⊢
                have x11 := Ex.new (o := .tup [ov]) nr2
                have hr10 := kp10 _ _ (hP9.ne_tup hr1) hr1
                refine catA_rd (x11 _ _ hr10) upd_same (by rw [List.length_take]; show _ + 1 ≤ 1000; omega) fun r3 H12 x12 hr3 => ?_
                have x1012 := x11.trans x12
                have kp012 : Keep p H H12 := ((kp08.trans (Keep.ofEx x9)).trans kp10).trans (Keep.ofEx x1012)
                refine ⟨_, rfl, _, rfl, _, _, rfl, rfl, _, rfl, ?_⟩
                dsimp only [tNoPart]
                refine slA_rd (kp012 _ _ (hP.ne_tup ha) ha) fun r4 H13 x13 hr4 => ?_
                rw [show (v8 : Int) + 1 = ((v8 + 1 : Nat) : Int) by omega, cutF] at hr4
                refine catA_rd (x13 _ _ hr3) hr4 (by rw [List.length_append, List.length_take, List.length_drop]; show _ + 1 + _ ≤ 1000; omega) fun r5 H14 x14 hr5 => ?_
                have x1014 := (x1012.trans x13).trans x14
                obtain ⟨u, e, hu, he, hTu⟩ := itm v8 (by omega)
                exact put v8 ov o e r5 H14 he (fun N hN => (hToN N hN).et (ET.of x1014)) g1 (by omega) (((kp08.trans (Keep.ofEx x9)).trans kp10).trans (Keep.ofEx x1014)) (hP10.ex x1014) hr5
theorem ok_bent {f fpick : Addr} {fd dpick : FuncData} (F : Fun K "_law_bent" "_law_bent" sLawBent f fd) (bbent : Binds K fd ["pot", "sheet", "thing"] []) (gbent : mg "_law_bent" = some (.ref f))
    (Fpick : Fun K "_law_pick" "_law_pick" sPick fpick dpick) (Gpick : ∀ k, FnOk P w K mg base CX0 (k + 2) fpick dpick ["pot", "many"] spPick) (bpick : Binds K dpick ["pot", "many"] []) (gpick : mg "_law_pick" = some (.ref fpick))
    (mlen : mg "len" = none) (mlist : mg "list" = none) : ∀ n : Nat, FnOk P w K mg base CX0 (2 + n) f fd ["pot", "sheet", "thing"] (spBn n)
  | 0 => fn_no
  | n + 1 => ok_bent1 (k := 2 + n) F (ok_bent F bbent gbent Fpick Gpick bpick gpick mlen mlist n) bbent gbent Fpick (by rw [Nat.add_comm]; exact Gpick n) bpick gpick mlen mlist
end
end Eh
set_option Elab.async false
set_option linter.all false
set_option maxRecDepth 100000
set_option maxHeartbeats 4000000
namespace Eh
open PySem PySem.Spec PyProof.Rows L2 Evl GxR Gx
/-- k heads of one part each, one within the other -/
structure Un (ls : List Str) (k : Nat) (d : PyData) : Prop where
  yes : cnt ls (k + 1) d = some (k + 1)
  no : cnt ls k d = none
  gk : Gk (k + 1) d
  wt_ : wt d ≤ 3 * (k + 1)
  nl : noL d = true
/-- k heads of two parts each, the one within the other -/
structure Wd (ls : List Str) (k : Nat) (d : PyData) : Prop where
  yes : cnt ls (k + 1) d = some (2 * k + 1)
  gk : Gk (k + 1) d
  wt_ : wt d ≤ 3 * (2 * k + 1)
  nl : noL d = true
def isD (x : Str) : PyData := .tuple [.str "is", .str x]
theorem is_gk {k : Nat} {x : Str} (h : Ltr x) : Gk (k + 1) (isD x) := by
  refine .tup (by show 2 ≤ 16; decide) fun d hd => ?_
  simp only [List.mem_cons, List.not_mem_nil, or_false] at hd
  rcases hd with rfl | rfl
  · exact gk_lit (by decide +kernel)
  · exact gk_ltr h
theorem un0 {ls : List Str} {x : Str} (h : x ∈ ls) (hl : Ltr x) : Un ls 0 (isD x) := ⟨cnt_is h, rfl, is_gk hl, by show 3 ≤ 3; decide, rfl⟩
theorem wd0 {ls : List Str} {x : Str} (h : x ∈ ls) (hl : Ltr x) : Wd ls 0 (isD x) := ⟨cnt_is h, is_gk hl, by show 3 ≤ 3; decide, rfl⟩
theorem Un.step {ls : List Str} {k : Nat} {d : PyData} {h : Str} (e : hdN h = some 1) (u : Un ls k d) : Un ls (k + 1) (.tuple [.str h, d]) := by
  refine ⟨?_, ?_, .tup (by show 2 ≤ 16; decide) fun z hz => ?_, ?_, ?_⟩
  · rw [cnt_one e, u.yes]
    show some (1 + (k + 1)) = _
    congr 1
    omega
  · rw [cnt_one e, u.no]
    rfl
  · simp only [List.mem_cons, List.not_mem_nil, or_false] at hz
    rcases hz with rfl | rfl
    · exact hd_gk e
    · exact u.gk
  · have := u.wt_
    show 1 + (1 + (wt d + 0)) ≤ _
    omega
  · show (true && (noL d && true)) = true
    rw [u.nl]
    rfl
theorem Wd.step {ls : List Str} {k : Nat} {d : PyData} {h x : Str} (e : hdN h = some 2) (hx : x ∈ ls) (hl : Ltr x) (u : Wd ls k d) : Wd ls (k + 1) (.tuple [.str h, d, isD x]) := by
  refine ⟨?_, .tup (by show 3 ≤ 16; decide) fun z hz => ?_, ?_, ?_⟩
  · rw [cnt_two e, u.yes, isD, cnt_is hx]
    show some (1 + ((2 * k + 1) + 1)) = _
    congr 1
    omega
  · simp only [List.mem_cons, List.not_mem_nil, or_false] at hz
    rcases hz with rfl | rfl | rfl
    · exact hd_gk e
    · exact u.gk
    · exact is_gk hl
  · have := u.wt_
    show 1 + (1 + (wt d + (3 + 0))) ≤ _
    omega
  · show (true && (noL d && (true && true))) = true
    rw [u.nl]
    rfl
def fourD (x : Str) : PyData := .tuple [.str "both", .tuple [.str "since", isD x, isD x], .tuple [.str "level", isD x, isD x]]
theorem cnt_four {ls : List Str} {x : Str} {n : Nat} (hx : x ∈ ls) : cnt ls (n + 3) (fourD x) = some 7 := by
  have e1 : ∀ h : Str, hdN h = some 2 → cnt ls (n + 2) (.tuple [.str h, isD x, isD x]) = some 3 := fun h e => by
    rw [cnt_two e, isD, cnt_is hx]
  rw [fourD, cnt_two (by decide +kernel), e1 _ (by decide +kernel), e1 _ (by decide +kernel)]
theorem four_gk {k : Nat} {x : Str} (h : Ltr x) : Gk (k + 3) (fourD x) := by
  have g1 : ∀ h : Str, hdN h = some 2 → Gk (k + 2) (.tuple [.str h, isD x, isD x]) := fun z e => by
    refine .tup (by show 3 ≤ 16; decide) fun d hd => ?_
    simp only [List.mem_cons, List.not_mem_nil, or_false] at hd
    rcases hd with rfl | rfl | rfl
    · exact hd_gk e
    · exact is_gk h
    · exact is_gk h
  refine .tup (by show 3 ≤ 16; decide) fun d hd => ?_
  simp only [List.mem_cons, List.not_mem_nil, or_false] at hd
  rcases hd with rfl | rfl | rfl
  · exact gk_lit (by decide +kernel)
  · exact g1 _ (by decide +kernel)
  · exact g1 _ (by decide +kernel)
theorem menu4 {j : Nat} (h : j < 4) : ∃ x : Str, ([.str "not", .str "ahead", .str "beside", .str "around"] : List V)[j]? = some (.str x) ∧ hdN x = some 1 := by
  rcases (show j = 0 ∨ j = 1 ∨ j = 2 ∨ j = 3 by omega) with rfl | rfl | rfl | rfl
  · exact ⟨_, rfl, by decide +kernel⟩
  · exact ⟨_, rfl, by decide +kernel⟩
  · exact ⟨_, rfl, by decide +kernel⟩
  · exact ⟨_, rfl, by decide +kernel⟩
theorem menu3 {j : Nat} (h : j < 3) : ∃ x : Str, ([.str "both", .str "since", .str "level"] : List V)[j]? = some (.str x) ∧ hdN x = some 2 := by
  rcases (show j = 0 ∨ j = 1 ∨ j = 2 by omega) with rfl | rfl | rfl
  · exact ⟨_, rfl, by decide +kernel⟩
  · exact ⟨_, rfl, by decide +kernel⟩
  · exact ⟨_, rfl, by decide +kernel⟩
def Fnd (ls : List Str) : Nat → List PyData → Prop
  | 0, ds => ds = []
  | i + 1, ds => ∃ es d, ds = es ++ [d] ∧ Fnd ls i es ∧ Un ls (7 + i) d
abbrev nLawAtBounds : List Str := ["pot", "sheet", "one", "found", "many", "deep", "k", "heads", "wide", "four"]
theorem scLawAtBounds : FnScope nLawAtBounds ["pot", "sheet"] (defScope sLawAtBounds) := ⟨rfl, rfl, rfl, by decide +kernel, rfl, by decide +kernel, by decide +kernel⟩
/-- things that may be looked at -/
def Fit (d : PyData) : Prop := Gk 20 d ∧ wt d ≤ 200
section
variable {P : Program} {w : World} {K : PySem.W.Frag} {mg : Str → Option Value} {base : Heap}
def spAt : Sp := fun vs H Q _ => ∃ (p c s : Addr) (ns : List Int) (os ps qs : List Str), vs = [.ref p, .ref s] ∧ Pot p c ns H ∧ Sht os ps qs ∧ SheetAt H s os ps qs ∧ ∀ (l : Addr) (us : List V) (ds : List PyData) (H' : Hp), H' l = some (.lst us) → l ≠ p → ThAll p H' us ds → (∀ d ∈ ds, Fit d) → ds.map (sayD (os ++ ps ++ qs)) = [true, false, true, true, false] → Keep p H H' → Pot p c ns H' → Q (.ref l) H'
theorem ok_atBounds {f fpick : Addr} {fd dpick : FuncData} {k : Nat} (F : Fun K "_law_at_bounds" "_law_at_bounds" sLawAtBounds f fd)
    (Fpick : Fun K "_law_pick" "_law_pick" sPick fpick dpick) (Gpick : FnOk P w K mg base CX0 k fpick dpick ["pot", "many"] spPick) (bpick : Binds K dpick ["pot", "many"] []) (gpick : mg "_law_pick" = some (.ref fpick))
    (mrange : mg "range" = none) : FnOk P w K mg base CX0 (k + 1) f fd ["pot", "sheet"] spAt := by
  have nd := scLawAtBounds.nd
  refine F.ok scLawAtBounds (fun vs H Q E h => ?_) (fun cdv A outer s0 H vs Q E hr h => ?_)
  · obtain ⟨p, c, s, ns, os, ps, qs, rfl, _⟩ := h
    rfl
  · obtain ⟨p, c, s, ns, os, ps, qs, rfl, hP, hS, hs, q⟩ := h
    refine ⟨_, (pss_cons (ps_set (i := 2) nd rfl (.inl rfl) (pe_tup (pa_cons pe_str (pa_cons (pe_ix ix_tup (pe_ix ix_tup (pv 1) pe_int (fun _ _ => rfl)) pe_int (fun _ _ => rfl)) pa_nil))))
      (pss_cons (ps_set (i := 3) nd rfl (.inl rfl) (pe_lst pa_nil))
      (pss_cons (ps_for PassesOwn.never rfl (pi_list (pe_lst (pa_cons pe_int (pa_cons pe_int pa_nil)))) (pg_name (i := 4) nd rfl (.inl rfl)) (pss_cons (ps_set (i := 5) nd rfl (.inl rfl) (pv 2))
      (pss_cons (ps_for PassesOwn.never rfl (pi_range1 (by rfl) mrange (pa_cons (pv 4) pa_nil)) (pg_name (i := 6) nd rfl (.inl rfl)) (pss_cons (ps_set (i := 7) nd rfl (.inl rfl) (pe_lst (pa_cons pe_str (pa_cons pe_str (pa_cons pe_str (pa_cons pe_str pa_nil))))))
      (pss_one (ps_set (i := 5) nd rfl (.inl rfl) (pe_tup (pa_cons (pe_ix ix_list (pv 7) (pe_call Gpick hr (by rfl) gpick Fpick.kp bpick .nil pass0 (pa_cons (pv 0) (pa_cons pe_int pa_nil))) (fun _ _ => rfl)) (pa_cons (pv 5) pa_nil)))))))
      (pss_one (ps_expr (pe_bm PySem.F.plainAttrs_list PySem.F.slot_list_append PySem.F.type_list_append mt_append (pv 3) (pa_cons (pv 5) pa_nil)))))))
      (pss_cons (ps_set (i := 7) nd rfl (.inl rfl) (pe_lst (pa_cons pe_str (pa_cons pe_str (pa_cons pe_str pa_nil)))))
      (pss_cons (ps_set (i := 8) nd rfl (.inl rfl) (pv 2))
      (pss_cons (ps_for PassesOwn.never rfl (pi_range1 (by rfl) mrange (pa_cons pe_int pa_nil)) (pg_name (i := 6) nd rfl (.inl rfl)) (pss_one (ps_set (i := 8) nd rfl (.inl rfl) (pe_tup (pa_cons (pe_ix ix_list (pv 7) (pe_call Gpick hr (by rfl) gpick Fpick.kp bpick .nil pass0 (pa_cons (pv 0) (pa_cons pe_int pa_nil))) (fun _ _ => rfl)) (pa_cons (pv 8) (pa_cons (pv 2) pa_nil)))))))
      (pss_cons (ps_expr (pe_bm PySem.F.plainAttrs_list PySem.F.slot_list_append PySem.F.type_list_append mt_append (pv 3) (pa_cons (pv 8) pa_nil)))
      (pss_cons (ps_set (i := 9) nd rfl (.inl rfl) (pe_tup (pa_cons pe_str (pa_cons (pe_tup (pa_cons pe_str (pa_cons (pv 2) (pa_cons (pv 2) pa_nil)))) (pa_cons (pe_tup (pa_cons pe_str (pa_cons (pv 2) (pa_cons (pv 2) pa_nil)))) pa_nil)))))
      (pss_one (ps_ret (pe_op op_cat (pv 3) (pe_lst (pa_cons (pe_tup (pa_cons pe_str (pa_cons (pv 9) (pa_cons (pv 9) pa_nil)))) (pa_cons (pe_tup (pa_cons pe_str (pa_cons (pv 9) (pa_cons (pe_tup (pa_cons pe_str (pa_cons (pv 9) pa_nil))) pa_nil)))) pa_nil)))))))))))))), ?_⟩
    obtain ⟨x, o2, rfl⟩ : ∃ o1 o2, os = o1 :: o2 := by
      cases os with
      | nil => exact absurd hS.o1 (by decide)
      | cons o1 o2 => exact ⟨o1, o2, rfl⟩
    have lx : Ltr x := hS.lt x (by simp)
    generalize hls : x :: o2 ++ ps ++ qs = ls at q
    have hx : x ∈ ls := by
      rw [← hls]
      simp
    obtain ⟨ao, ap, ac, s0', so, sp, sc⟩ := hs
    refine ⟨_, rfl, s, _, 0, .ref ao, rfl, rfl, st_of s0', atI_nat (j := 0) rfl, ao, _, 0, .str x, rfl, rfl, st_of so, atI_nat (j := 0) rfl, (by show 2 ≤ sizeLine; decide), fun one n1 => ?_⟩
    have x1 := Ex.new (o := .tup [.str "is", .str x]) n1
    have h1 : upd H one (.tup [.str "is", .str x]) one = some (.tup [.str "is", .str x]) := upd_same
    generalize upd H one (.tup [.str "is", .str x]) = H1 at x1 h1 ⊢
    refine ⟨by decide, fun FD nF => ?_⟩
    have x2 := Ex.new (o := .lst []) nF
    have hF : upd H1 FD (.lst []) FD = some (.lst []) := upd_same
    have Fp := ((hP.ex x1).ne_new nF).1.symm
    have cF := ((hP.ex x1).ne_new nF).2
    have oneF : one ≠ FD := ne_of_none h1 nF
    have nFH : H FD = none := by
      cases e : H FD with
      | none => rfl
      | some o =>
        rw [x1 _ _ e] at nF
        cases nF
    generalize upd H1 FD (.lst []) = H2 at x2 hF ⊢
    refine ⟨(by show 2 ≤ sizeLine; decide), fun M nM => ?_⟩
    have x3 := Ex.new (o := .lst [.int 7, .int 8]) nM
    have hM : upd H2 M (.lst [.int 7, .int 8]) M = some (.lst [.int 7, .int 8]) := upd_same
    have Mp := (((hP.ex x1).ex x2).ne_new nM).1.symm
    have MF : M ≠ FD := fun e => by
      rw [e, hF] at nM
      cases nM
    generalize upd H2 M (.lst [.int 7, .int 8]) = H3 at x3 hM ⊢
    -- what stays all along
    have base0 : ∀ H', (∀ b o, b ≠ p → b ≠ FD → H3 b = some o → H' b = some o) → Keep p H H' := fun H' k b o nb e => k b o nb (ne_of_none e nFH) (x3 _ _ (x2 _ _ (x1 _ _ e)))
    have hP3 := ((hP.ex x1).ex x2).ex x3
    have one3 := x3 _ _ (x2 _ _ h1)
    have onep : one ≠ p := hP3.ne_tup one3
    refine ⟨M, rfl, ⟨_, sq_of hM⟩, for_list (K := K) (a := M) (xs := [.int 7, .int 8]) (fun i σ H' => ∃ (us : List V) (ds : List PyData) (y4 y5 y6 y7 : Option V), σ = [some (.ref p), some (.ref s), some (.ref one), some (.ref FD), y4, y5, y6, y7, none, none] ∧ (∀ b o, b ≠ p → b ≠ FD → H3 b = some o → H' b = some o) ∧ Pot p c ns H' ∧ H' FD = some (.lst us) ∧ ThAll p H' us ds ∧ noLAll ds = true ∧ us.length = i ∧ Fnd ls i ds) ⟨[], [], none, none, none, none, rfl, fun _ _ _ _ e => e, hP3, x3 _ _ hF, .nil, rfl, rfl, rfl⟩ (fun i σ H' _ hh => ?_) ?_ ?_⟩
    · obtain ⟨us, ds, y4, y5, y6, y7, _, kk, _⟩ := hh
      exact sq_of (kk _ _ Mp MF hM)
    · rintro i v σ H4 hv ⟨us, ds, y4, y5, y6, y7, rfl, kk, hP4, hF4, hall, hnl, lus, hfd⟩
      have hi : v = .int ((7 + i : Nat) : Int) ∧ i < 2 := by
        match i, hv with
        | 0, hv =>
          cases hv
          exact ⟨rfl, by decide⟩
        | 1, hv =>
          cases hv
          exact ⟨rfl, by decide⟩
      obtain ⟨rfl, i2⟩ := hi
      refine ⟨_, rfl, _, rfl, ((7 + i : Nat) : Int), rfl, by omega, by omega, for_range (lo := 0) (n := 7 + i) (fun j σ H' => ∃ (u : V) (d : PyData) (y6 y7 : Option V), σ = [some (.ref p), some (.ref s), some (.ref one), some (.ref FD), some (.int ((7 + i : Nat) : Int)), some u, y6, y7, none, none] ∧ Keep p H4 H' ∧ Pot p c ns H' ∧ Th p H' u d ∧ Un ls j d) ⟨.ref one, isD x, y6, y7, rfl, Keep.refl p H4, hP4, .tup (kk _ _ onep oneF one3) (.cons (.str _) (.cons (.str x) .nil)), un0 hx lx⟩ ?_ ?_⟩
      · rintro j σ H5 hj ⟨u, d, y6, y7, rfl, kp5, hP5, th5, un5⟩
        refine ⟨(by show 4 ≤ sizeLine; decide), fun G nG => ?_⟩
        have x6 := Ex.new (o := .lst [.str "not", .str "ahead", .str "beside", .str "around"]) nG
        have hG : upd H5 G (.lst [.str "not", .str "ahead", .str "beside", .str "around"]) G = some (.lst [.str "not", .str "ahead", .str "beside", .str "around"]) := upd_same
        have Gp := (hP5.ne_new nG).1.symm
        generalize upd H5 G (.lst [.str "not", .str "ahead", .str "beside", .str "around"]) = H6 at x6 hG ⊢
        refine ⟨_, rfl, _, rfl, p, c, ns, 4, rfl, by decide, by decide, hP5.ex x6, fun z H7 hz kp7 hP7 => ?_⟩
        obtain ⟨h, hh1, hh2⟩ := menu4 (j := z) (by omega)
        refine ⟨G, _, _, .str h, rfl, rfl, sq_of (kp7 _ _ Gp hG), atI_nat hh1, _, rfl, (by show 2 ≤ sizeLine; decide), fun T nT => ?_⟩
        have x8 := Ex.new (o := .tup [.str h, u]) nT
        exact ⟨.ref T, _, _, _, rfl, ((kp5.trans (Keep.ofEx x6)).trans kp7).trans (Keep.ofEx x8), hP7.ex x8, .tup upd_same (.cons (.str h) (.cons (((th5.et (ET.of x6)).kp kp7 (hP5.ex x6).not).et (ET.of x8)) .nil)), un5.step hh2⟩
      · rintro σ H5 ⟨u, d, y6, y7, rfl, kp5, hP5, th5, un5⟩
        have hF5 := kp5 _ _ Fp hF4
        refine ⟨_, rfl, .inl ⟨rfl, _, sq_of hF5⟩, _, rfl, FD, _, u, rfl, rfl, hF5, by rw [lus, sizeLine_eq]; omega, us ++ [u], ds ++ [d], _, _, _, _, rfl, ?_, ?_, upd_same, ?_, noLAll_app _ _ hnl (by show (noL d && true) = true; rw [un5.nl]; rfl), by rw [List.length_append, lus]; rfl, ds, d, rfl, hfd, un5⟩
        · intro b o n1 n2 e
          rw [upd_ne n2]
          exact kp5 _ _ n1 (kk _ _ n1 n2 e)
        · exact hP5.new Fp.symm cF
        · have tp : ∀ t xs, H5 t = some (.tup xs) → upd H5 FD (.lst (us ++ [u])) t = some (.tup xs) := fun t xs e => by
            rw [upd_ne (fun z => by
              rw [z, hF5] at e
              cases e)]
            exact e
          exact ((hall.kp kp5 hP4.not).tups tp hnl).app (.cons (th5.tups tp un5.nl) .nil)
    · rintro σ H4 ⟨us, ds, y4, y5, y6, y7, rfl, kk, hP4, hF4, hall, hnl, lus, hfd⟩
      have lus : us.length = 2 := lus
      obtain ⟨_, d2, rfl, ⟨_, d1, rfl, rfl, un1⟩, un2⟩ := hfd
      refine ⟨(by show 3 ≤ sizeLine; decide), fun G nG => ?_⟩
      have x5 := Ex.new (o := .lst [.str "both", .str "since", .str "level"]) nG
      have hG : upd H4 G (.lst [.str "both", .str "since", .str "level"]) G = some (.lst [.str "both", .str "since", .str "level"]) := upd_same
      have Gp := (hP4.ne_new nG).1.symm
      have GF : G ≠ FD := fun e => by
        rw [e, hF4] at nG
        cases nG
      generalize upd H4 G (.lst [.str "both", .str "since", .str "level"]) = H5 at x5 hG ⊢
      have hP5 := hP4.ex x5
      have one5 := x5 _ _ (kk _ _ onep oneF one3)
      have oneT : ∀ {H' : Hp}, Keep p H5 H' → Th p H' (.ref one) (isD x) := fun k => .tup (k _ _ onep one5) (.cons (.str _) (.cons (.str x) .nil))
      refine ⟨_, rfl, 7, rfl, by decide, by decide, for_range (lo := 0) (n := 7) (fun j σ H' => ∃ (u : V) (d : PyData) (y6 : Option V), σ = [some (.ref p), some (.ref s), some (.ref one), some (.ref FD), y4, y5, y6, some (.ref G), some u, none] ∧ Keep p H5 H' ∧ Pot p c ns H' ∧ Th p H' u d ∧ Wd ls j d) ⟨.ref one, isD x, y6, rfl, Keep.refl p H5, hP5, oneT (Keep.refl p H5), wd0 hx lx⟩ ?_ ?_⟩
      · rintro j σ H6 hj ⟨u, d, y6, rfl, kp6, hP6, th6, wd6⟩
        refine ⟨_, rfl, _, rfl, p, c, ns, 3, rfl, by decide, by decide, hP6, fun z H7 hz kp7 hP7 => ?_⟩
        obtain ⟨h, hh1, hh2⟩ := menu3 (j := z) (by omega)
        have kp57 := kp6.trans kp7
        refine ⟨G, _, _, .str h, rfl, rfl, sq_of (kp57 _ _ Gp hG), atI_nat hh1, _, rfl, _, rfl, (by show 3 ≤ sizeLine; decide), fun T nT => ?_⟩
        have x8 := Ex.new (o := .tup [.str h, u, .ref one]) nT
        have kp58 := kp57.trans (Keep.ofEx x8)
        exact ⟨.ref T, _, _, rfl, kp58, hP7.ex x8, .tup upd_same (.cons (.str h) (.cons ((th6.kp kp7 hP6.not).et (ET.of x8)) (.cons (oneT kp58) .nil))), wd6.step hh2 hx lx⟩
      · rintro σ H6 ⟨u, d, y6, rfl, kp6, hP6, th6, wd6⟩
        have hF6 := kp6 _ _ Fp (x5 _ _ hF4)
        refine ⟨_, rfl, .inl ⟨rfl, _, sq_of hF6⟩, _, rfl, FD, _, u, rfl, rfl, hF6, by rw [lus, sizeLine_eq]; omega, ?_⟩
        have tp : ∀ t xs, H6 t = some (.tup xs) → upd H6 FD (.lst (us ++ [u])) t = some (.tup xs) := fun t xs e => by
          rw [upd_ne (fun z => by
            rw [z, hF6] at e
            cases e)]
          exact e
        have all7 := (((hall.et (ET.of x5)).kp kp6 hP5.not).tups (M := p) tp hnl).app (.cons (th6.tups tp wd6.nl) .nil)
        have one7 := tp _ _ (kp6 _ _ onep one5)
        have hF7 : upd H6 FD (.lst (us ++ [u])) FD = some (.lst (us ++ [u])) := upd_same
        have hP7 := hP6.new (o := .lst (us ++ [u])) Fp.symm cF
        have kp07 : Keep p H (upd H6 FD (.lst (us ++ [u]))) := base0 _ fun b o n1 n2 e => by
          rw [upd_ne n2]
          exact kp6 _ _ n1 (x5 _ _ (kk _ _ n1 n2 e))
        generalize upd H6 FD (.lst (us ++ [u])) = H7 at all7 one7 hF7 hP7 kp07 ⊢
        have t1 : Th p H7 (.ref one) (isD x) := .tup one7 (.cons (.str _) (.cons (.str x) .nil))
        refine ⟨_, rfl, _, rfl, (by show 3 ≤ sizeLine; decide), fun T1 nT1 => ?_⟩
        have x8 := Ex.new (o := .tup [.str "since", .ref one, .ref one]) nT1
        have hT1 : upd H7 T1 (.tup [.str "since", .ref one, .ref one]) T1 = some (.tup [.str "since", .ref one, .ref one]) := upd_same
        generalize upd H7 T1 (.tup [.str "since", .ref one, .ref one]) = H8 at x8 hT1 ⊢
        refine ⟨_, rfl, _, rfl, (by show 3 ≤ sizeLine; decide), fun T2 nT2 => ?_⟩
        have x9 := Ex.new (o := .tup [.str "level", .ref one, .ref one]) nT2
        have hT2 : upd H8 T2 (.tup [.str "level", .ref one, .ref one]) T2 = some (.tup [.str "level", .ref one, .ref one]) := upd_same
        generalize upd H8 T2 (.tup [.str "level", .ref one, .ref one]) = H9 at x9 hT2 ⊢
        refine ⟨(by show 3 ≤ sizeLine; decide), fun T3 nT3 => ?_⟩
        have x10 := Ex.new (o := .tup [.str "both", .ref T1, .ref T2]) nT3
        have hT3 : upd H9 T3 (.tup [.str "both", .ref T1, .ref T2]) T3 = some (.tup [.str "both", .ref T1, .ref T2]) := upd_same
        generalize upd H9 T3 (.tup [.str "both", .ref T1, .ref T2]) = H10 at x10 hT3 ⊢
        have x710 := (x8.trans x9).trans x10
        have t110 := t1.et (ET.of x710)
        have t4 : Th p H10 (.ref T3) (fourD x) := .tup hT3 (.cons (.str _) (.cons (.tup ((x9.trans x10) _ _ hT1) (.cons (.str _) (.cons t110 (.cons t110 .nil)))) (.cons (.tup (x10 _ _ hT2) (.cons (.str _) (.cons t110 (.cons t110 .nil)))) .nil)))
        refine ⟨_, rfl, _, rfl, _, rfl, (by show 3 ≤ sizeLine; decide), fun T4 nT4 => ?_⟩
        have x11 := Ex.new (o := .tup [.str "both", .ref T3, .ref T3]) nT4
        have hT4 : upd H10 T4 (.tup [.str "both", .ref T3, .ref T3]) T4 = some (.tup [.str "both", .ref T3, .ref T3]) := upd_same
        generalize upd H10 T4 (.tup [.str "both", .ref T3, .ref T3]) = H11 at x11 hT4 ⊢
        refine ⟨_, rfl, _, rfl, (by show 2 ≤ sizeLine; decide), fun T5 nT5 => ?_⟩
        have x12 := Ex.new (o := .tup [.str "not", .ref T3]) nT5
        have hT5 : upd H11 T5 (.tup [.str "not", .ref T3]) T5 = some (.tup [.str "not", .ref T3]) := upd_same
        generalize upd H11 T5 (.tup [.str "not", .ref T3]) = H12 at x12 hT5 ⊢
        refine ⟨(by show 3 ≤ sizeLine; decide), fun T6 nT6 => ?_⟩
        have x13 := Ex.new (o := .tup [.str "both", .ref T3, .ref T5]) nT6
        have hT6 : upd H12 T6 (.tup [.str "both", .ref T3, .ref T5]) T6 = some (.tup [.str "both", .ref T3, .ref T5]) := upd_same
        generalize upd H12 T6 (.tup [.str "both", .ref T3, .ref T5]) = H13 at x13 hT6 ⊢
        refine ⟨(by show 2 ≤ sizeLine; decide), fun L1 nL1 => ?_⟩
        have x14 := Ex.new (o := .lst [.ref T4, .ref T6]) nL1
        have hL1 : upd H13 L1 (.lst [.ref T4, .ref T6]) L1 = some (.lst [.ref T4, .ref T6]) := upd_same
        generalize upd H13 L1 (.lst [.ref T4, .ref T6]) = H14 at x14 hL1 ⊢
        have x1014 := ((x11.trans x12).trans x13).trans x14
        have x714 := x710.trans x1014
        refine ⟨FD, L1, _, _, rfl, rfl, x714 _ _ hF7, hL1, by rw [List.length_append, lus, sizeLine_eq]; show 2 + 1 + 2 ≤ 16777216; decide, fun L2 nL2 => ?_⟩
        have x15 := Ex.new (o := .lst ((us ++ [u]) ++ [.ref T4, .ref T6])) nL2
        have L2p := ((hP7.ex x714).ne_new nL2).1.symm
        have x1015 := x1014.trans x15
        have x715 := x714.trans x15
        have t415 := t4.et (ET.of x1015)
        refine q L2 _ _ _ upd_same L2p ((all7.et (ET.of x715)).app (.cons (.tup ((((x12.trans x13).trans x14).trans x15) _ _ hT4) (.cons (.str _) (.cons t415 (.cons t415 .nil)))) (.cons (.tup ((x14.trans x15) _ _ hT6) (.cons (.str _) (.cons t415 (.cons (.tup (((x13.trans x14).trans x15) _ _ hT5) (.cons (.str _) (.cons t415 .nil))) .nil)))) .nil))) ?_ ?_ (kp07.trans (Keep.ofEx x715)) (hP7.ex x715)
        · have gf := four_gk (k := 0) lx
          have g1 : Gk 4 (.tuple [.str "both", fourD x, fourD x]) := by
            refine .tup (by show 3 ≤ 16; decide) fun d hd => ?_
            simp only [List.mem_cons, List.not_mem_nil, or_false] at hd
            rcases hd with rfl | rfl | rfl
            · exact gk_lit (by decide +kernel)
            · exact gf
            · exact gf
          have g2 : Gk 4 (.tuple [.str "not", fourD x]) := by
            refine .tup (by show 2 ≤ 16; decide) fun d hd => ?_
            simp only [List.mem_cons, List.not_mem_nil, or_false] at hd
            rcases hd with rfl | rfl
            · exact gk_lit (by decide +kernel)
            · exact gf
          have g3 : Gk 5 (.tuple [.str "both", fourD x, .tuple [.str "not", fourD x]]) := by
            refine .tup (by show 3 ≤ 16; decide) fun d hd => ?_
            simp only [List.mem_cons, List.not_mem_nil, or_false] at hd
            rcases hd with rfl | rfl | rfl
            · exact gk_lit (by decide +kernel)
            · exact gf.mono (by decide)
            · exact g2
          intro z hz
          simp only [List.mem_append, List.mem_cons, List.not_mem_nil, or_false, List.nil_append] at hz
          rcases hz with ((rfl | rfl) | rfl) | rfl | rfl
          · exact ⟨un1.gk.mono (by decide), Nat.le_trans un1.wt_ (by decide)⟩
          · exact ⟨un2.gk.mono (by decide), Nat.le_trans un2.wt_ (by decide)⟩
          · exact ⟨wd6.gk.mono (by decide), Nat.le_trans wd6.wt_ (by decide)⟩
          · exact ⟨g1.mono (by decide), by
              have : wt (fourD x) = 18 := rfl
              show 1 + (1 + (wt (fourD x) + (wt (fourD x) + 0))) ≤ 200
              omega⟩
          · exact ⟨g3.mono (by decide), by
              have : wt (fourD x) = 18 := rfl
              show 1 + (1 + (wt (fourD x) + ((1 + (1 + (wt (fourD x) + 0))) + 0))) ≤ 200
              omega⟩
        · have s1 : sayD ls d1 = true := by
            unfold sayD
            rw [un1.yes]
            rfl
          have s2 : sayD ls d2 = false := by
            unfold sayD
            rw [un2.no]
            rfl
          have s3 : sayD ls d = true := by
            unfold sayD
            rw [wd6.yes]
            rfl
          have s4 : sayD ls (.tuple [.str "both", fourD x, fourD x]) = true := by
            unfold sayD
            rw [cnt_two (by decide +kernel), cnt_four (n := 4) hx]
            rfl
          have s5 : sayD ls (.tuple [.str "both", fourD x, .tuple [.str "not", fourD x]]) = false := by
            unfold sayD
            rw [cnt_two (by decide +kernel), cnt_four (n := 4) hx, cnt_one (by decide +kernel), cnt_four (n := 3) hx]
            rfl
          show [sayD ls d1, sayD ls d2, sayD ls d, sayD ls (.tuple [.str "both", fourD x, fourD x]), sayD ls (.tuple [.str "both", fourD x, .tuple [.str "not", fourD x]])] = _
          rw [s1, s2, s3, s4, s5]
end
end Eh
set_option Elab.async false
set_option linter.all false
set_option maxRecDepth 100000
set_option maxHeartbeats 4000000
/-! the end of a law whose defs have tables of code objects; no guard stands around the law's own body -/
namespace EndG
open PySem PySem.Spec PyProof.Rows L2 GxR
abbrev tabO : Obj := { cls := .none, data := .fields #[] }
abbrev lstO (vs : List Value) : Obj := { cls := .type "list", data := .seq vs.toArray }
/-- what the law may track at first: the tables, and the script if it isn't K's -/
def h0 (ts : List Addr) (a : Addr) (fz : Bool) (vs : List Value) (ns : List Int) : Hp := fun b => if b ∈ ts then some (.tbl #[]) else if b = a ∧ fz = true then some (.frz (lstO vs) (.lst (ns.map V.int))) else none
section
variable {ts : List Addr} {a b : Addr} {fz : Bool} {vs : List Value} {ns : List Int}
theorem h0_t (h : b ∈ ts) : h0 ts a fz vs ns b = some (.tbl #[]) := if_pos h
theorem h0_a (h : a ∉ ts) (z : fz = true) : h0 ts a fz vs ns a = some (.frz (lstO vs) (.lst (ns.map V.int))) := (if_neg h).trans (if_pos ⟨rfl, z⟩)
theorem h0_n (h : b ∉ ts) (z : ¬ (b = a ∧ fz = true)) : h0 ts a fz vs ns b = none := (if_neg h).trans (if_neg z)
theorem h0_or : b ∈ ts ∨ (b ∉ ts ∧ b = a ∧ fz = true) ∨ h0 ts a fz vs ns b = none := by
  by_cases h : b ∈ ts
  · exact .inl h
  · by_cases z : b = a ∧ fz = true
    · exact .inr (.inl ⟨h, z⟩)
    · exact .inr (.inr (h0_n h z))
end
/-- a body runs: one context -/
theorem enter {CX : CXT} {P : Program} {w : World} {K : PySem.W.Frag} {mg : Str → Option Value} {base : Heap} {k : Nat} {f : Addr} {name qual : Str} {params : Arguments} {body : List Stmt} {scope : Scope} {dV kV doc pm cdv ct oc : Value} {an od : Option Addr} {osl : Array (Option Value)} {N ps : List Str}
    {A : Around} {outer : List Env} {z : Shared} {H : Hp} {args : Args} {us : List Value} {vs : List V} {Q : VK} {E : XK} {t : TS}
    (lk : K.lookup f = some ⟨oc, od, .func (PySem.W.fnOf name qual params body scope dV kV doc pm an cdv ct), osl⟩) (cd : PySem.W.codeIn K cdv qual = true) (S : FnScope N ps scope) (hr : Room (k + 1) A) (e0 : Env0 P w K mg base A outer z H)
    (bi : BindsTo z (PySem.W.fnOf name qual params body scope dV kV doc pm an cdv ct) args (ps.zip us)) (rv : Vals vs us) (hl : vs.length = ps.length)
    (ht : PSs (cxOf CX P w K mg base N qual scope f cdv A outer z H E) body t) (hq : t { nx := fun _ H' => Q .non H', rt := Q } (start N vs) H) :
    codeAny (model P w) A (.call (.ref f) args) (CR CX outer P w H z Q E) z := by
  have kb : ∀ b o, base.get? b = some o → z.heap.get? b = some o := fun b o e => (e0.bs b o e).1
  have kz : K.In z.heap := e0.mod.kin.keeps kb
  refine codeAny_call_function hr.depth (kz _ _ lk) rfl S.co S.gen rfl (PySem.W.codeRec_of kz cd) (bi _ _ _ _ ?_)
  refine wpAny_newFunctionEnv_cells S.kind (fun y hy => ?_) fun env he z1 x => ?_
  · rcases S.par y.1 (List.of_mem_zip hy).1 with q | q
    · exact .inl q
    · exact .inr ⟨q, PySem.W.cellsFrom_some _ _ _ (.inl q)⟩
  subst he
  refine ⟨(e0.mod.nolimit.keeps kb).keeps x.toInCall.keep, codeAny_func (wpAny_mono (ht.run [] z1 (start N vs) H _ (inv_start S hr.hd e0 hl rv x) hq) (fun fl z' hs => ?_) fun e z' hs => hs)⟩
  cases fl with
  | ret u =>
    obtain ⟨v, _, H', J, r, q⟩ := hs
    exact ⟨v, H', J.os, J.bare, J.base, J.hok, r, q⟩
  | next =>
    obtain ⟨_, H', J, q⟩ := hs
    exact ⟨.non, H', J.os, J.bare, J.base, J.hok, rfl, q⟩
  | brk =>
    obtain ⟨_, _, _, q⟩ := hs
    exact q.elim
  | cont =>
    obtain ⟨_, _, _, q⟩ := hs
    exact q.elim
/-- the law is called -/
theorem law_callG {P : Program} {w : World} {K : PySem.W.Frag} {mg mb : Str → Option Value} {CX : CXT} {fa a : Addr} {cs : List (Addr × Addr)} {z : Shared} {vs : List Value} {ns : List Int}
    (kx : K.In z.heap) (gn : z.heap.Ns mainGlobals mg) (bn : z.heap.Ns builtinsNs mb) (bb : ∀ x : Str, x ≠ "__name__" → mb x = bootBuiltins x) (nl : z.heap.NoLimit) (g0 : z.gens = #[])
    (tb : ∀ p ∈ cs, z.heap.get? p.2 = some tabO) (tn : ∀ p ∈ cs, K.lookup p.2 = none) (ch : ∀ p ∈ cs, PySem.W.CodeHd z.heap p.1 p.2)
    (bm : ∃ (bm : Addr) (ob : Obj), mg "__builtins__" = some (.ref bm) ∧ bm ≠ builtinsNs ∧ z.heap.get? bm = some ob ∧ ob.cls = .type "module" ∧ ob.dict = some builtinsNs ∧ ob.data = .plain)
    (sc : z.heap.get? a = some (lstO vs)) (si : IntsAre vs ns) (sl : ns.length ≤ sizeLine)
    (run : ∀ (base : Heap) (H : Hp), K.In base → base.Ns mainGlobals mg → (∀ p ∈ cs, TabB base mg p.1 p.2) → (∀ p ∈ cs, H p.2 = some (.tbl #[])) → SqL K H a (ns.map V.int) → Env0 P w K mg base callerA [] z H →
      codeAny (model P w) callerA (.call (.ref fa) ⟨[.ref a], []⟩) (CR CX [] P w H z (fun v _ => v = .bl true) fun _ _ _ => False) z)
    (hCX : ∀ H e z', CX [] H z (fun _ _ _ => False) e z' → False) :
    codeAny (model P w) callerA (.call (.ref fa) ⟨[.ref a], []⟩) (fun r z' => r = .ok (.ret (.bool true)) ∧ OldK z.heap z'.heap ∧ z'.os = z.os ∧ AllBare z'.gens) z := by
  generalize hts : cs.map (·.2) = ts
  have inT : ∀ p ∈ cs, p.2 ∈ ts := fun p hp => hts ▸ List.mem_map.mpr ⟨p, hp, rfl⟩
  have ofT : ∀ b ∈ ts, ∃ p ∈ cs, p.2 = b := fun b hb => by
    rw [← hts] at hb
    exact List.mem_map.mp hb
  have tO : ∀ b ∈ ts, z.heap.get? b = some tabO := fun b hb => by
    obtain ⟨p, hp, rfl⟩ := ofT b hb
    exact tb p hp
  have aT : a ∉ ts := fun c => by
    have q := (tO a c).symm.trans sc
    have q2 : Data.fields #[] = Data.seq vs.toArray _ := congrArg Obj.data (Option.some.inj q)
    cases q2
  generalize hf : (K.lookup a).isNone = fz
  have rv := vals_ints si
  generalize eH : h0 ts a fz vs ns = H
  have Ht : ∀ b ∈ ts, H b = some (.tbl #[]) := fun b hb => eH ▸ h0_t hb
  have Ha : fz = true → H a = some (.frz (lstO vs) (.lst (ns.map V.int))) := fun c => eH ▸ h0_a aT c
  have Ho : ∀ b, b ∈ ts ∨ (b ∉ ts ∧ b = a ∧ fz = true) ∨ H b = none := fun b => eH ▸ h0_or
  have hS : SqL K H a (ns.map V.int) := by
    cases e : K.lookup a with
    | none => exact .inl (.inr ⟨_, Ha (by rw [← hf, e]; rfl)⟩)
    | some o =>
      have q := (kx a o e).symm.trans sc
      cases q
      exact .inr ⟨_, vs.toArray, _, e, rfl, rfl, rfl, by rw [List.size_toArray, si.length]; exact sl, by simpa using rv⟩
  have hok : HOk P w H z.heap := fun b o e => by
    rcases Ho b with c | ⟨_, rfl, c⟩ | c
    · rw [Ht b c] at e
      cases e
      exact tO b c
    · rw [Ha c] at e
      cases e
      exact ⟨sc, by rw [List.length_map]; exact sl, vs, _, rv, sc⟩
    · rw [c] at e
      cases e
  -- what isn't a table nor the script is in the ground
  have low : ∀ {b : Addr} {o : Obj}, z.heap.get? b = some o → (∀ x n, o.data ≠ .seq x n) → o.data ≠ .fields #[] → H b = none := fun {b o} e n1 n2 => by
    rcases Ho b with c | ⟨_, rfl, _⟩ | c
    · cases (tO b c).symm.trans e
      exact (n2 rfl).elim
    · cases sc.symm.trans e
      exact (n1 _ _ rfl).elim
    · exact c
  have nsG : ∀ {b : Addr} {m : Str → Option Value}, z.heap.Ns b m → (hidT z.heap H).Ns b m := fun {b m} ⟨o, es, ep, e, d, r⟩ =>
    ⟨o, es, ep, hidT_get e (low e (fun x n c => by rw [d] at c; cases c) fun c => by rw [d] at c; cases c), d, r⟩
  have kG : K.In (hidT z.heap H) := fun b o e => by
    refine hidT_get (kx b o e) ?_
    rcases Ho b with c | ⟨_, rfl, c⟩ | c
    · obtain ⟨p, hp, rfl⟩ := ofT b c
      rw [tn p hp] at e
      cases e
    · rw [← hf, e] at c
      cases c
    · exact c
  have TB : ∀ p ∈ cs, TabB (hidT z.heap H) mg p.1 p.2 := fun p hp => by
    refine ⟨?_, ?_, fun c => ?_⟩
    · obtain ⟨o, us, x1, x2, x3, x4, x5, x6, x7, e, r1, r2, r3, r⟩ := ch p hp
      refine ⟨o, us, x1, x2, x3, x4, x5, x6, x7, hidT_get e (low e (fun x n c => by rw [r2] at c; cases c) fun c => ?_), r1, r2, r3, r⟩
      rw [r2] at c
      cases c
      simp at r3
    · obtain ⟨m, ob, b1, b2, b3, b4, b5, b6⟩ := bm
      refine ⟨m, ob, b1, b2, fun c => ?_, fun c => ?_, hidT_get b3 (low b3 (fun x n c => by rw [b6] at c; cases c) fun c => by rw [b6] at c; cases c), b4, b5, b6⟩
      · obtain ⟨o, es, ep, e, d, _⟩ := gn
        rw [c] at b3
        cases b3.symm.trans e
        rw [b6] at d
        cases d
      · rw [c] at b3
        cases b3.symm.trans (tb p hp)
        cases b6
    · obtain ⟨o, es, ep, e, d, _⟩ := gn
      rw [c] at e
      cases e.symm.trans (tb p hp)
      cases d
  have e0 : Env0 P w K mg (hidT z.heap H) callerA [] z H :=
    { frames := rfl, mod := ⟨kG, nsG gn, ⟨mb, nsG bn, bb⟩, nl.elim fun mc q => ⟨mc, nsG q.1, q.2⟩⟩, bs := fun b o e => of_hidT e, bsz := Nat.le_of_eq (hidT_size _ _), funs := trivial, frf := (fun b (c : b ∈ ([] : List Addr)) => (List.not_mem_nil c).elim), hok := hok, bare := .of_eq g0 }
  refine codeAny_mono (run _ H kG (nsG gn) TB (fun p hp => Ht _ (inT p hp)) hS e0) fun r z' q => ?_
  cases r with
  | error e => exact (hCX H e z' q).elim
  | ok fl =>
    cases fl with
    | next => exact q.elim
    | brk => exact q.elim
    | cont => exact q.elim
    | ret u =>
      obtain ⟨v, H', os, ba, un, ok', r, e⟩ := q
      have e : v = .bl true := e
      subst e
      obtain rfl : u = Value.bool true := r
      have same : ∀ b o, b ∉ ts → z.heap.get? b = some o → z'.heap.get? b = some o := fun b o nb e => by
        rcases Ho b with c | ⟨_, rfl, c⟩ | c
        · exact (nb c).elim
        · have q1 := (ok' b _ (un.frzs b _ _ (Ha c))).1
          cases sc.symm.trans e
          exact q1
        · exact un.keep b o e c (fun d => by cases d) fun d => by cases d
      have more : ∀ b ∈ ts, ∃ xs : Array Value, z'.heap.get? b = some { cls := .none, data := .fields xs } := fun b hb => by
        obtain ⟨m, q⟩ := un.tbls b #[] (Ht b hb)
        exact ⟨_, ok' b _ q⟩
      refine ⟨rfl, ⟨fun b o e => ?_, fun b o e => ?_⟩, os, ba⟩
      · by_cases c : b ∈ ts
        · obtain ⟨xs, q⟩ := more b c
          cases (tO b c).symm.trans e
          obtain ⟨p, hp, rfl⟩ := ofT b c
          exact .inr (.inl ⟨((ch p hp).tab (tb p hp)).isCodeTable, rfl, #[], xs, rfl, by rw [Array.empty_append]; exact q⟩)
        · exact .inl (same b o c e)
      · by_cases c : b ∈ ts
        · obtain ⟨xs, q⟩ := more b c
          exact ⟨_, q⟩
        · exact ⟨o, same b o c e⟩
/-- each of these defs has an empty table -/
def Tabs (nms : List Str) (K : PySem.W.Frag) (mg : Str → Option Value) (h : Heap) : Prop := ∀ nm ∈ nms, ∀ f, mg nm = some (.ref f) → LamX.OwnTab K f h
/-- the law, at the head's heap h -/
def LawAtG (l : PySem.W.OpenLaw) (w : World) (K : PySem.W.Frag) (CX : CXT) (n : Nat) (mg : Str → Option Value) (fa : Addr) (h : Heap) : Prop :=
  ∃ cs : List (Addr × Addr), (∀ p ∈ cs, h.get? p.2 = some tabO) ∧ (∀ p ∈ cs, K.lookup p.2 = none) ∧ (∀ p ∈ cs, PySem.W.CodeHd h p.1 p.2) ∧
    ∀ (base : Heap) (H : Hp) (z : Shared) (a : Addr) (ns : List Int), K.In base → base.Ns mainGlobals mg → (∀ p ∈ cs, TabB base mg p.1 p.2) → (∀ p ∈ cs, H p.2 = some (.tbl #[])) → SqL K H a (ns.map V.int) → ns.length ≤ n → (∀ i ∈ ns, Builtin.Int.intBits i ≤ 1048576) → Env0 l.prog w K mg base callerA [] z H →
      codeAny (model l.prog w) callerA (.call (.ref fa) ⟨[.ref a], []⟩) (CR CX [] l.prog w H z (fun v _ => v = .bl true) fun _ _ _ => False) z
theorem walkG {l : PySem.W.OpenLaw} {n : Nat} {q : Program} {loose : List Str} {XP : (Str → Option Value) → Heap → Prop} {YP : World → Heap → Prop} {d : DefRec} {K : Params → PySem.W.Frag} {CX : World → CXT} (nms : List Str)
    (hn : l.most = some n) (hn2 : n ≤ sizeLine) (hdf : d.params.defaults = []) (hrec : (nms.all fun nm => (recsOf q).any fun e => e.name == nm) = true) (hY : ∀ (w : World) (h : Heap), YP w h → (K w.params).In h)
    (F : ∀ (w : World) (mg : Str → Option Value) (fa : Addr) (h : Heap), YP w h → (K w.params).In h → h.Ns mainGlobals mg → mg d.name = some (.ref fa) → Tabs nms (K w.params) mg h → LawAtG l w (K w.params) (CX w) n mg fa h)
    (hCX : ∀ (w : World) (H : Hp) (s : Shared) (e : Value) (s' : Shared), CX w [] H s (fun _ _ _ => False) e s' → False) :
    PySem.W.WalkO q loose XP YP l.row.toRowW d [] (fun f vs => PySem.call f vs) := by
  refine Att.attach_callB hn hdf fun w _ z mg mb fa _ _ _ _ a vs ns G Y _ _ _ hmg hobj hints hlen hbits hg => ?_
  have kx := hY w _ Y
  have own : Tabs nms (K w.params) mg z.heap := fun nm hm f hf c P o fd e dd us sl k1 k2 k3 k4 k5 => by
    obtain ⟨r, hr, he⟩ := List.any_eq_true.mp (List.all_eq_true.mp hrec nm hm)
    obtain ⟨_, _, _, _, _, h1, h2, h3, h4, _, ⟨_, _, e1, _, e3, e4⟩, hP⟩ := G.T.tab r hr
    rw [beq_iff_eq.mp he, hf] at h1
    cases h1
    cases (kx _ _ k1).symm.trans h2
    cases k2.symm.trans h3
    cases k3.symm.trans h4
    cases (kx _ _ k4).symm.trans e1
    cases e3
    cases k5.symm.trans e4
    exact hP
  obtain ⟨cs, t1, t2, t3, run⟩ := F w mg fa _ Y kx G.T.g hmg own
  exact law_callG kx G.T.g G.T.b G.T.builtins G.T.nolimit hg t1 t2 t3 G.T.bmain hobj hints (Nat.le_trans hlen hn2) (fun base H x1 x2 x3 x4 x5 x6 => run base H z a ns x1 x2 x3 x4 x5 hlen hbits x6) fun H e z' => hCX w H z e z'
end EndG
set_option Elab.async false
set_option linter.all false
set_option maxRecDepth 100000
set_option maxHeartbeats 4000000
namespace Eh
open PySem PySem.Spec PyProof.Rows L2 Evl GxR Gx
theorem cut_last (xs : List V) (v : V) : cutV (xs ++ [v]) (some (-1)) none = [v] := by
  have e : HT.sIx (xs ++ [v]).length 0 (some (-1)) = xs.length := by
    show (if (-1 : Int) < 0 then ((-1 : Int) + ((xs ++ [v]).length : Int)).toNat else min (-1 : Int).toNat (xs ++ [v]).length) = xs.length
    rw [if_pos (by decide), List.length_append]
    show ((-1 : Int) + ((xs.length + 1 : Nat) : Int)).toNat = _
    omega
  unfold cutV
  rw [e, HT.sIx_none, List.length_append, List.drop_left]
  show [v].take (xs.length + 1 - xs.length) = [v]
  rw [show xs.length + 1 - xs.length = 1 by omega]
  rfl
theorem Sht.less {o1 q2 : Str} {o2 q1 ps : List Str} (h : Sht (o1 :: o2) ps (q1 ++ [q2])) : Sht [o1] ps [q2] := by
  have sub : ([o1] ++ ps ++ [q2]).Sublist ((o1 :: o2) ++ ps ++ (q1 ++ [q2])) := by
    refine List.Sublist.append (List.Sublist.append ?_ (List.Sublist.refl ps)) ?_
    · exact List.Sublist.cons_cons o1 (List.nil_sublist o2)
    · exact List.sublist_append_right q1 [q2]
  exact ⟨sub.nodup h.nd, fun x hx => h.lt x (sub.subset hx), by show 1 ≤ 1; decide, by show 1 ≤ 4; decide, h.p4, by show 1 ≤ 1; decide, by show 1 ≤ 4; decide⟩
theorem dp_bls {K : PySem.W.Frag} {H : Hp} : ∀ bs : List Bool, DpAll K H (bs.map V.bl) (bs.map PyData.bool)
  | [] => .nil
  | b :: r => .cons (.bl b) (dp_bls r)
theorem Fit.gk {d : PyData} (h : Fit d) : Gk 40 d := h.1.mono (by decide)
/-- a list of things -/
structure Ths (p : Addr) (H : Hp) (L : Addr) (us : List V) (ds : List PyData) : Prop where
  at_ : H L = some (.lst us)
  ne : L ≠ p
  all : ThAll p H us ds
  fit : ∀ d ∈ ds, Fit d
theorem Ths.ex {p L : Addr} {H H' : Hp} {us : List V} {ds : List PyData} (h : Ths p H L us ds) (e : Ex H H') : Ths p H' L us ds := ⟨e _ _ h.at_, h.ne, h.all.et (ET.of e), h.fit⟩
theorem Ths.kp {p c L : Addr} {ns : List Int} {H H' : Hp} {us : List V} {ds : List PyData} (h : Ths p H L us ds) (hP : Pot p c ns H) (k : Keep p H H') : Ths p H' L us ds := ⟨k _ _ h.ne h.at_, h.ne, h.all.kp k hP.not, h.fit⟩
theorem cat_ths {p c A B : Addr} {ns : List Int} {H : Hp} {us vs : List V} {ds es : List PyData} {Q : VK} (hP : Pot p c ns H) (hA : Ths p H A us ds) (hB : Ths p H B vs es) (nm : us.length + vs.length ≤ 1000) (q : ∀ C H', Ex H H' → Ths p H' C (us ++ vs) (ds ++ es) → Q (.ref C) H') : rCat (.ref A) (.ref B) H Q := by
  refine ⟨A, B, us, vs, rfl, rfl, hA.at_, hB.at_, by rw [sizeLine_eq]; omega, fun C nC => q C _ (Ex.new nC) ⟨upd_same, (hP.ne_new nC).1.symm, (hA.all.app hB.all).et (ET.of (Ex.new nC)), fun d hd => ?_⟩⟩
  rcases List.mem_append.mp hd with z | z
  · exact hA.fit d z
  · exact hB.fit d z
abbrev nLaw : List Str := ["script", "pot", "sheet", "other", "things", "turn", "saying", "thing", "before", "some", "k"]
theorem scLaw : FnScope nLaw ["script"] (defScope sLaw) := ⟨rfl, rfl, rfl, by decide +kernel, rfl, by decide +kernel, by decide +kernel⟩
section
variable {P : Program} {w : World} {K : PySem.W.Frag} {mg : Str → Option Value} {base : Heap}
theorem law_run {f fpot fsheet fat_bounds fsaying fis_saying fbent fsame fdue : Addr} {fd dpot dsheet dat_bounds dsaying dis_saying dbent dsame ddue : FuncData} {k : Nat} (F : Fun K "law" "law" sLaw f fd)
    (Fpot : Fun K "_law_pot" "_law_pot" sPot fpot dpot) (Gpot : FnOk P w K mg base CX0 k fpot dpot ["script"] (spPot K)) (bpot : Binds K dpot ["script"] []) (gpot : mg "_law_pot" = some (.ref fpot))
    (Fsheet : Fun K "_law_sheet" "_law_sheet" sSheet fsheet dsheet) (Gsheet : FnOk P w K mg base CX0 k fsheet dsheet ["pot", "most"] spSheet) (bsheet : Binds K dsheet ["pot", "most"] []) (gsheet : mg "_law_sheet" = some (.ref fsheet))
    (Fat_bounds : Fun K "_law_at_bounds" "_law_at_bounds" sLawAtBounds fat_bounds dat_bounds) (Gat_bounds : FnOk P w K mg base CX0 k fat_bounds dat_bounds ["pot", "sheet"] spAt) (bat_bounds : Binds K dat_bounds ["pot", "sheet"] []) (gat_bounds : mg "_law_at_bounds" = some (.ref fat_bounds))
    (Fsaying : Fun K "_law_saying" "_law_saying" sLawSaying fsaying dsaying) (Gsaying : FnOk P w K mg base CX0 k fsaying dsaying ["pot", "sheet", "deep"] (spSy 4)) (bsaying : Binds K dsaying ["pot", "sheet", "deep"] []) (gsaying : mg "_law_saying" = some (.ref fsaying))
    (Fis_saying : Fun K "is_saying" "is_saying" sIsSaying fis_saying dis_saying) (Gis_saying : FnOk P w K mg base CX0 k fis_saying dis_saying ["sheet", "thing"] spIsSaying) (bis_saying : Binds K dis_saying ["sheet", "thing"] []) (gis_saying : mg "is_saying" = some (.ref fis_saying))
    (Fbent : Fun K "_law_bent" "_law_bent" sLawBent fbent dbent) (Gbent : FnOk P w K mg base CX0 k fbent dbent ["pot", "sheet", "thing"] (spBn 4)) (bbent : Binds K dbent ["pot", "sheet", "thing"] []) (gbent : mg "_law_bent" = some (.ref fbent))
    (Fsame : Fun K "_law_same" "_law_same" sSame fsame dsame) (Gsame : FnOk P w K mg base CX0 k fsame dsame ["found", "due"] spSame0) (bsame : Binds K dsame ["found", "due"] []) (gsame : mg "_law_same" = some (.ref fsame))
    (Fdue : Fun K "_law_due" "_law_due" sLawDue fdue ddue) (Gdue : FnOk P w K mg base CX0 k fdue ddue ["sheet", "thing"] spDue) (bdue : Binds K ddue ["sheet", "thing"] []) (gdue : mg "_law_due" = some (.ref fdue))
    (mrange : mg "range" = none) (mrepr : mg "repr" = none) (hk : Room (k + 1) callerA)
    {z : Shared} {H : Hp} {a : Addr} {ns : List Int} (bi : ∀ (s : Shared) (u : Value), BindsTo s fd ⟨[u], []⟩ [("script", u)]) (e0 : Env0 P w K mg base callerA [] z H) (hA : SqL K H a (ns.map V.int)) (hns : ns.length ≤ 63) :
    codeAny (model P w) callerA (.call (.ref f) ⟨[.ref a], []⟩) (CR CX0 [] P w H z (fun v _ => v = .bl true) fun _ _ _ => False) z := by
  obtain ⟨oc, od, kV, doc, pm, an, cdv, ct, osl, rfl, h1, h2⟩ := F.ex
  have hr := hk.deeper (envOfC "law" (defScope sLaw) z.heap.objs.size f cdv)
  have nd := scLaw.nd
  have body : ∃ t, PSs (cxOf CX0 P w K mg base nLaw "law" (defScope sLaw) f cdv callerA [] z H fun _ _ _ => False).nox (defBody sLaw) t ∧ t { nx := fun _ H' => (fun (v : V) (_ : Hp) => v = .bl true) .non H', rt := fun v _ => v = .bl true } (start nLaw [.ref a]) H := by
    refine ⟨_, (pss_cons (ps_set (i := 1) nd rfl (.inr rfl) (pe_call Gpot hr (by rfl) gpot Fpot.kp bpot .nil pass0 (pa_cons (pv 0) pa_nil)))
      (pss_cons (ps_set (i := 2) nd rfl (.inr rfl) (pe_call Gsheet hr (by rfl) gsheet Fsheet.kp bsheet .nil pass0 (pa_cons (pv 1) (pa_cons pe_int pa_nil))))
      (pss_cons (ps_set (i := 3) nd rfl (.inl rfl) (pe_tup (pa_cons (pe_slice sl_tupA (pe_ix ix_tup (pv 2) pe_int (fun _ _ => rfl)) po_none (po_some pe_int)) (pa_cons (pe_ix ix_tup (pv 2) pe_int (fun _ _ => rfl)) (pa_cons (pe_slice sl_tupA (pe_ix ix_tup (pv 2) pe_int (fun _ _ => rfl)) (po_some (pe_un un_neg pe_int)) po_none) pa_nil)))))
      (pss_cons (ps_set (i := 4) nd rfl (.inl rfl) (pe_op op_cat (pe_call Gat_bounds hr (by rfl) gat_bounds Fat_bounds.kp bat_bounds .nil pass0 (pa_cons (pv 1) (pa_cons (pv 2) pa_nil))) (pe_lst (pa_cons pe_non (pa_cons (pe_tup pa_nil) (pa_cons pe_str (pa_cons (pe_tup (pa_cons pe_str pa_nil)) (pa_cons pe_int (pa_cons (pe_tup (pa_cons pe_str pa_nil)) (pa_cons (pe_tup (pa_cons pe_str (pa_cons (pe_tup (pa_cons pe_str (pa_cons (pe_ix ix_tup (pe_ix ix_tup (pv 2) pe_int (fun _ _ => rfl)) pe_int (fun _ _ => rfl)) pa_nil))) pa_nil))) pa_nil))))))))))
      (pss_cons (ps_for PassesOwn.never rfl (pi_range1 (by rfl) mrange (pa_cons pe_int pa_nil)) (pg_name (i := 5) nd rfl (.inl rfl)) (pss_cons (ps_set (i := 6) nd rfl (.inr rfl) (pe_call Gsaying hr (by rfl) gsaying Fsaying.kp bsaying .nil pass0 (pa_cons (pv 1) (pa_cons (pv 2) (pa_cons pe_int pa_nil)))))
      (pss_cons (ps_if (pt_cmpR op_notBl (pe_call Gis_saying hr (by rfl) gis_saying Fis_saying.kp bis_saying .nil pass0 (pa_cons (pv 2) (pa_cons (pv 6) pa_nil))) pe_bl (nomark _)) (pss_one (ps_ret pe_bl)) pss_nil)
      (pss_one (ps_set (i := 4) nd rfl (.inl rfl) (pe_op op_cat (pe_op op_cat (pv 4) (pe_lst (pa_cons (pv 6) pa_nil))) (pe_lc (own := [("k", 10)]) (g := gName 10) (tt := tYes) (te := (tCall (spBn 4) [] E0 (tCons (tVar 1) (tCons (tVar 2) (tCons (tVar 6) tNil))))) rfl nd (pi_range1 (by rfl) mrange (pa_cons pe_int pa_nil)) (blkOk_by (own := [("k", 10)]) (N := nLaw) (sc := defScope sLaw) (by decide +kernel)) (fun _ _ _ _ _ => pg_name (i := 10) nd rfl (.inl rfl)) (fun _ _ _ _ _ => pts_nil) (fun _ _ _ _ _ => (pe_call Gbent hr (by rfl) gbent Fbent.kp bbent .nil pass0 (pa_cons (pv 1) (pa_cons (pv 2) (pa_cons (pv 6) pa_nil))))))))))))
      (pss_cons (ps_for PassesOwn.never rfl (pi_list (pv 4)) (pg_name (i := 7) nd rfl (.inl rfl)) (pss_cons (ps_set (i := 8) nd rfl (.inl rfl) (pe_callB (call_repr hr rfl) (by rfl) mrepr (by decide +kernel) (pa_cons (pv 7) pa_nil)))
      (pss_one (ps_for PassesOwn.never rfl (pi_list (pe_lst (pa_cons (pv 2) (pa_cons (pv 3) pa_nil)))) (pg_name (i := 9) nd rfl (.inl rfl)) (pss_one (ps_if (PW.pt (pw_or (pt_not (pt_val (pe_call Gsame hr (by rfl) gsame Fsame.kp bsame .nil pass0 (pa_cons (pe_call Gis_saying hr (by rfl) gis_saying Fis_saying.kp bis_saying .nil pass0 (pa_cons (pv 9) (pa_cons (pv 7) pa_nil))) (pa_cons (pe_call Gdue hr (by rfl) gdue Fdue.kp bdue .nil pass0 (pa_cons (pv 9) (pa_cons (pv 7) pa_nil))) pa_nil))))) (pw_or1 (pt_cmpR op_ne (pe_callB (call_repr hr rfl) (by rfl) mrepr (by decide +kernel) (pa_cons (pv 7) pa_nil)) (pv 8) (nomark _))))) (pss_one (ps_ret pe_bl)) pss_nil))))))
      (pss_one (ps_ret (pe_cmpR (op_eqD hr.units) (pe_lc (own := [("thing", 7)]) (g := gName 7) (tt := tYes) (te := (tCall spDue [] E0 (tCons (tVar 2) (tCons (tVar 7) tNil)))) rfl nd (pi_list (pe_slice sl_list (pv 4) po_none (po_some pe_int))) (blkOk_by (own := [("thing", 7)]) (N := nLaw) (sc := defScope sLaw) (by decide +kernel)) (fun _ _ _ _ _ => pg_name (i := 7) nd rfl (.inl rfl)) (fun _ _ _ _ _ => pts_nil) (fun _ _ _ _ _ => (pe_call Gdue hr (by rfl) gdue Fdue.kp bdue .nil pass0 (pa_cons (pv 2) (pa_cons (pv 7) pa_nil))))) (pe_lst (pa_cons pe_bl (pa_cons pe_bl (pa_cons pe_bl (pa_cons pe_bl (pa_cons pe_bl pa_nil)))))) (nomark _)))))))))), ?_⟩
    refine ⟨_, rfl, a, ns, rfl, hA, hns, fun p c ms H1 e1 hP1 np nc => ?_⟩
    refine ⟨_, rfl, p, c, ms, 3, rfl, by decide, by decide, hP1, fun os ps qs sh H2 hS hs2 kp2 hP2 => ?_⟩
    obtain ⟨o1, o2, rfl⟩ : ∃ o1 o2, os = o1 :: o2 := by
      cases os with
      | nil => exact absurd hS.o1 (by decide)
      | cons o1 o2 => exact ⟨o1, o2, rfl⟩
    obtain ⟨q1, q2, rfl⟩ : ∃ q1 q2, qs = q1 ++ [q2] := by
      rcases List.eq_nil_or_concat qs with e | ⟨q1, q2, e⟩
      · rw [e] at hS
        exact absurd hS.c1 (by decide)
      · exact ⟨q1, q2, by rw [e, List.concat_eq_append]⟩
    have lo1 : Ltr o1 := hS.lt o1 (by simp)
    obtain ⟨ao, ap, ac, s0, so, sp, sc⟩ := hs2
    have hs2 : SheetAt H2 sh (o1 :: o2) ps (q1 ++ [q2]) := ⟨ao, ap, ac, s0, so, sp, sc⟩
    refine ⟨_, rfl, sh, _, 0, .ref ao, rfl, rfl, st_of s0, atI_nat (j := 0) rfl, ?_⟩
    dsimp only [tNoPart]
    refine ⟨_, rfl, ?_⟩
    refine slA_rd so fun a1 H3 x3 ha1 => ?_
    have ha1 : H3 a1 = some (.tup ([o1].map V.str)) := by
      rw [show (1 : Int) = ((1 : Nat) : Int) from rfl, cut0] at ha1
      exact ha1
    refine ⟨_, rfl, sh, _, 1, .ref ap, rfl, rfl, st_of (x3 _ _ s0), atI_nat (j := 1) rfl, ?_⟩
    refine ⟨_, rfl, sh, _, 2, .ref ac, rfl, rfl, st_of (x3 _ _ s0), atI_nat (j := 2) rfl, _, rfl, _, rfl, ?_⟩
    dsimp only [tNoPart]
    refine slA_rd (x3 _ _ sc) fun a3 H4 x4 ha3 => ?_
    have ha3 : H4 a3 = some (.tup ([q2].map V.str)) := by
      rw [List.map_append] at ha3
      rw [show cutV (q1.map V.str ++ [q2].map V.str) (some (-1)) none = [V.str q2] from cut_last _ _] at ha3
      exact ha3
    refine ⟨(by show 3 ≤ sizeLine; decide), fun ot nt => ?_⟩
    have x5 := Ex.new (o := .tup [.ref a1, .ref ap, .ref a3]) nt
    have hot : upd H4 ot (.tup [.ref a1, .ref ap, .ref a3]) ot = some (.tup [.ref a1, .ref ap, .ref a3]) := upd_same
    generalize upd H4 ot (.tup [.ref a1, .ref ap, .ref a3]) = H5 at x5 hot ⊢
    have x25 := (x3.trans x4).trans x5
    have hP5 := hP2.ex x25
    have hs5 := hs2.ex x25
    have hS' := hS.less
    have ho5 : SheetAt H5 ot [o1] ps [q2] := ⟨a1, ap, a3, hot, (x4.trans x5) _ _ ha1, x25 _ _ sp, x5 _ _ ha3⟩
    generalize hls : (o1 :: o2) ++ ps ++ (q1 ++ [q2]) = ls
    refine ⟨_, rfl, _, rfl, p, c, sh, ms, _, _, _, rfl, hP5, hS, hs5, fun L0 us0 ds0 H6 hL0 L0p all0 fit0 say0 kp6 hP6 => ?_⟩
    rw [hls] at say0
    have hs6 := hs5.keep hP5 kp6
    have ho6 := ho5.keep hP5 kp6
    have T0 : Ths p H6 L0 us0 ds0 := ⟨hL0, L0p, all0, fit0⟩
    have l0 : us0.length = 5 := by
      rw [all0.len, ← List.length_map (f := sayD ls), say0]
      rfl
    obtain ⟨bo, bp, bc, t0, to, tp, tc⟩ := hs6
    have hs6 : SheetAt H6 sh (o1 :: o2) ps (q1 ++ [q2]) := ⟨bo, bp, bc, t0, to, tp, tc⟩
    refine ⟨by decide, fun r1 n1 => ⟨(by show 1 ≤ sizeLine; decide), fun r2 n2 => ⟨(by show 1 ≤ sizeLine; decide), fun r3 n3 => ?_⟩⟩⟩
    have z1 := Ex.new (o := .tup []) n1
    have g1 : upd H6 r1 (.tup []) r1 = some (.tup []) := upd_same
    generalize upd H6 r1 (.tup []) = J1 at z1 g1 n2 n3 ⊢
    have z2 := Ex.new (o := .tup [.str "is"]) n2
    have g2 : upd J1 r2 (.tup [.str "is"]) r2 = some (.tup [.str "is"]) := upd_same
    generalize upd J1 r2 (.tup [.str "is"]) = J2 at z2 g2 n3 ⊢
    have z3 := Ex.new (o := .tup [.str "not"]) n3
    have g3 : upd J2 r3 (.tup [.str "not"]) r3 = some (.tup [.str "not"]) := upd_same
    generalize upd J2 r3 (.tup [.str "not"]) = J3 at z3 g3 ⊢
    have z13 := (z1.trans z2).trans z3
    refine ⟨_, rfl, sh, _, 0, .ref bo, rfl, rfl, st_of (z13 _ _ t0), atI_nat (j := 0) rfl, bo, _, 0, .str o1, rfl, rfl, st_of (z13 _ _ to), atI_nat (j := 0) rfl, (by show 2 ≤ sizeLine; decide), fun r4 n4 => ⟨(by show 2 ≤ sizeLine; decide), fun r5 n5 => ⟨(by show 7 ≤ sizeLine; decide), fun L1 n6 => ?_⟩⟩⟩
    have z4 := Ex.new (o := .tup [.str "is", .str o1]) n4
    have g4 : upd J3 r4 (.tup [.str "is", .str o1]) r4 = some (.tup [.str "is", .str o1]) := upd_same
    generalize upd J3 r4 (.tup [.str "is", .str o1]) = J4 at z4 g4 n5 n6 ⊢
    have z5 := Ex.new (o := .tup [.str "both", .ref r4]) n5
    have g5 : upd J4 r5 (.tup [.str "both", .ref r4]) r5 = some (.tup [.str "both", .ref r4]) := upd_same
    generalize upd J4 r5 (.tup [.str "both", .ref r4]) = J5 at z5 g5 n6 ⊢
    have z6 := Ex.new (o := .lst [.non, .ref r1, .str "is", .ref r2, .int 0, .ref r3, .ref r5]) n6
    have z15 := (z13.trans z4).trans z5
    have T1 : ∃ es, Ths p (upd J5 L1 (.lst [.non, .ref r1, .str "is", .ref r2, .int 0, .ref r3, .ref r5])) L1 [.non, .ref r1, .str "is", .ref r2, .int 0, .ref r3, .ref r5] es := by
      have e56 := z5.trans z6
      have e46 := z4.trans e56
      refine ⟨_, upd_same, ((hP6.ex z15).ne_new n6).1.symm, .cons .non (.cons (.tup (((z2.trans z3).trans e46) _ _ g1) .nil) (.cons (.str _) (.cons (.tup ((z3.trans e46) _ _ g2) (.cons (.str _) .nil)) (.cons (.int 0) (.cons (.tup (e46 _ _ g3) (.cons (.str _) .nil)) (.cons (.tup (z6 _ _ g5) (.cons (.str _) (.cons (.tup (e56 _ _ g4) (.cons (.str _) (.cons (.str o1) .nil))) .nil))) .nil)))))), fun d hd => ?_⟩
      have gl : ∀ {k : Nat} (x : Str), ((cs x).length ≤ 40 ∧ ∀ c ∈ cs x, c < 128) → Gk k (.str x) := fun x h => gk_lit h
      have g1' : ∀ x : Str, ((cs x).length ≤ 40 ∧ ∀ c ∈ cs x, c < 128) → Fit (.tuple [.str x]) := fun x h => ⟨.tup (by show 1 ≤ 16; decide) fun d hd => by
        rw [List.mem_singleton.mp hd]
        exact gl x h, by show 1 + (1 + 0) ≤ 200; decide⟩
      simp only [List.mem_cons, List.not_mem_nil, or_false] at hd
      rcases hd with rfl | rfl | rfl | rfl | rfl | rfl | rfl
      · exact ⟨.non, by show 1 ≤ 200; decide⟩
      · exact ⟨.tup (by show 0 ≤ 16; decide) fun d hd => (by cases hd), by show 1 + 0 ≤ 200; decide⟩
      · exact ⟨gl _ (by decide +kernel), by show 1 ≤ 200; decide⟩
      · exact g1' _ (by decide +kernel)
      · exact ⟨.int (by decide), by show 1 ≤ 200; decide⟩
      · exact g1' _ (by decide +kernel)
      · refine ⟨.tup (by show 2 ≤ 16; decide) fun d hd => ?_, by show 1 + (1 + ((1 + (1 + (1 + 0))) + 0)) ≤ 200; decide⟩
        simp only [List.mem_cons, List.not_mem_nil, or_false] at hd
        rcases hd with rfl | rfl
        · exact gl _ (by decide +kernel)
        · exact is_gk lo1
    generalize hq1 : upd J5 L1 (.lst [.non, .ref r1, .str "is", .ref r2, .int 0, .ref r3, .ref r5]) = J6 at z6 T1 ⊢
    clear hq1
    obtain ⟨es1, T1⟩ := T1
    have z16 := z15.trans z6
    have hP7 := hP6.ex z16
    refine cat_ths hP7 (T0.ex z16) T1 (by rw [l0]; show 5 + 7 ≤ 1000; decide) fun L2 H8 x8 T2 => ?_
    have hP8 := hP7.ex x8
    have hs8 := (hs6.ex z16).ex x8
    have ho8 := (ho6.ex z16).ex x8
    have l5 : ds0.length = 5 := by
      rw [← all0.len]
      exact l0
    refine ⟨5, rfl, by decide, by decide, for_range (lo := 0) (n := 5) (fun i σ H' => ∃ (L : Addr) (us : List V) (es : List PyData) (y5 y6 : Option V), σ = [some (.ref a), some (.ref p), some (.ref sh), some (.ref ot), some (.ref L), y5, y6, none, none, none, none] ∧ Pot p c ms H' ∧ SheetAt H' sh (o1 :: o2) ps (q1 ++ [q2]) ∧ SheetAt H' ot [o1] ps [q2] ∧ Ths p H' L us (ds0 ++ es) ∧ us.length ≤ 12 + 6 * i) ⟨L2, _, _, none, none, rfl, hP8, hs8, ho8, T2, by rw [List.length_append, l0]; show 5 + 7 ≤ 12 + 6 * 0; decide⟩ ?_ ?_⟩
    · rintro i σ H9 hi ⟨L, us, es, y5, y6, rfl, hP9, hs9, ho9, T9, l9⟩
      refine ⟨_, rfl, _, rfl, p, c, sh, ms, 3, _, _, _, rfl, by decide, hP9, hS, hs9, fun v10 d10 H10 th10 sy10 kp10 hP10 => ?_⟩
      have hs10 := hs9.keep hP9 kp10
      have ho10 := ho9.keep hP9 kp10
      have T10 := T9.kp hP9 kp10
      obtain ⟨cc, hc1, hc2, hc3⟩ := sy10.cn
      have hc2 : cc < 16 := hc2
      have gk10 := sy10.gk hS.lt
      refine ⟨_, rfl, _, rfl, p, sh, v10, d10, _, _, _, rfl, hS.shl hs10, th10, gk10.mono (by decide), fun H11 x11 => ?_⟩
      refine ⟨_, _, rfl, rfl, _, rfl, ?_⟩
      rw [sy10.say (by decide)]
      refine iteF ?_
      have hP11 := hP10.ex x11
      have T11 := T10.ex x11
      refine ⟨_, rfl, _, rfl, (by show 1 ≤ sizeLine; decide), fun M nM => ?_⟩
      have x12 := Ex.new (o := .lst [v10]) nM
      have TM : Ths p (upd H11 M (.lst [v10])) M [v10] [d10] := ⟨upd_same, (hP11.ne_new nM).1.symm, .cons (th10.et (ET.of (x11.trans x12))) .nil, fun d hd => by
        rw [List.mem_singleton.mp hd]
        exact ⟨gk10.mono (by decide), by omega⟩⟩
      generalize upd H11 M (.lst [v10]) = H12 at x12 TM ⊢
      have hP12 := hP11.ex x12
      refine cat_ths hP12 (T11.ex x12) TM (by show _ + 1 ≤ 1000; omega) fun M2 H13 x13 T13 => ?_
      have x1013 := (x11.trans x12).trans x13
      have hP13 := hP12.ex x13
      have hs13 := hs10.ex x1013
      have ho13 := ho10.ex x1013
      have th13 := th10.et (ET.of x1013)
      refine ⟨5, rfl, by decide, by decide, fun D nD => ?_⟩
      have Dp := (hP13.ne_new nD).1.symm
      refine lc_range (lo := 0) (n := 5) (fun j H' => ∃ (acc : List V) (da : List PyData), Keep p H13 H' ∧ Pot p c ms H' ∧ H' D = some (.lst acc) ∧ acc.length = j ∧ ThAll p H' acc da ∧ ThAll D H' acc da ∧ ∀ d ∈ da, Fit d) ⟨[], [], Keep.ofEx (Ex.new nD), hP13.ex (Ex.new nD), upd_same, rfl, .nil, .nil, fun d hd => (by cases hd)⟩ ?_ ?_
      · rintro j H14 hj ⟨acc, da, kp14, hP14, hD14, la, ap14, aD14, fa⟩
        refine ⟨rfl, ?_⟩
        have pO : H14 p ≠ none := by
          obtain ⟨_, _, _, h1, _⟩ := hP14
          rw [h1]
          exact fun z => by cases z
        have dO : H14 D ≠ none := by
          rw [hD14]
          exact fun z => by cases z
        refine ⟨_, rfl, _, rfl, _, rfl, p, c, sh, ms, v10, d10, _, _, _, rfl, hP14, hS, hs13.keep hP13 kp14, th13.kp kp14 hP13.not, sy10, fun v15 d15 H15 th15 g15 w15 kp15 hP15 => ?_⟩
        have hD15 := kp15 _ _ Dp hD14
        refine ⟨acc, hD15, by rw [la, sizeLine_eq]; omega, acc ++ [v15], da ++ [d15], ?_, ?_, upd_same, by rw [List.length_append, la]; rfl, ?_, ?_, ?_⟩
        · intro b o nb e
          rw [upd_ne (ne_of_none e nD)]
          exact kp15 _ _ nb (kp14 _ _ nb e)
        · exact hP15.new Dp.symm (hP13.ne_new nD).2
        · have noD : ∀ xs, H15 D ≠ some (.tup xs) := fun xs z => by
            rw [hD15] at z
            cases z
          have kD : Keep D H15 (upd H15 D (.lst (acc ++ [v15]))) := Keep.at (Keep.refl D H15)
          have aD15 := ap14.kp2 kp15 hP14.not aD14
          have aP15 := ap14.kp kp15 hP14.not
          exact (aD15.kp2 kD noD aP15).app (.cons ((th15 D dO).kp2 kD noD (th15 p pO)) .nil)
        · have noD : ∀ xs, H15 D ≠ some (.tup xs) := fun xs z => by
            rw [hD15] at z
            cases z
          have kD : Keep D H15 (upd H15 D (.lst (acc ++ [v15]))) := Keep.at (Keep.refl D H15)
          have aD15 := ap14.kp2 kp15 hP14.not aD14
          exact (aD15.kp kD noD).app (.cons ((th15 D dO).kp kD noD) .nil)
        · intro d hd
          rcases List.mem_append.mp hd with z | z
          · exact fa d z
          · rw [List.mem_singleton.mp z]
            exact ⟨g15.mono (by decide), by omega⟩
      · rintro H14 ⟨acc, da, kp14, hP14, hD14, la, ap14, aD14, fa⟩
        have TD : Ths p H14 D acc da := ⟨hD14, Dp, ap14, fa⟩
        have T14 := T13.kp hP13 kp14
        refine cat_ths hP14 T14 TD (by rw [List.length_append, la]; show _ + 1 + 5 ≤ 1000; omega) fun M3 H16 x16 T16 => ?_
        refine ⟨M3, us ++ [v10] ++ acc, (es ++ [d10]) ++ da, _, _, rfl, hP14.ex x16, (hs13.keep hP13 kp14).ex x16, (ho13.keep hP13 kp14).ex x16, ?_, ?_⟩
        · rw [List.append_assoc ds0, List.append_assoc ds0] at T16
          exact T16
        · rw [List.length_append, List.length_append, la]
          show _ + 1 + 5 ≤ _
          omega
    · rintro σ H9 ⟨L, us, es, y5, y6, rfl, hP9, hs9, ho9, T9, l9⟩
      have lus := T9.all.len
      refine ⟨_, rfl, L, rfl, ⟨_, sq_of T9.at_⟩, for_list (K := K) (a := L) (xs := us) (fun j σ H' => (∃ y7 y8 y9, σ = [some (.ref a), some (.ref p), some (.ref sh), some (.ref ot), some (.ref L), y5, y6, y7, y8, y9, none]) ∧ Ex H9 H') ⟨⟨_, _, _, rfl⟩, Ex.refl H9⟩ (fun j σ H' _ hh => sq_of (hh.2 _ _ T9.at_)) ?_ ?_⟩
      · rintro j x σ H10 hx ⟨⟨y7, y8, y9, rfl⟩, x10⟩
        obtain ⟨d, hd, hTd⟩ := T9.all.get hx
        have fd := T9.fit d (List.mem_of_getElem? hd)
        refine repr_gk (hTd.et (ET.of x10)) fd.1 (by decide) (Nat.le_trans fd.2 (by decide)) rfl ?_
        refine ⟨_, rfl, _, rfl, (by show 2 ≤ sizeLine; decide), fun M nM => ?_⟩
        have x11 := Ex.new (o := .lst [.ref sh, .ref ot]) nM
        have hM : upd H10 M (.lst [.ref sh, .ref ot]) M = some (.lst [.ref sh, .ref ot]) := upd_same
        generalize upd H10 M (.lst [.ref sh, .ref ot]) = H11 at x11 hM ⊢
        have x911 := x10.trans x11
        refine ⟨M, rfl, ⟨_, sq_of hM⟩, for_list (K := K) (a := M) (xs := [.ref sh, .ref ot]) (fun i σ H' => (∃ y9, σ = [some (.ref a), some (.ref p), some (.ref sh), some (.ref ot), some (.ref L), y5, y6, some x, some (.str d.shown), y9, none]) ∧ Ex H11 H') ⟨⟨_, rfl⟩, Ex.refl H11⟩ (fun i σ H' _ hh => sq_of (hh.2 _ _ hM)) ?_ ?_⟩
        · rintro i v σ H12 hv ⟨⟨y9, rfl⟩, x12⟩
          have x912 := x911.trans x12
          have hsh : ∃ (s : Addr) (os ps qs : List Str), v = .ref s ∧ Sht os ps qs ∧ SheetAt H12 s os ps qs := by
            match i, hv with
            | 0, hv =>
              cases hv
              exact ⟨sh, _, _, _, rfl, hS, hs9.ex x912⟩
            | 1, hv =>
              cases hv
              exact ⟨ot, _, _, _, rfl, hS', ho9.ex x912⟩
          obtain ⟨s, os, ps, qs, rfl, hSv, hsv⟩ := hsh
          refine ⟨_, rfl, _, rfl, p, s, x, d, os, ps, qs, rfl, hSv.shl hsv, hTd.et (ET.of x912), fd.gk, fun H13 x13 => ?_⟩
          refine ⟨_, rfl, _, rfl, p, s, x, d, os, ps, qs, rfl, hSv, hsv.ex x13, hTd.et (ET.of (x912.trans x13)), fd.gk, Nat.le_trans fd.2 (by decide), fun H14 x14 => ?_⟩
          refine ⟨_, rfl, rfl, _, rfl, iteF ?_⟩
          have x914 := (x912.trans x13).trans x14
          refine repr_gk (hTd.et (ET.of x914)) fd.1 (by decide) (Nat.le_trans fd.2 (by decide)) rfl ⟨_, rfl, rfl, _, rfl, ?_⟩
          rw [decide_eq_true rfl]
          exact iteF ⟨⟨_, rfl⟩, (x12.trans x13).trans x14⟩
        · rintro σ H12 ⟨⟨y9, rfl⟩, x12⟩
          exact ⟨⟨_, _, _, rfl⟩, x911.trans x12⟩
      · rintro σ H10 ⟨⟨y7, y8, y9, rfl⟩, x10⟩
        have T10 := T9.ex x10
        refine ⟨_, rfl, ?_⟩
        dsimp only [tNoPart]
        refine ⟨_, rfl, L, us, rfl, sq_of T10.at_, fun M nM => ?_⟩
        have x11 := Ex.new (o := .lst (cutV us none (some 5))) nM
        have hM : upd H10 M (.lst (cutV us none (some 5))) M = some (.lst (us.take 5)) := by
          rw [upd_same, show (5 : Int) = ((5 : Nat) : Int) from rfl, cut0]
        generalize upd H10 M (.lst (cutV us none (some 5))) = H11 at x11 hM ⊢
        have hsl : (ds0 ++ es).take 5 = ds0 := by
          rw [List.take_append_of_le_length (by omega), List.take_of_length_le (by omega)]
        have al : ThAll p H11 (us.take 5) ds0 := by
          have := (T10.all.et (ET.of x11)).take 5
          rw [hsl] at this
          exact this
        have lal := al.len
        refine ⟨M, rfl, ⟨_, sq_of hM⟩, fun D nD => ?_⟩
        have x911 := x10.trans x11
        refine lc_list (K := K) (a := M) (xs := us.take 5) (fun j H' => Ex H11 H' ∧ H' D = some (.lst (((ds0.take j).map (sayD ls)).map V.bl))) ⟨Ex.new nD, upd_same⟩ (fun j H' _ hh => sq_of (hh.1 _ _ hM)) ?_ ?_
        · rintro j x H12 hx ⟨x12, hD⟩
          obtain ⟨d, hd, hTd⟩ := al.get hx
          have fd := fit0 d (List.mem_of_getElem? hd)
          have hj := (List.getElem?_eq_some_iff.mp hd).1
          refine ⟨rfl, ?_⟩
          refine ⟨_, rfl, _, rfl, p, sh, x, d, _, _, _, rfl, hS, (hs9.ex x911).ex x12, hTd.et (ET.of x12), fd.gk, Nat.le_trans fd.2 (by decide), fun H13 x13 => ⟨_, x13 _ _ hD, ?_, ?_, ?_⟩⟩
          · rw [List.length_map, List.length_map, List.length_take, sizeLine_eq]
            omega
          · intro b o e
            rw [upd_ne (ne_of_none e nD)]
            exact x13 _ _ (x12 _ _ e)
          · rw [upd_same, List.take_add_one, hd, List.map_append, List.map_append, hls]
            rfl
        · rintro H12 ⟨x12, hD⟩
          rw [lal, List.take_length, say0] at hD
          refine ⟨(by show 5 ≤ sizeLine; decide), fun E nE => ?_⟩
          have x13 := Ex.new (o := .lst [.bl true, .bl false, .bl true, .bl true, .bl false]) nE
          refine ⟨.list ([true, false, true, true, false].map PyData.bool), .list ([true, false, true, true, false].map PyData.bool), .lst (sq_of (x13 _ _ hD)) (dp_bls _), .lst (sq_of upd_same) (dp_bls [true, false, true, true, false]), by decide +kernel, by decide +kernel, ?_⟩
          show V.bl _ = V.bl true
          rw [show PyData.eqv (.list ([true, false, true, true, false].map PyData.bool)) (.list ([true, false, true, true, false].map PyData.bool)) = true from rfl]
  obtain ⟨t, ht, hq⟩ := body
  exact EndG.enter (us := [.ref a]) (vs := [.ref a]) h1 h2 scLaw hk e0 (bi z (.ref a)) (.cons rfl .nil) rfl ht.nox hq
end
end Eh
set_option Elab.async false
set_option linter.all false
set_option maxRecDepth 100000
set_option maxHeartbeats 4000000
namespace Eh
open PySem PySem.Spec PyProof.Rows L2 Evl GxR Gx
def ent (P : Params) (x : Str) (i : Int) (a b : Tok) : DictEntry := ⟨PyData.keyHash P x, .str x a, .int i b⟩
theorem find_ent {P : Params} {x z : Str} {i : Int} {a b : Tok} {r : List DictEntry} : (ent P x i a b :: r).find? (·.key.isStr z) = if x = z then some (ent P x i a b) else r.find? (·.key.isStr z) := by
  rw [List.find?_cons]
  show (match (x == z) with | true => _ | false => _) = _
  by_cases h : x = z
  · rw [if_pos h, beq_iff_eq.mpr h]
  · rw [if_neg h, beq_eq_false_iff_ne.mpr h]
def nsF : Option DictEntry → Bool → Option (Option Value)
  | some e, _ => some (some e.val)
  | none, b => if b = true then none else some none
def nsL (l : List DictEntry) (z : Str) : Option (Option Value) := nsF (l.find? (·.key.isStr z)) (l.any (·.refKey))
theorem nsIn_dict {K : PySem.W.Frag} {a : Addr} {c : Value} {o : Option Addr} {es : Array DictEntry} {n : Nat} {s : Array (Option Value)} {z : Str} (h : K.lookup a = some ⟨c, o, .dict es n, s⟩) : PySem.W.nsIn K a z = nsL es.toList z := by
  unfold PySem.W.nsIn nsL
  rw [h]
  dsimp only
  cases es.toList.find? (·.key.isStr z) <;> rfl
theorem parts_at {K : PySem.W.Frag} {w : World} {dP : Addr} {n : Nat} {a0 a1 a2 a3 a4 a5 a6 b0 b1 b2 b3 b4 b5 b6 : Tok}
    (lP : K.lookup dP = some ⟨.type "dict", none, .dict #[ent w.params "not" 1 a0 b0, ent w.params "both" 2 a1 b1, ent w.params "ahead" 1 a2 b2, ent w.params "beside" 1 a3 b3, ent w.params "around" 1 a4 b4, ent w.params "since" 2 a5 b5, ent w.params "level" 2 a6 b6] n, #[]⟩) (low : (dP == sysModules) = false) :
    PartsAt K w dP #[ent w.params "not" 1 a0 b0, ent w.params "both" 2 a1 b1, ent w.params "ahead" 1 a2 b2, ent w.params "beside" 1 a3 b3, ent w.params "around" 1 a4 b4, ent w.params "since" 2 a5 b5, ent w.params "level" 2 a6 b6] n := by
  have E : ∀ (x : Str) (i : Int) (a b : Tok), ∃ y t, (ent w.params x i a b).key = .str y t ∧ (ent w.params x i a b).hash = PyData.keyHash w.params y := fun x i a b => ⟨x, a, rfl, rfl⟩
  refine ⟨⟨lP, ⟨E _ _ _ _, E _ _ _ _, E _ _ _ _, E _ _ _ _, E _ _ _ _, E _ _ _ _, E _ _ _ _, trivial⟩, low⟩, fun z => ?_⟩
  have ns : PySem.W.nsIn K dP z = nsL ([ent w.params "not" 1 a0 b0, ent w.params "both" 2 a1 b1, ent w.params "ahead" 1 a2 b2, ent w.params "beside" 1 a3 b3, ent w.params "around" 1 a4 b4, ent w.params "since" 2 a5 b5, ent w.params "level" 2 a6 b6] : List DictEntry) z := by
    exact nsIn_dict lP
  rw [ns]
  unfold nsL
  rw [find_ent, find_ent, find_ent, find_ent, find_ent, find_ent, find_ent]
  unfold hdN
  by_cases h0 : z = ("not" : Str)
  · subst h0
    exact .inr ⟨1, b0, by rw [if_pos rfl], by rw [if_pos rfl]; rfl⟩
  rw [if_neg h0, if_neg (show ¬ ("not" : Str) = z from fun e => h0 e.symm)]
  by_cases h1 : z = ("both" : Str)
  · subst h1
    exact .inr ⟨2, b1, by rw [if_pos rfl], by rw [if_pos rfl]; rfl⟩
  rw [if_neg h1, if_neg (show ¬ ("both" : Str) = z from fun e => h1 e.symm)]
  by_cases h2 : z = ("ahead" : Str)
  · subst h2
    exact .inr ⟨1, b2, by rw [if_pos rfl], by rw [if_pos rfl]; rfl⟩
  rw [if_neg h2, if_neg (show ¬ ("ahead" : Str) = z from fun e => h2 e.symm)]
  by_cases h3 : z = ("beside" : Str)
  · subst h3
    exact .inr ⟨1, b3, by rw [if_pos rfl], by rw [if_pos rfl]; rfl⟩
  rw [if_neg h3, if_neg (show ¬ ("beside" : Str) = z from fun e => h3 e.symm)]
  by_cases h4 : z = ("around" : Str)
  · subst h4
    exact .inr ⟨1, b4, by rw [if_pos rfl], by rw [if_pos rfl]; rfl⟩
  rw [if_neg h4, if_neg (show ¬ ("around" : Str) = z from fun e => h4 e.symm)]
  by_cases h5 : z = ("since" : Str)
  · subst h5
    exact .inr ⟨2, b5, by rw [if_pos rfl], by rw [if_pos rfl]; rfl⟩
  rw [if_neg h5, if_neg (show ¬ ("since" : Str) = z from fun e => h5 e.symm)]
  by_cases h6 : z = ("level" : Str)
  · subst h6
    exact .inr ⟨2, b6, by rw [if_pos rfl], by rw [if_pos rfl]; rfl⟩
  rw [if_neg h6, if_neg (show ¬ ("level" : Str) = z from fun e => h6 e.symm)]
  exact .inl ⟨rfl, rfl⟩
end Eh
set_option Elab.async false
set_option linter.all false
set_option maxRecDepth 100000
set_option maxHeartbeats 4000000
namespace Eh
open PySem PySem.Spec PyProof.Rows L2 Evl GxR Gx
theorem all_mk {l : PySem.W.OpenLaw} {w : World} {K : PySem.W.Frag} {h : Heap} {mg : Str → Option Value} {fa f0 f1 f2 f3 f4 f5 f6 f7 f8 f9 f10 f11 f12 f13 f14 : Addr} (X : K.In h) (G : h.Ns mainGlobals mg) (hfa : mg "law" = some (.ref fa)) (own : EndG.Tabs [] K mg h)
    {od0 an0 : Option Addr} {sl0 : Array (Option Value)} {oc0 kV0 dc0 pm0 ct0 : Value} {cd0 : Value}
    {od1 an1 : Option Addr} {sl1 : Array (Option Value)} {oc1 kV1 dc1 pm1 ct1 : Value} {cd1 : Value}
    {od2 an2 : Option Addr} {sl2 : Array (Option Value)} {oc2 kV2 dc2 pm2 ct2 : Value} {cd2 : Value}
    {od3 an3 : Option Addr} {sl3 : Array (Option Value)} {oc3 kV3 dc3 pm3 ct3 : Value} {cd3 : Value}
    {od4 an4 : Option Addr} {sl4 : Array (Option Value)} {oc4 kV4 dc4 pm4 ct4 : Value} {cd4 : Value}
    {od5 an5 : Option Addr} {sl5 : Array (Option Value)} {oc5 kV5 dc5 pm5 ct5 : Value} {cd5 : Value}
    {od6 an6 : Option Addr} {sl6 : Array (Option Value)} {oc6 kV6 dc6 pm6 ct6 : Value} {cd6 : Value}
    {od7 an7 : Option Addr} {sl7 : Array (Option Value)} {oc7 kV7 dc7 pm7 ct7 : Value} {cd7 : Value}
    {od8 an8 : Option Addr} {sl8 : Array (Option Value)} {oc8 kV8 dc8 pm8 ct8 : Value} {cd8 : Value}
    {od9 an9 : Option Addr} {sl9 : Array (Option Value)} {oc9 kV9 dc9 pm9 ct9 : Value} {cd9 : Value}
    {od10 an10 : Option Addr} {sl10 : Array (Option Value)} {oc10 kV10 dc10 pm10 ct10 : Value} {cd10 : Value}
    {od11 an11 : Option Addr} {sl11 : Array (Option Value)} {oc11 kV11 dc11 pm11 ct11 : Value} {cd11 : Value}
    {od12 an12 : Option Addr} {sl12 : Array (Option Value)} {oc12 kV12 dc12 pm12 ct12 : Value} {cd12 : Value}
    {od13 an13 : Option Addr} {sl13 : Array (Option Value)} {oc13 kV13 dc13 pm13 ct13 : Value} {cd13 : Value}
    {od14 an14 : Option Addr} {sl14 : Array (Option Value)} {oc14 kV14 dc14 pm14 ct14 : Value} {cd14 : Value}
    {t1 t2 p0 p1 p2 p3 p4 p5 p6 q0 q1 q2 q3 q4 q5 q6 : Tok} {dP : Addr} {nP : Nat}
    (a0 : PySem.W.nsIn K mainGlobals "is_form" = some (some (.ref f0)))
    (l0 : K.lookup f0 = some ⟨oc0, od0, .func (PySem.W.fnOf "is_form" "is_form" (defArgs sIsForm) (defBody sIsForm) (defScope sIsForm) .none kV0 dc0 pm0 an0 cd0 ct0), sl0⟩)
    (c0 : PySem.W.codeIn K cd0 "is_form" = true)
    (k0 : PySem.W.keepIn K (.ref f0) = true)
    (a1 : PySem.W.nsIn K mainGlobals "is_saying" = some (some (.ref f1)))
    (l1 : K.lookup f1 = some ⟨oc1, od1, .func (PySem.W.fnOf "is_saying" "is_saying" (defArgs sIsSaying) (defBody sIsSaying) (defScope sIsSaying) .none kV1 dc1 pm1 an1 cd1 ct1), sl1⟩)
    (c1 : PySem.W.codeIn K cd1 "is_saying" = true)
    (k1 : PySem.W.keepIn K (.ref f1) = true)
    (a2 : PySem.W.nsIn K mainGlobals "_law_blend" = some (some (.ref f2)))
    (l2 : K.lookup f2 = some ⟨oc2, od2, .func (PySem.W.fnOf "_law_blend" "_law_blend" (defArgs sBlend) (defBody sBlend) (defScope sBlend) .none kV2 dc2 pm2 an2 cd2 ct2), sl2⟩)
    (c2 : PySem.W.codeIn K cd2 "_law_blend" = true)
    (k2 : PySem.W.keepIn K (.ref f2) = true)
    (a3 : PySem.W.nsIn K mainGlobals "_law_pot" = some (some (.ref f3)))
    (l3 : K.lookup f3 = some ⟨oc3, od3, .func (PySem.W.fnOf "_law_pot" "_law_pot" (defArgs sPot) (defBody sPot) (defScope sPot) .none kV3 dc3 pm3 an3 cd3 ct3), sl3⟩)
    (c3 : PySem.W.codeIn K cd3 "_law_pot" = true)
    (k3 : PySem.W.keepIn K (.ref f3) = true)
    (a4 : PySem.W.nsIn K mainGlobals "_law_pick" = some (some (.ref f4)))
    (l4 : K.lookup f4 = some ⟨oc4, od4, .func (PySem.W.fnOf "_law_pick" "_law_pick" (defArgs sPick) (defBody sPick) (defScope sPick) .none kV4 dc4 pm4 an4 cd4 ct4), sl4⟩)
    (c4 : PySem.W.codeIn K cd4 "_law_pick" = true)
    (k4 : PySem.W.keepIn K (.ref f4) = true)
    (a5 : PySem.W.nsIn K mainGlobals "_law_letters" = some (some (.ref f5)))
    (l5 : K.lookup f5 = some ⟨oc5, od5, .func (PySem.W.fnOf "_law_letters" "_law_letters" (defArgs sLetters) (defBody sLetters) (defScope sLetters) .none kV5 dc5 pm5 an5 cd5 ct5), sl5⟩)
    (c5 : PySem.W.codeIn K cd5 "_law_letters" = true)
    (k5 : PySem.W.keepIn K (.ref f5) = true)
    (a6 : PySem.W.nsIn K mainGlobals "_law_sheet" = some (some (.ref f6)))
    (l6 : K.lookup f6 = some ⟨oc6, od6, .func (PySem.W.fnOf "_law_sheet" "_law_sheet" (defArgs sSheet) (defBody sSheet) (defScope sSheet) .none kV6 dc6 pm6 an6 cd6 ct6), sl6⟩)
    (c6 : PySem.W.codeIn K cd6 "_law_sheet" = true)
    (k6 : PySem.W.keepIn K (.ref f6) = true)
    (a7 : PySem.W.nsIn K mainGlobals "_law_order" = some (some (.ref f7)))
    (l7 : K.lookup f7 = some ⟨oc7, od7, .func (PySem.W.fnOf "_law_order" "_law_order" (defArgs sOrder) (defBody sOrder) (defScope sOrder) .none kV7 dc7 pm7 an7 cd7 ct7), sl7⟩)
    (c7 : PySem.W.codeIn K cd7 "_law_order" = true)
    (k7 : PySem.W.keepIn K (.ref f7) = true)
    (a8 : PySem.W.nsIn K mainGlobals "_law_same" = some (some (.ref f8)))
    (l8 : K.lookup f8 = some ⟨oc8, od8, .func (PySem.W.fnOf "_law_same" "_law_same" (defArgs sSame) (defBody sSame) (defScope sSame) .none kV8 dc8 pm8 an8 cd8 ct8), sl8⟩)
    (c8 : PySem.W.codeIn K cd8 "_law_same" = true)
    (k8 : PySem.W.keepIn K (.ref f8) = true)
    (a9 : PySem.W.nsIn K mainGlobals "_law_saying" = some (some (.ref f9)))
    (l9 : K.lookup f9 = some ⟨oc9, od9, .func (PySem.W.fnOf "_law_saying" "_law_saying" (defArgs sLawSaying) (defBody sLawSaying) (defScope sLawSaying) .none kV9 dc9 pm9 an9 cd9 ct9), sl9⟩)
    (c9 : PySem.W.codeIn K cd9 "_law_saying" = true)
    (k9 : PySem.W.keepIn K (.ref f9) = true)
    (a10 : PySem.W.nsIn K mainGlobals "_law_head_right" = some (some (.ref f10)))
    (l10 : K.lookup f10 = some ⟨oc10, od10, .func (PySem.W.fnOf "_law_head_right" "_law_head_right" (defArgs sLawHeadRight) (defBody sLawHeadRight) (defScope sLawHeadRight) .none kV10 dc10 pm10 an10 cd10 ct10), sl10⟩)
    (c10 : PySem.W.codeIn K cd10 "_law_head_right" = true)
    (k10 : PySem.W.keepIn K (.ref f10) = true)
    (a11 : PySem.W.nsIn K mainGlobals "_law_due" = some (some (.ref f11)))
    (l11 : K.lookup f11 = some ⟨oc11, od11, .func (PySem.W.fnOf "_law_due" "_law_due" (defArgs sLawDue) (defBody sLawDue) (defScope sLawDue) .none kV11 dc11 pm11 an11 cd11 ct11), sl11⟩)
    (c11 : PySem.W.codeIn K cd11 "_law_due" = true)
    (k11 : PySem.W.keepIn K (.ref f11) = true)
    (a12 : PySem.W.nsIn K mainGlobals "_law_bent" = some (some (.ref f12)))
    (l12 : K.lookup f12 = some ⟨oc12, od12, .func (PySem.W.fnOf "_law_bent" "_law_bent" (defArgs sLawBent) (defBody sLawBent) (defScope sLawBent) .none kV12 dc12 pm12 an12 cd12 ct12), sl12⟩)
    (c12 : PySem.W.codeIn K cd12 "_law_bent" = true)
    (k12 : PySem.W.keepIn K (.ref f12) = true)
    (a13 : PySem.W.nsIn K mainGlobals "_law_at_bounds" = some (some (.ref f13)))
    (l13 : K.lookup f13 = some ⟨oc13, od13, .func (PySem.W.fnOf "_law_at_bounds" "_law_at_bounds" (defArgs sLawAtBounds) (defBody sLawAtBounds) (defScope sLawAtBounds) .none kV13 dc13 pm13 an13 cd13 ct13), sl13⟩)
    (c13 : PySem.W.codeIn K cd13 "_law_at_bounds" = true)
    (k13 : PySem.W.keepIn K (.ref f13) = true)
    (a14 : PySem.W.nsIn K mainGlobals "law" = some (some (.ref f14)))
    (l14 : K.lookup f14 = some ⟨oc14, od14, .func (PySem.W.fnOf "law" "law" (defArgs sLaw) (defBody sLaw) (defScope sLaw) .none kV14 dc14 pm14 an14 cd14 ct14), sl14⟩)
    (c14 : PySem.W.codeIn K cd14 "law" = true)
    (k14 : PySem.W.keepIn K (.ref f14) = true)
    (z0 : PySem.W.nsIn K mainGlobals "isinstance" = some none)
    (z1 : PySem.W.nsIn K mainGlobals "str" = some none)
    (z2 : PySem.W.nsIn K mainGlobals "len" = some none)
    (z3 : PySem.W.nsIn K mainGlobals "all" = some none)
    (z4 : PySem.W.nsIn K mainGlobals "tuple" = some none)
    (z5 : PySem.W.nsIn K mainGlobals "list" = some none)
    (z6 : PySem.W.nsIn K mainGlobals "enumerate" = some none)
    (z7 : PySem.W.nsIn K mainGlobals "range" = some none)
    (z8 : PySem.W.nsIn K mainGlobals "min" = some none)
    (z9 : PySem.W.nsIn K mainGlobals "bool" = some none)
    (z10 : PySem.W.nsIn K mainGlobals "repr" = some none)
    (z11 : PySem.W.nsIn K mainGlobals "int" = some none)
    (z12 : PySem.W.nsIn K mainGlobals "zip" = some none)
    (gI : PySem.W.nsIn K mainGlobals "MOST_IN_ALL" = some (some (.int 15 t1)))
    (gW : PySem.W.nsIn K mainGlobals "MOST_WITHIN" = some (some (.int 8 t2)))
    (gP : PySem.W.nsIn K mainGlobals "PARTS" = some (some (.ref dP)))
    (lP : K.lookup dP = some ⟨.type "dict", none, .dict #[ent w.params "not" 1 p0 q0, ent w.params "both" 2 p1 q1, ent w.params "ahead" 1 p2 q2, ent w.params "beside" 1 p3 q3, ent w.params "around" 1 p4 q4, ent w.params "since" 2 p5 q5, ent w.params "level" 2 p6 q6] nP, #[]⟩)
    (wP : (dP == sysModules) = false)
    : EndG.LawAtG l w K CX0 63 mg fa h := by
  have e := hfa.symm.trans (PySem.W.mg_of X G a14)
  cases e
  have F0 := fun_mk (st := sIsForm) l0 c0 k0
  have g0 := PySem.W.mg_of X G a0
  have b0 := F0.binds (ps := ["sheet", "thing"]) fun _ _ _ _ _ _ us hl => match us, hl with | [_, _], _ => rfl
  have F1 := fun_mk (st := sIsSaying) l1 c1 k1
  have g1 := PySem.W.mg_of X G a1
  have b1 := F1.binds (ps := ["sheet", "thing"]) fun _ _ _ _ _ _ us hl => match us, hl with | [_, _], _ => rfl
  have F2 := fun_mk (st := sBlend) l2 c2 k2
  have g2 := PySem.W.mg_of X G a2
  have b2 := F2.binds (ps := ["cell", "at"]) fun _ _ _ _ _ _ us hl => match us, hl with | [_, _], _ => rfl
  have F3 := fun_mk (st := sPot) l3 c3 k3
  have g3 := PySem.W.mg_of X G a3
  have b3 := F3.binds (ps := ["script"]) fun _ _ _ _ _ _ us hl => match us, hl with | [_], _ => rfl
  have F4 := fun_mk (st := sPick) l4 c4 k4
  have g4 := PySem.W.mg_of X G a4
  have b4 := F4.binds (ps := ["pot", "many"]) fun _ _ _ _ _ _ us hl => match us, hl with | [_, _], _ => rfl
  have F5 := fun_mk (st := sLetters) l5 c5 k5
  have g5 := PySem.W.mg_of X G a5
  have b5 := F5.binds (ps := ["pot", "many"]) fun _ _ _ _ _ _ us hl => match us, hl with | [_, _], _ => rfl
  have F6 := fun_mk (st := sSheet) l6 c6 k6
  have g6 := PySem.W.mg_of X G a6
  have b6 := F6.binds (ps := ["pot", "most"]) fun _ _ _ _ _ _ us hl => match us, hl with | [_, _], _ => rfl
  have F7 := fun_mk (st := sOrder) l7 c7 k7
  have g7 := PySem.W.mg_of X G a7
  have b7 := F7.binds (ps := ["sheet"]) fun _ _ _ _ _ _ us hl => match us, hl with | [_], _ => rfl
  have F8 := fun_mk (st := sSame) l8 c8 k8
  have g8 := PySem.W.mg_of X G a8
  have b8 := F8.binds (ps := ["found", "due"]) fun _ _ _ _ _ _ us hl => match us, hl with | [_, _], _ => rfl
  have F9 := fun_mk (st := sLawSaying) l9 c9 k9
  have g9 := PySem.W.mg_of X G a9
  have b9 := F9.binds (ps := ["pot", "sheet", "deep"]) fun _ _ _ _ _ _ us hl => match us, hl with | [_, _, _], _ => rfl
  have F10 := fun_mk (st := sLawHeadRight) l10 c10 k10
  have g10 := PySem.W.mg_of X G a10
  have b10 := F10.binds (ps := ["sheet", "thing"]) fun _ _ _ _ _ _ us hl => match us, hl with | [_, _], _ => rfl
  have F11 := fun_mk (st := sLawDue) l11 c11 k11
  have g11 := PySem.W.mg_of X G a11
  have b11 := F11.binds (ps := ["sheet", "thing"]) fun _ _ _ _ _ _ us hl => match us, hl with | [_, _], _ => rfl
  have F12 := fun_mk (st := sLawBent) l12 c12 k12
  have g12 := PySem.W.mg_of X G a12
  have b12 := F12.binds (ps := ["pot", "sheet", "thing"]) fun _ _ _ _ _ _ us hl => match us, hl with | [_, _, _], _ => rfl
  have F13 := fun_mk (st := sLawAtBounds) l13 c13 k13
  have g13 := PySem.W.mg_of X G a13
  have b13 := F13.binds (ps := ["pot", "sheet"]) fun _ _ _ _ _ _ us hl => match us, hl with | [_, _], _ => rfl
  have F14 := fun_mk (st := sLaw) l14 c14 k14
  have g14 := PySem.W.mg_of X G a14
  have b14 := F14.binds (ps := ["script"]) fun _ _ _ _ _ _ us hl => match us, hl with | [_], _ => rfl
  have misinstance := PySem.W.mg_none_of X G z0
  have mstr := PySem.W.mg_none_of X G z1
  have mlen := PySem.W.mg_none_of X G z2
  have mall := PySem.W.mg_none_of X G z3
  have mtuple := PySem.W.mg_none_of X G z4
  have mlist := PySem.W.mg_none_of X G z5
  have menumerate := PySem.W.mg_none_of X G z6
  have mrange := PySem.W.mg_none_of X G z7
  have mmin := PySem.W.mg_none_of X G z8
  have mbool := PySem.W.mg_none_of X G z9
  have mrepr := PySem.W.mg_none_of X G z10
  have mint := PySem.W.mg_none_of X G z11
  have mzip := PySem.W.mg_none_of X G z12
  have mI := PySem.W.mg_of X G gI
  have mW := PySem.W.mg_of X G gW
  have mP := PySem.W.mg_of X G gP
  have PA := parts_at lP wP
  refine ⟨[], fun p hp => (by cases hp), fun p hp => (by cases hp), fun p hp => (by cases hp), ?_⟩
  intro base H z a ns kb nb TB hH hS hlen hbits e0
  have SK : SameK mg := ⟨misinstance, mbool, mstr, mint, mtuple, mlist, mlen, mall, mzip⟩
  have PK : ∀ k, FnOk l.prog w K mg base CX0 (k + 2) _ _ _ spPick := fun k => ok_pick (k := k) F4 F2 b2 g2 mlen
  have OR : ∀ k, FnOk l.prog w K mg base CX0 (k + 1) _ _ _ spOrder := fun k => ok_order (k := k) F7 mlist
  have GF : FnOk l.prog w K mg base CX0 10 _ _ _ spForm := ok_isForm (k := 9) F0 PA mP misinstance mtuple mstr mlen
  have GY : FnOk l.prog w K mg base CX0 11 _ _ _ spIsSaying := ok_isSaying (k := 10) F1 F0 GF b0 g0 mI mW
  have GH : FnOk l.prog w K mg base CX0 10 _ _ _ spHR := ok_headRight (k := 9) F10 F7 (OR 8) b7 g7 misinstance mtuple mstr mlen
  have GD : FnOk l.prog w K mg base CX0 11 _ _ _ spDue := ok_due (k := 10) F11 F10 GH b10 g10 mrange mlen mlist mint
  have GS : FnOk l.prog w K mg base CX0 11 _ _ _ spSame0 := ok_same0 (k := 10) F8 SK
  have GN : FnOk l.prog w K mg base CX0 6 _ _ _ (spSy 4) := ok_saying F9 b9 g9 F4 PK b4 g4 F7 OR b7 g7 mint mlen 4
  have GB : FnOk l.prog w K mg base CX0 6 _ _ _ (spBn 4) := ok_bent F12 b12 g12 F4 PK b4 g4 mlen mlist 4
  have GA : FnOk l.prog w K mg base CX0 11 _ _ _ spAt := ok_atBounds (k := 10) F13 F4 (PK 8) b4 g4 mrange
  have GL : ∀ k, FnOk l.prog w K mg base CX0 (k + 3) _ _ _ spLetters := fun k => ok_letters (k := k + 1) F5 F4 (PK k) b4 g4 mlen mrange
  have G1 : FnOk l.prog w K mg base CX0 11 _ _ _ (spPot K) := ok_pot (k := 10) F3 mlist menumerate
  have G2 : FnOk l.prog w K mg base CX0 11 _ _ _ spSheet := ok_sheet (k := 8) F6 F4 (PK 7) b4 g4 F5 (GL 7) b5 g5 mmin mtuple
  exact law_run (k := 11) F14 F3 G1 b3 g3 F6 G2 b6 g6 F13 GA b13 g13 F9 (GN.mono (by decide)) b9 g9 F1 GY b1 g1 F12 (GB.mono (by decide)) b12 g12 F8 GS b8 g8 F11 GD b11 g11 mrange mrepr ⟨rfl, by decide, by decide⟩ (fun s v => .of_eq rfl) e0 hS hlen
end Eh
open PySem PySem.W PyProof.Rows
set_option maxHeartbeats 0 in
theorem PySem.Challenge.cw_echohall_k63_what_is_a_saying_holds : PySem.Challenge.rw_echohall_k63_what_is_a_saying.Holds := by
  w_on; o_law; k_head; (case hw => w_witness2)
  k_fill
  refine EndG.walkG (l := PySem.Challenge.rw_echohall_k63_what_is_a_saying) (n := 63) (CX := fun _ => L2.CX0) [] rfl (by decide) rfl (by decide +kernel) (fun w h Y => PySem.W.kIn_of Y) ?F (fun _ _ _ _ _ h => h)
  case F =>
    intro w mg fa h _ KX G hmg own
    refine' Eh.all_mk KX G hmg own ?a0 ?l0 ?c0 ?k0 ?a1 ?l1 ?c1 ?k1 ?a2 ?l2 ?c2 ?k2 ?a3 ?l3 ?c3 ?k3 ?a4 ?l4 ?c4 ?k4 ?a5 ?l5 ?c5 ?k5 ?a6 ?l6 ?c6 ?k6 ?a7 ?l7 ?c7 ?k7 ?a8 ?l8 ?c8 ?k8 ?a9 ?l9 ?c9 ?k9 ?a10 ?l10 ?c10 ?k10 ?a11 ?l11 ?c11 ?k11 ?a12 ?l12 ?c12 ?k12 ?a13 ?l13 ?c13 ?k13 ?a14 ?l14 ?c14 ?k14 ?z0 ?z1 ?z2 ?z3 ?z4 ?z5 ?z6 ?z7 ?z8 ?z9 ?z10 ?z11 ?z12 ?gI ?gW ?gP ?lP ?wP
    (case a0 => k_is)
    (case l0 => k_is)
    (case c0 => k_is)
    (case k0 => k_is)
    (case a1 => k_is)
    (case l1 => k_is)
    (case c1 => k_is)
    (case k1 => k_is)
    (case a2 => k_is)
    (case l2 => k_is)
    (case c2 => k_is)
    (case k2 => k_is)
    (case a3 => k_is)
    (case l3 => k_is)
    (case c3 => k_is)
    (case k3 => k_is)
    (case a4 => k_is)
    (case l4 => k_is)
    (case c4 => k_is)
    (case k4 => k_is)
    (case a5 => k_is)
    (case l5 => k_is)
    (case c5 => k_is)
    (case k5 => k_is)
    (case a6 => k_is)
    (case l6 => k_is)
    (case c6 => k_is)
    (case k6 => k_is)
    (case a7 => k_is)
    (case l7 => k_is)
    (case c7 => k_is)
    (case k7 => k_is)
    (case a8 => k_is)
    (case l8 => k_is)
    (case c8 => k_is)
    (case k8 => k_is)
    (case a9 => k_is)
    (case l9 => k_is)
    (case c9 => k_is)
    (case k9 => k_is)
    (case a10 => k_is)
    (case l10 => k_is)
    (case c10 => k_is)
    (case k10 => k_is)
    (case a11 => k_is)
    (case l11 => k_is)
    (case c11 => k_is)
    (case k11 => k_is)
    (case a12 => k_is)
    (case l12 => k_is)
    (case c12 => k_is)
    (case k12 => k_is)
    (case a13 => k_is)
    (case l13 => k_is)
    (case c13 => k_is)
    (case k13 => k_is)
    (case a14 => k_is)
    (case l14 => k_is)
    (case c14 => k_is)
    (case k14 => k_is)
    (case z0 => k_is)
    (case z1 => k_is)
    (case z2 => k_is)
    (case z3 => k_is)
    (case z4 => k_is)
    (case z5 => k_is)
    (case z6 => k_is)
    (case z7 => k_is)
    (case z8 => k_is)
    (case z9 => k_is)
    (case z10 => k_is)
    (case z11 => k_is)
    (case z12 => k_is)
    (case gI => k_is)
    (case gW => k_is)
    (case gP => k_is)
    (case lP => k_is)
    (case wP => first | rfl | decide +kernel)
