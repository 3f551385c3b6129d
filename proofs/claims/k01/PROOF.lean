import PyProof.Rows.All
import Wide.All
import OpenK.AllK
import Wide.FinOn
import HandS.ForMost
import HandS.Evl
import HandS.GenList
import HandS.AnyAll
import HandS.Strs
import HandS.TupAny
import KE.LtSeq
import HandS.RaiseMore
import HandS.IsInst
import HandS.FStrTup
import HandS.EndBits
import HandS.EndTab
import HandS.EndOwn
import HandS.Flow
import HandS.StrMore
import HandS.Codes
import PySem.Challenge.RW_echohall_k01_letters_and_sheets
set_option Elab.async false
set_option linter.all false
set_option maxRecDepth 100000
set_option maxHeartbeats 4000000
namespace Eh
open PySem PySem.Spec PyProof.Rows L2 Evl
def topS (i : Nat) : Stmt := PySem.Challenge.pw_echohall_k01_letters_and_sheets.main.body.getD i (.Pass ⟨0, 0, 0, 0⟩)
abbrev sIsLetter : Stmt := topS 4
abbrev sIsSheet : Stmt := topS 5
abbrev sIsPart : Stmt := topS 6
abbrev sBlend : Stmt := topS 8
abbrev sPot : Stmt := topS 9
abbrev sPick : Stmt := topS 10
abbrev sLetters : Stmt := topS 11
abbrev sSheet : Stmt := topS 12
abbrev sLawIsLetter : Stmt := topS 13
abbrev sLawIsSheet : Stmt := topS 14
abbrev sLawText : Stmt := topS 15
abbrev sLawOtherPart : Stmt := topS 16
abbrev sLawOther : Stmt := topS 17
abbrev sLaw : Stmt := topS 18
theorem scBlend : FnScope ["cell", "at", "one", "two", "three"] ["cell", "at"] (defScope sBlend) := ⟨rfl, rfl, rfl, by decide +kernel, rfl, by decide +kernel, by decide +kernel⟩
theorem scPot : FnScope ["script", "cells", "k", "cell"] ["script"] (defScope sPot) := ⟨rfl, rfl, rfl, by decide +kernel, rfl, by decide +kernel, by decide +kernel⟩
theorem scPick : FnScope ["pot", "many", "at", "cell", "found"] ["pot", "many"] (defScope sPick) := ⟨rfl, rfl, rfl, by decide +kernel, rfl, by decide +kernel, by decide +kernel⟩
theorem scLetters : FnScope ["pot", "many", "small", "k", "rest", "spot", "turn", "size", "found", "part", "at"] ["pot", "many"] (defScope sLetters) := ⟨rfl, rfl, rfl, by decide +kernel, rfl, by decide +kernel, by decide +kernel⟩
theorem scSheet : FnScope ["pot", "most", "letters", "turn", "opens", "plains", "closes"] ["pot", "most"] (defScope sSheet) := ⟨rfl, rfl, rfl, by decide +kernel, rfl, by decide +kernel, by decide +kernel⟩
end Eh
set_option Elab.async false
set_option linter.all false
set_option maxRecDepth 100000
set_option maxHeartbeats 4000000
namespace Eh
open PySem PySem.Spec PyProof.Rows L2 Evl
/-! heaps -/
def Keep (p : Addr) (H H' : Hp) : Prop := ∀ b o, b ≠ p → H b = some o → H' b = some o
theorem Keep.refl (p : Addr) (H : Hp) : Keep p H H := fun _ _ _ h => h
theorem Keep.trans {p : Addr} {H H1 H2 : Hp} (a : Keep p H H1) (b : Keep p H1 H2) : Keep p H H2 := fun x o n h => b x o n (a x o n h)
theorem Keep.ofEx {p : Addr} {H H' : Hp} (e : Ex H H') : Keep p H H' := fun b o _ h => e b o h
theorem Keep.new {p q : Addr} {H H' : Hp} {o : HO} (k : Keep p H H') (h : H q = none) : Keep p H (upd H' q o) := fun b u n e => by
  rw [upd_ne (ne_of_none e h)]
  exact k b u n e
theorem Keep.at {p : Addr} {H H' : Hp} {o : HO} (k : Keep p H H') : Keep p H (upd H' p o) := fun b u n e => by
  rw [upd_ne n]
  exact k b u n e
/-- the drawing pot: its cells stand still, how many were drawn and the rest change -/
def Pot (p c : Addr) (ns : List Int) (H : Hp) : Prop := ∃ a r : Int, 0 ≤ a ∧ H p = some (.lst [.ref c, .int a, .int r]) ∧ H c = some (.lst (ns.map V.int))
theorem Pot.ne {p c : Addr} {ns : List Int} {H : Hp} (h : Pot p c ns H) : c ≠ p := by
  obtain ⟨a, r, _, h1, h2⟩ := h
  intro e
  subst e
  have q : [V.ref c, .int a, .int r] = ns.map V.int := by
    have := h1.symm.trans h2
    injection this with this
    injection this
  cases ns with
  | nil => cases q
  | cons x t => cases q
theorem Pot.ex {p c : Addr} {ns : List Int} {H H' : Hp} (h : Pot p c ns H) (e : Ex H H') : Pot p c ns H' := by
  obtain ⟨a, r, h0, h1, h2⟩ := h
  exact ⟨a, r, h0, e _ _ h1, e _ _ h2⟩
theorem Pot.new {p c q : Addr} {ns : List Int} {H : Hp} {o : HO} (h : Pot p c ns H) (hp : p ≠ q) (hc : c ≠ q) : Pot p c ns (upd H q o) := by
  obtain ⟨a, r, h0, h1, h2⟩ := h
  exact ⟨a, r, h0, by rw [upd_ne hp]; exact h1, by rw [upd_ne hc]; exact h2⟩
section
variable {P : Program} {w : World} {K : PySem.W.Frag} {mg : Str → Option Value} {base : Heap}
def spBlend : Sp := fun vs H Q _ => ∃ x a : Int, vs = [.int x, .int a] ∧ ∀ v : Int, Q (.int v) H
theorem ok_blend {f : Addr} {fd : FuncData} {k : Nat} (F : Fun K "_law_blend" "_law_blend" sBlend f fd) : FnOk P w K mg base CX0 (k + 1) f fd ["cell", "at"] spBlend := by
  refine F.ok scBlend (fun vs H Q E h => ?_) (fun cdv A outer s H vs Q E hr h => ?_)
  · obtain ⟨x, a, rfl, _⟩ := h
    rfl
  · obtain ⟨x, a, rfl, q⟩ := h
    refine ⟨_, pss_cons (ps_if (pt_cmpR op_ge (pv 0) (pe_op op_pow pe_int pe_int) (nomark _)) (pss_one (ps_ret (pv 0))) pss_nil)
      (pss_cons (ps_set (i := 2) scBlend.nd rfl (.inl rfl) (pe_op op_mod (pe_op op_add (pe_op op_add (pe_op op_mul (pe_op op_mod (pv 0) pe_int) pe_int) (pe_op op_mul (pv 1) pe_int)) pe_int) pe_int))
      (pss_cons (ps_set (i := 3) scBlend.nd rfl (.inl rfl) (pe_op op_mod (pe_op op_add (pe_op op_add (pe_op op_mul (pv 2) (pv 2)) (pe_op op_mul (pv 1) pe_int)) (pe_op op_mod (pv 0) pe_int)) pe_int))
      (pss_cons (ps_set (i := 4) scBlend.nd rfl (.inl rfl) (pe_op op_mod (pe_op op_add (pe_op op_add (pe_op op_mul (pv 3) (pv 3)) (pe_op op_mul (pv 2) pe_int)) pe_int) pe_int))
      (pss_one (ps_ret (pe_op op_add (pe_op op_mul (pe_op op_add (pe_op op_mul (pv 2) pe_int) (pv 3)) pe_int) (pv 4))))))), ?_⟩
    refine ⟨_, rfl, 10, 18, rfl, rfl, ⟨by decide, by decide, by decide⟩, _, _, rfl, rfl, _, rfl, ite2 (fun e => ?_) (fun e => ?_)⟩
    · exact ⟨_, rfl, q _⟩
    · have big : ∀ j : Int, 0 < j → j < 4294967296 → ∀ y : Int, CMul (y % j) (y % j) := fun j h0 h1 y => .inl ⟨by have := Int.emod_nonneg y (show j ≠ 0 by omega); omega, by have := Int.emod_lt_of_pos y h0; omega⟩
      refine ⟨_, rfl, _, _, rfl, rfl, (by show (0 : Int) < _; decide), _, _, rfl, rfl, .inr ⟨by decide, by decide⟩, _, rfl, _, _, rfl, rfl, .inr ⟨by decide, by decide⟩, _, _, rfl, rfl, _, _, rfl, rfl, _, _, rfl, rfl, (by show (0 : Int) < _; decide), ?_⟩
      refine ⟨_, rfl, _, rfl, _, _, rfl, rfl, big _ (by decide) (by decide) _, _, rfl, _, _, rfl, rfl, .inr ⟨by decide, by decide⟩, _, _, rfl, rfl, _, rfl, _, _, rfl, rfl, (by show (0 : Int) < _; decide), _, _, rfl, rfl, _, _, rfl, rfl, (by show (0 : Int) < _; decide), ?_⟩
      refine ⟨_, rfl, _, rfl, _, _, rfl, rfl, big _ (by decide) (by decide) _, _, rfl, _, _, rfl, rfl, .inr ⟨by decide, by decide⟩, _, _, rfl, rfl, _, _, rfl, rfl, _, _, rfl, rfl, (by show (0 : Int) < _; decide), ?_⟩
      exact ⟨_, rfl, _, _, rfl, rfl, .inr ⟨by decide, by decide⟩, _, rfl, _, _, rfl, rfl, _, _, rfl, rfl, .inr ⟨by decide, by decide⟩, _, rfl, _, _, rfl, rfl, q _⟩
end
end Eh
set_option Elab.async false
set_option linter.all false
set_option maxRecDepth 100000
set_option maxHeartbeats 4000000
namespace Eh
open PySem PySem.Spec PyProof.Rows L2 Evl
theorem dpInts {K : PySem.W.Frag} {H : Hp} : ∀ ns : List Int, DpAll K H (ns.map V.int) (ns.map PyData.int)
  | [] => .nil
  | n :: r => .cons (.int n) (dpInts r)
theorem layInts : ∀ ns : List Int, PyData.canLayAll0 (ns.map PyData.int) = true
  | [] => rfl
  | n :: r => by
    show (true && PyData.canLayAll0 (r.map PyData.int)) = true
    rw [layInts r]
    rfl
theorem deepInts : ∀ ns : List Int, PyData.depthAll (ns.map PyData.int) = 0
  | [] => rfl
  | n :: r => by
    show max 0 (PyData.depthAll (r.map PyData.int)) = 0
    rw [deepInts r]
    rfl
theorem shapedInts (ns : List Int) : SeqAt.shaped (.list (ns.map PyData.int)) = true := by
  unfold SeqAt.shaped
  have h1 : PyData.canLay0 (.list (ns.map PyData.int)) = true := layInts ns
  have h2 : PyData.depth (.list (ns.map PyData.int)) = 1 := by
    show PyData.depthAll (ns.map PyData.int) + 1 = 1
    rw [deepInts]
  rw [h1, h2]
  rfl
theorem shapedNil : SeqAt.shaped (.list []) = true := by decide +kernel
section
variable {P : Program} {w : World} {K : PySem.W.Frag} {mg : Str → Option Value} {base : Heap}
def spPick : Sp := fun vs H Q _ => ∃ (p c : Addr) (ns : List Int) (m : Int), vs = [.ref p, .int m] ∧ 0 < m ∧ m < 1073741824 ∧ Pot p c ns H ∧ ∀ (v : Nat) H', (v : Int) < m → Keep p H H' → Pot p c ns H' → Q (.int v) H'
theorem ok_pick {f fB : Addr} {fd fdB : FuncData} {k : Nat} (F : Fun K "_law_pick" "_law_pick" sPick f fd) (FB : Fun K "_law_blend" "_law_blend" sBlend fB fdB) (bB : Binds K fdB ["cell", "at"] []) (gB : mg "_law_blend" = some (.ref fB)) (ml : mg "len" = none) :
    FnOk P w K mg base CX0 (k + 2) f fd ["pot", "many"] spPick := by
  have GB : FnOk P w K mg base CX0 (k + 1) fB fdB ["cell", "at"] spBlend := ok_blend FB
  have nd := scPick.nd
  refine F.ok scPick (fun vs H Q E h => ?_) (fun cdv A outer s H vs Q E hr h => ?_)
  · obtain ⟨p, c, ns, m, rfl, _⟩ := h
    rfl
  · obtain ⟨p, c, ns, m, rfl, m0, m1, hP, q⟩ := h
    refine ⟨_, pss_cut (ps_if (pt_cmpR op_lt (pe_ix ix_list (pv 0) pe_int (fun _ _ => rfl)) (pv 1) (nomark _))
       (pss_cons (ps_set (i := 2) nd rfl (.inl rfl) (pe_ix ix_list (pv 0) pe_int (fun _ _ => rfl)))
       (pss_cons (ps_set (i := 3) nd rfl (.inl rfl) (pe_op op_mul pe_int (pv 2)))
       (pss_cut (ps_if (pt_cmpR op_lt (pv 2) (pe_callB call_len_seq (by rfl) ml PySem.boot_len (pa_cons (pe_ix ix_list (pv 0) pe_int (fun _ _ => rfl)) pa_nil)) (nomark _))
            (pss_one (ps_set (i := 3) nd rfl (.inl rfl) (pe_ix ix_list (pe_ix ix_list (pv 0) pe_int (fun _ _ => rfl)) (pv 2) (fun _ _ => rfl))))
            (pss_one (ps_if (pt_cmpR (op_neD hr.units) (pe_ix ix_list (pv 0) pe_int (fun _ _ => rfl)) (pe_lst pa_nil) (nomark _))
              (pss_one (ps_set (i := 3) nd rfl (.inl rfl) (pe_op op_mod (pe_ix ix_list (pe_ix ix_list (pv 0) pe_int (fun _ _ => rfl)) (pe_op op_mod (pe_op op_add (pe_op op_mul (pv 2) pe_int) pe_int) (pe_callB call_len_seq (by rfl) ml PySem.boot_len (pa_cons (pe_ix ix_list (pv 0) pe_int (fun _ _ => rfl)) pa_nil))) (fun _ _ => rfl)) (pe_op op_add (pe_op op_pow pe_int pe_int) (pe_op op_mul pe_int (pv 2)))))) pss_nil)))
       (pss_cons (ps_asg (pe_op op_add (pv 2) pe_int) (pg_sub (pv 0) pe_int set_list))
       (pss_one (ps_asg (pe_call GB hr (by rfl) gB FB.kp bB .nil pass0 (pa_cons (pv 3) (pa_cons (pv 2) pa_nil))) (pg_sub (pv 0) pe_int set_list)))))))
       pss_nil)
      (pss_cons (ps_set (i := 4) nd rfl (.inl rfl) (pe_op op_mod (pe_ix ix_list (pv 0) pe_int (fun _ _ => rfl)) (pv 1)))
      (pss_cons (ps_asg (pe_op op_fdiv (pe_ix ix_list (pv 0) pe_int (fun _ _ => rfl)) (pv 1)) (pg_sub (pv 0) pe_int set_list))
      (pss_one (ps_ret (pv 4))))), ?_⟩
    have hne := hP.ne
    obtain ⟨a, r, a0, hp, hc⟩ := hP
    refine ⟨fun σ' H' => (∃ y2 y3, σ' = [some (.ref p), some (.int m), y2, y3, none]) ∧ Keep p H H' ∧ Pot p c ns H', ?_, ?_⟩
    · refine ⟨_, rfl, p, _, 2, .int r, rfl, rfl, sq_of hp, rfl, _, rfl, _, _, rfl, rfl, _, rfl, ite2 (fun e => ?_) (fun e => ?_)⟩
      · refine ⟨_, rfl, p, _, 1, .int a, rfl, rfl, sq_of hp, rfl, ?_⟩
        refine ⟨_, rfl, _, _, rfl, rfl, .inl ⟨by decide, by decide⟩, ?_⟩
        refine ⟨fun σ' H' => ∃ y3 : Int, σ' = [some (.ref p), some (.int m), some (.int a), some (.int y3), none] ∧ Ex H H', ?_, ?_⟩
        · refine ⟨_, rfl, _, rfl, p, _, 0, .ref c, rfl, rfl, sq_of hp, rfl, c, _, rfl, .inl (sq_of hc), _, _, rfl, rfl, _, rfl, ite2 (fun e => ?_) (fun e => ?_)⟩
          · have ha : a < (ns.map V.int).length := of_decide_eq_true e
            have hb : a.toNat < ns.length := by
              rw [List.length_map] at ha
              omega
            refine ⟨_, rfl, p, _, 0, .ref c, rfl, rfl, sq_of hp, rfl, _, rfl, c, _, a, .int ns[a.toNat], rfl, rfl, sq_of hc, at_of (j := a.toNat) (by omega) ?_, _, rfl, Ex.refl _⟩
            rw [List.getElem?_map, List.getElem?_eq_getElem hb]
            rfl
          · refine ⟨_, rfl, p, _, 0, .ref c, rfl, rfl, sq_of hp, rfl, Nat.zero_le _, fun u hu => ?_⟩
            have e1 : Ex H (upd H u (.lst [])) := Ex.new hu
            refine ⟨.list (ns.map PyData.int), .list [], .lst (sq_of (e1 _ _ hc)) (dpInts ns), .lst (sq_of upd_same) .nil, shapedInts ns, shapedNil, _, rfl, ite2 (fun e => ?_) (fun e => ?_)⟩
            · have h0 : 0 < ns.length := by
                cases ns with
                | nil => exact absurd e (by decide)
                | cons x t => exact Nat.succ_pos _
              have hl : (0 : Int) < ((ns.map V.int).length : Int) := by
                rw [List.length_map]
                omega
              have g0 := Int.emod_nonneg (a * 7 + 1) (show ((ns.map V.int).length : Int) ≠ 0 by omega)
              have g1 := Int.emod_lt_of_pos (a * 7 + 1) hl
              have hb : ((a * 7 + 1) % ((ns.map V.int).length : Int)).toNat < ns.length := by
                rw [List.length_map] at g0 g1 ⊢
                omega
              refine ⟨_, rfl, p, _, 0, .ref c, rfl, rfl, sq_of (e1 _ _ hp), rfl, _, rfl, _, _, rfl, rfl, .inr ⟨by decide, by decide⟩, _, _, rfl, rfl, _, rfl, p, _, 0, .ref c, rfl, rfl, sq_of (e1 _ _ hp), rfl, c, _, rfl, .inl (sq_of (e1 _ _ hc)), _, _, rfl, rfl, hl, c, _, _, .int ns[((a * 7 + 1) % ((ns.map V.int).length : Int)).toNat], rfl, rfl, sq_of (e1 _ _ hc), at_of (j := ((a * 7 + 1) % ((ns.map V.int).length : Int)).toNat) (by omega) ?_, _, _, rfl, rfl, ⟨by decide, by decide, by decide⟩, _, rfl, _, _, rfl, rfl, .inl ⟨by decide, by decide⟩, _, _, rfl, rfl, _, _, rfl, rfl, ?_, _, rfl, e1⟩
              · rw [List.getElem?_map, List.getElem?_eq_getElem hb]
                rfl
              · show (0 : Int) < 10 ^ (17 : Int).toNat + 3 * a
                have : (10 : Int) ^ (17 : Int).toNat = 100000000000000000 := by decide
                omega
            · exact ⟨_, rfl, e1⟩
        · rintro σ' H' ⟨y3, rfl, e1⟩
          refine ⟨_, rfl, _, _, rfl, rfl, _, rfl, p, _, 1, 1, rfl, rfl, e1 _ _ hp, rfl, ?_⟩
          refine ⟨_, rfl, _, rfl, _, _, rfl, fun v => ⟨_, rfl, p, _, 2, 2, rfl, rfl, upd_same, rfl, ⟨_, _, rfl⟩, ?_, a + 1, v, by omega, upd_same, ?_⟩⟩
          · exact ((Keep.ofEx e1).at).at
          · rw [upd_ne hne, upd_ne hne]
            exact e1 _ _ hc
      · exact ⟨⟨_, _, rfl⟩, Keep.refl _ _, a, r, a0, hp, hc⟩
    · rintro σ' H' ⟨⟨y2, y3, rfl⟩, kp, a', r', a0', hp', hc'⟩
      have g0 := Int.emod_nonneg r' (show m ≠ 0 by omega)
      have g1 := Int.emod_lt_of_pos r' m0
      refine ⟨_, rfl, p, _, 2, .int r', rfl, rfl, sq_of hp', rfl, _, rfl, _, _, rfl, rfl, m0, ?_⟩
      refine ⟨_, rfl, p, _, 2, .int r', rfl, rfl, sq_of hp', rfl, _, rfl, _, _, rfl, rfl, ⟨m0, m1⟩, _, rfl, p, _, 2, 2, rfl, rfl, hp', rfl, ?_⟩
      refine ⟨_, rfl, ?_⟩
      have e : r' % m = ((r' % m).toNat : Int) := by omega
      show Q (.int (r' % m)) _
      rw [e]
      refine q _ _ (by omega) kp.at ⟨a', r' / m, a0', upd_same, ?_⟩
      rw [upd_ne hne]
      exact hc'
end
end Eh
set_option Elab.async false
set_option linter.all false
set_option maxRecDepth 100000
set_option maxHeartbeats 4000000
namespace Eh
open PySem PySem.Spec PyProof.Rows L2 Evl
/-- for i, x in enumerate(list) -/
theorem for_enum {K : PySem.W.Frag} {a : Addr} {xs : List V} {tb : TS} {D : Ends} {σ : L2.St} {H : Hp} {i1 i2 : Nat} (Pv : Nat → L2.St → Hp → Prop) (h0 : Pv 0 σ H) (hl : ∀ i σ H, i ≤ xs.length → Pv i σ H → SqL K H a xs)
    (hs : ∀ i x σ H T, xs[i]? = some x → Pv i σ H → H T = none → tb { D with nx := Pv (i + 1), ct := Pv (i + 1), bk := D.nx } ((σ.set i1 (some (.int (i : Nat)))).set i2 (some x)) (upd H T (.tup [.int (i : Nat), x])))
    (hd : ∀ σ H, Pv xs.length σ H → D.nx σ H) :
    ∃ W : Nat → Nat → L2.St → Hp → Prop, (∃ m, W 0 m σ H) ∧ ∀ i m σ H, W i m σ H →
      ((Ite K a).stop i H ∧ D.nx σ H) ∨ ((Ite K a).go i H ∧ ∃ N : L2.St → Hp → Prop, (∀ σ' H', N σ' H' → ∃ m', m' < m ∧ W (i + 1) m' σ' H') ∧ ∀ x H', (Ite K a).yld i H x H' → gTup K 2 (gCons (gName i1) (gCons (gName i2) gNil)) x σ H' fun σ2 H2 => tb { D with nx := N, ct := N, bk := D.nx } σ2 H2) := by
  refine ⟨fun i m σ H => m = xs.length - i ∧ i ≤ xs.length ∧ Pv i σ H, ⟨xs.length, by omega, Nat.zero_le _, h0⟩, ?_⟩
  rintro i m σ H ⟨rfl, hi, p⟩
  have q := hl i σ H hi p
  by_cases hlt : i < xs.length
  · refine .inr ⟨⟨xs, xs[i], q, List.getElem?_eq_getElem hlt⟩, Pv (i + 1), fun σ' H' p' => ⟨xs.length - (i + 1), by omega, rfl, hlt, p'⟩, fun v H' y => ?_⟩
    obtain ⟨T, x, rfl, nT, rfl, f⟩ := y
    exact ⟨T, [.int (i : Nat), x], rfl, st_of upd_same, rfl, _, _, rfl, _, _, rfl, rfl, hs i x σ H T (f xs q) p nT⟩
  · have e : i = xs.length := by omega
    subst e
    exact .inl ⟨⟨xs, q, Nat.le_refl _⟩, hd σ H p⟩
theorem cut0 (xs : List V) (n : Nat) : cutV xs none (some (n : Int)) = xs.take n := by
  unfold cutV
  rw [HT.sIx_none, HT.sIx_nat, List.drop_zero, Nat.sub_zero]
  rw [List.take_eq_take_iff]
  omega
theorem cutF (xs : List V) (n : Nat) : cutV xs (some (n : Int)) none = xs.drop n := by
  unfold cutV
  rw [HT.sIx_none, HT.sIx_nat]
  by_cases h : n ≤ xs.length
  · rw [Nat.min_eq_left h]
    exact List.take_of_length_le (by rw [List.length_drop]; exact Nat.le_refl _)
  · rw [Nat.min_eq_right (by omega), List.drop_of_length_le (Nat.le_refl _), List.drop_of_length_le (by omega)]
    exact List.take_nil
theorem cutLH (xs : List V) (n m : Nat) : cutV xs (some (n : Int)) (some (m : Int)) = (xs.take m).drop n := by
  unfold cutV
  rw [HT.sIx_nat, HT.sIx_nat, List.drop_take]
  by_cases h : n ≤ xs.length
  · rw [Nat.min_eq_left h, List.take_eq_take_iff, List.length_drop]
    omega
  · rw [Nat.min_eq_right (show xs.length ≤ n by omega), List.drop_of_length_le (Nat.le_refl _), List.drop_of_length_le (show xs.length ≤ n by omega), List.take_nil, List.take_nil]
section
variable {P : Program} {w : World} {K : PySem.W.Frag} {mg : Str → Option Value} {base : Heap}
def spPot (K : PySem.W.Frag) : Sp := fun vs H Q _ => ∃ (a : Addr) (ns : List Int), vs = [.ref a] ∧ SqL K H a (ns.map V.int) ∧ ns.length ≤ 63 ∧ ∀ (p c : Addr) (ms : List Int) H', Ex H H' → Pot p c ms H' → H p = none → H c = none → Q (.ref p) H'
theorem ok_pot {f : Addr} {fd : FuncData} {k : Nat} (F : Fun K "_law_pot" "_law_pot" sPot f fd) (ml : mg "list" = none) (me : mg "enumerate" = none) :
    FnOk P w K mg base CX0 (k + 1) f fd ["script"] (spPot K) := by
  have nd := scPot.nd
  refine F.ok scPot (fun vs H Q E h => ?_) (fun cdv A outer s H vs Q E hr h => ?_)
  · obtain ⟨a, ns, rfl, _⟩ := h
    rfl
  · obtain ⟨a, ns, rfl, hS, hl, q⟩ := h
    refine ⟨_, pss_cons (ps_set (i := 1) nd rfl (.inl rfl) (pe_callTy call_list_of (by rfl) ml (by decide +kernel) (pa_cons (pe_slice sl_list (pv 0) po_none (po_some pe_int)) pa_nil)))
      (pss_cons (ps_for PassesOwn.never rfl (pi_enum (by rfl) me (pa_cons (pe_slice sl_list (pv 0) (po_some pe_int) (po_some pe_int)) pa_nil)) (pg_tup rfl (pgs_cons (pg_name (i := 2) nd rfl (.inl rfl)) (pgs_cons (pg_name (i := 3) nd rfl (.inl rfl)) pgs_nil)))
         (pss_one (ps_asg (pe_op op_add (pe_ix ix_list (pv 1) (pe_op op_mod (pv 2) pe_int) (fun _ _ => rfl)) (pv 3)) (pg_sub (pv 1) (pe_op op_mod (pv 2) pe_int) set_list))))
      (pss_one (ps_ret (pe_lst (pa_cons (pv 1) (pa_cons pe_int (pa_cons pe_int pa_nil))))))), ?_⟩
    refine ⟨_, rfl, 12, rfl, a, _, rfl, hS, fun u hu => ⟨u, _, rfl, .inl (sq_of upd_same), fun c hc => ?_⟩⟩
    have hcu : c ≠ u := fun e => by
      rw [e, upd_same] at hc
      cases hc
    have hcH : H c = none := by rw [← hc, upd_ne hcu]
    have e1 : Ex H (upd (upd H u (.lst (cutV (ns.map V.int) none (some 12)))) c (.lst (cutV (ns.map V.int) none (some 12)))) := (Ex.new hu).trans (Ex.new hc)
    have ec : cutV (ns.map V.int) none (some 12) = (ns.take 12).map V.int := by
      rw [show (some 12 : Option Int) = some ((12 : Nat) : Int) from rfl, cut0, List.map_take]
    rw [ec] at e1
    rw [ec]
    generalize hH1 : upd (upd H u (.lst ((ns.take 12).map V.int))) c (.lst ((ns.take 12).map V.int)) = H1 at e1 ⊢
    have hc1 : H1 c = some (.lst ((ns.take 12).map V.int)) := by
      rw [← hH1]
      exact upd_same
    refine ⟨_, rfl, 12, rfl, 63, rfl, a, _, rfl, ex_l e1 hS, fun l nl => ?_⟩
    have es : cutV (ns.map V.int) (some 12) (some 63) = ((ns.take 63).drop 12).map V.int := by
      rw [show (some 12 : Option Int) = some ((12 : Nat) : Int) from rfl, show (some 63 : Option Int) = some ((63 : Nat) : Int) from rfl, cutLH, List.map_drop, List.map_take]
    rw [es]
    have nlc : l ≠ c := fun e => by
      rw [e, hc1] at nl
      cases nl
    refine ⟨l, _, rfl, sq_of upd_same, for_enum (xs := ((ns.take 63).drop 12).map V.int) (fun i σ H' => (∃ y2 y3, σ = [some (.ref a), some (.ref c), y2, y3]) ∧ Ex H H' ∧ H' l = some (.lst (((ns.take 63).drop 12).map V.int)) ∧ ∃ ms : List Int, ms.length = min 12 ns.length ∧ H' c = some (.lst (ms.map V.int))) ?_ ?_ ?_ ?_⟩
    · refine ⟨⟨_, _, rfl⟩, e1.trans (Ex.new nl), upd_same, ns.take 12, ?_, ?_⟩
      · rw [List.length_take]
      · rw [upd_ne nlc.symm]
        exact hc1
    · rintro i σ H' _ ⟨_, _, h, _⟩
      exact sq_of h
    · rintro i x σ H' T hx ⟨⟨y2, y3, rfl⟩, eH, hl', ms, hms, hc'⟩ nT
      have ex : ∃ z : Int, x = .int z := by
        rw [List.getElem?_map] at hx
        obtain ⟨z, _, e⟩ := Option.map_eq_some_iff.mp hx
        exact ⟨z, e.symm⟩
      obtain ⟨z, rfl⟩ := ex
      have hi : 12 < ns.length := by
        have := (List.getElem?_eq_some_iff.mp hx).1
        rw [List.length_map, List.length_drop, List.length_take] at this
        omega
      have g0 : ((i : Int) % 12) = ((i % 12 : Nat) : Int) := by omega
      have hj : i % 12 < ms.length := by
        rw [hms]
        have := Nat.mod_lt i (show 0 < 12 by decide)
        omega
      have eT : Ex H' (upd H' T (.tup [.int (i : Nat), .int z])) := Ex.new nT
      have ix : (ms.map V.int)[i % 12]? = some (.int ms[i % 12]) := by
        rw [List.getElem?_map, List.getElem?_eq_getElem hj]
        rfl
      refine ⟨_, rfl, _, rfl, _, _, rfl, rfl, (by show (0 : Int) < _; decide), c, _, _, _, rfl, rfl, sq_of (eT _ _ hc'), at_of (j := i % 12) g0 ix, _, rfl, _, _, rfl, rfl, _, rfl, _, rfl, _, _, rfl, rfl, (by show (0 : Int) < _; decide), c, _, _, i % 12, rfl, rfl, eT _ _ hc', ?_, ⟨_, _, rfl⟩, ?_, ?_, ms.set (i % 12) (ms[i % 12] + z), ?_, ?_⟩
      · show ixN _ ((i : Int) % 12) = _
        rw [g0]
        exact ixN_nat (by rw [List.length_map]; exact hj)
      · exact Ex.mut (eH.trans eT) hcH
      · rw [upd_ne nlc]
        exact eT _ _ hl'
      · rw [List.length_set]
        exact hms
      · rw [upd_same, List.map_set]
    · rintro σ H' ⟨⟨y2, y3, rfl⟩, eH, hl', ms, hms, hc'⟩
      refine ⟨_, rfl, (by show 3 ≤ sizeLine; decide), fun p np => q p c ms _ (eH.trans (Ex.new np)) ⟨0, 0, by decide, upd_same, ?_⟩ (fresh_back eH np) hcH⟩
      have : c ≠ p := fun e => by
        rw [← e, hc'] at np
        cases np
      rw [upd_ne this]
      exact hc'
end
end Eh
set_option Elab.async false
set_option linter.all false
set_option maxRecDepth 100000
set_option maxHeartbeats 4000000
namespace Eh
open PySem PySem.Spec PyProof.Rows L2 Evl TL
/-! texts as lists of codes -/
abbrev cs (w : Str) : List Nat := w.cps.toList
theorem cs_ext {x y : Str} (h : cs x = cs y) : x = y := by
  cases x with | mk a => cases y with | mk b =>
  have : a = b := by
    apply Array.ext'
    exact h
  rw [this]
def az (c : Nat) : Prop := 97 ≤ c ∧ c < 123
/-- what is drawn as a letter -/
def Ltr (w : Str) : Prop := (∀ c ∈ cs w, az c) ∧ 1 ≤ (cs w).length ∧ (cs w).length ≤ 8
def spotAt (spot n : Nat) : Nat := if spot = 0 then 0 else if spot = 1 then n else n / 2
def mkL (rest : List Nat) (spot turn size k : Nat) : List Nat :=
  (rest.take ((size + k * (spot % 2)) % 8)).take (spotAt spot (rest.take ((size + k * (spot % 2)) % 8)).length) ++ ([97 + (turn + 5 * k) % 26] ++ (rest.take ((size + k * (spot % 2)) % 8)).drop (spotAt spot (rest.take ((size + k * (spot % 2)) % 8)).length))
theorem mkL_inj {rest : List Nat} {spot turn size k1 k2 : Nat} (hs : spot < 3) (h1 : k1 < 26) (h2 : k2 < 26) (h : mkL rest spot turn size k1 = mkL rest spot turn size k2) : k1 = k2 := by
  have key : 97 + (turn + 5 * k1) % 26 = 97 + (turn + 5 * k2) % 26 → k1 = k2 := fun e => by omega
  apply key
  unfold mkL at h
  have cases3 : spot = 0 ∨ spot = 1 ∨ spot = 2 := by omega
  rcases cases3 with rfl | rfl | rfl
  · simp only [spotAt, if_true, List.take_zero, List.nil_append, List.cons_append] at h
    exact (List.cons.inj h).1
  · have n1 : ∀ l : List Nat, spotAt 1 l.length = l.length := fun l => rfl
    rw [n1, n1, List.take_length, List.take_length, List.drop_length, List.drop_length, List.append_nil, List.append_nil] at h
    exact (List.cons.inj (List.append_inj' h rfl).2).1
  · rw [show k1 * (2 % 2) = 0 from Nat.mul_zero _, show k2 * (2 % 2) = 0 from Nat.mul_zero _] at h
    have := List.append_cancel_left h
    exact (List.cons.inj this).1
theorem mkL_len {rest : List Nat} {spot turn size k : Nat} : (mkL rest spot turn size k).length = (rest.take ((size + k * (spot % 2)) % 8)).length + 1 := by
  unfold mkL
  generalize rest.take ((size + k * (spot % 2)) % 8) = l
  rw [List.length_append, List.length_append, List.length_take, List.length_drop, List.length_singleton]
  omega
theorem mkL_az {rest : List Nat} {spot turn size k : Nat} (h : ∀ c ∈ rest, az c) : ∀ c ∈ mkL rest spot turn size k, az c := by
  intro c hc
  unfold mkL at hc
  rcases List.mem_append.mp hc with q | q
  · exact h c (List.mem_of_mem_take (List.mem_of_mem_take q))
  · rcases List.mem_append.mp q with q | q
    · rw [List.mem_singleton.mp q]
      unfold az
      omega
    · exact h c (List.mem_of_mem_take (List.mem_of_mem_drop q))
def mkS (rest : List Nat) (spot turn size k : Nat) : Str := ⟨(mkL rest spot turn size k).toArray⟩
theorem cs_mkS {rest : List Nat} {spot turn size k : Nat} : cs (mkS rest spot turn size k) = mkL rest spot turn size k := rfl
def mkAll (rest : List Nat) (spot turn size n : Nat) : List Str := (List.range n).map (mkS rest spot turn size)
theorem mkAll_nodup {rest : List Nat} {spot turn size n : Nat} (hs : spot < 3) (hn : n ≤ 26) : (mkAll rest spot turn size n).Nodup := by
  unfold mkAll
  rw [List.Nodup, List.pairwise_map]
  refine List.Pairwise.imp_of_mem (fun {a b} ha hb hab e => hab ?_) (List.nodup_range (n := n))
  have ha' := List.mem_range.mp ha
  have hb' := List.mem_range.mp hb
  exact mkL_inj hs (by omega) (by omega) (by
    have := congrArg cs e
    exact this)
theorem mkAll_ltr {rest : List Nat} {spot turn size n : Nat} (h : ∀ c ∈ rest, az c) : ∀ w ∈ mkAll rest spot turn size n, Ltr w := by
  intro w hw
  obtain ⟨k, _, rfl⟩ := List.mem_map.mp hw
  refine ⟨fun c hc => mkL_az h c hc, ?_, ?_⟩
  · rw [cs_mkS, mkL_len]
    omega
  · rw [cs_mkS, mkL_len, List.length_take]
    omega
theorem joinL_nil : ∀ ls : List (List Nat), joinL [] ls = ls.flatten
  | [] => rfl
  | [p] => by simp [joinL]
  | p :: q :: r => by
    show p ++ ([] ++ joinL [] (q :: r)) = (p :: q :: r).flatten
    rw [joinL_nil (q :: r), List.nil_append]
    rfl
theorem flat_one : ∀ ds : List Nat, (ds.map fun c => [c]).flatten = ds
  | [] => rfl
  | d :: r => by
    show [d] ++ (r.map fun c => [c]).flatten = d :: r
    rw [flat_one r]
    rfl
theorem cs_join (ds : List Nat) : cs (Txt.join (Str.ofString "") (ds.map fun c => (⟨#[c]⟩ : Str))) = ds := by
  have h := tl_join (Str.ofString "") (ds.map fun c => (⟨#[c]⟩ : Str))
  rw [← join_eq, show tl (Str.ofString "") = [] from rfl, joinL_nil, List.map_map] at h
  exact h.trans (flat_one ds)
abbrev alpha : Str := Str.ofString "abcdefghijklmnopqrstuvwxyz"
theorem cs_alpha : cs alpha = (List.range 26).map (97 + ·) := by decide +kernel
theorem alpha_at {v : Nat} (h : v < 26) : atI (cs alpha) (v : Int) = some (97 + v) := by
  refine atI_nat ?_
  rw [cs_alpha, List.getElem?_map, List.getElem?_range h]
  rfl
theorem cs_app (x y : Str) : cs (x ++ y) = cs x ++ cs y := tl_append x y
theorem len_cs (x : Str) : x.length = (cs x).length := by simp [Str.length]
theorem cs_cut0 (x : Str) (n : Nat) : cs (cutS x none (some (n : Int))) = (cs x).take n := by
  unfold cutS
  rw [HT.sIx_none, HT.sIx_nat]
  show ((cs x).drop 0).take _ = _
  rw [List.drop_zero, Nat.sub_zero, List.take_eq_take_iff, len_cs]
  omega
theorem cs_cutF (x : Str) (n : Nat) : cs (cutS x (some (n : Int)) none) = (cs x).drop n := by
  unfold cutS
  rw [HT.sIx_none, HT.sIx_nat, len_cs]
  show ((cs x).drop _).take _ = _
  by_cases h : n ≤ (cs x).length
  · rw [Nat.min_eq_left h]
    exact List.take_of_length_le (by rw [List.length_drop]; exact Nat.le_refl _)
  · rw [Nat.min_eq_right (show (cs x).length ≤ n by omega), List.drop_of_length_le (Nat.le_refl _), List.drop_of_length_le (show (cs x).length ≤ n by omega), List.take_nil]
end Eh
set_option Elab.async false
set_option linter.all false
set_option maxRecDepth 100000
set_option maxHeartbeats 4000000
namespace Eh
open PySem PySem.Spec PyProof.Rows L2 Evl
abbrev lS (ws : List Str) : HO := .lst (ws.map V.str)
abbrev nLetters : List Str := ["pot", "many", "small", "k", "rest", "spot", "turn", "size", "found", "part", "at"]
theorem yesT {σ : L2.St} {H : Hp} {A B : Hp → Prop} (h : A H) : tYes σ H (fun b H3 => if b = true then A H3 else B H3) := by
  show if true = true then A H else B H
  exact iteT h
theorem Pot.ne_new {p c q : Addr} {ns : List Int} {H : Hp} (h : Pot p c ns H) (hq : H q = none) : p ≠ q ∧ c ≠ q := by
  obtain ⟨a, r, h0, h1, h2⟩ := h
  exact ⟨ne_of_none h1 hq, ne_of_none h2 hq⟩
section
variable {P : Program} {w : World} {K : PySem.W.Frag} {mg : Str → Option Value} {base : Heap}
def spLetters : Sp := fun vs H Q _ => ∃ (p c : Addr) (ns : List Int) (m : Nat), vs = [.ref p, .int (m : Int)] ∧ m ≤ 26 ∧ Pot p c ns H ∧
  ∀ (ws : List Str) l H', ws.length = m → ws.Nodup → (∀ x ∈ ws, Ltr x) → Keep p H H' → Pot p c ns H' → H l = none → H' l = some (lS ws) → Q (.ref l) H'
theorem ok_letters {f fP : Addr} {fd fdP : FuncData} {k : Nat} (F : Fun K "_law_letters" "_law_letters" sLetters f fd) (FP : Fun K "_law_pick" "_law_pick" sPick fP fdP) (GP : FnOk P w K mg base CX0 (k + 1) fP fdP ["pot", "many"] spPick) (bP : Binds K fdP ["pot", "many"] []) (gP : mg "_law_pick" = some (.ref fP)) (ml : mg "len" = none) (mr : mg "range" = none) :
    FnOk P w K mg base CX0 (k + 2) f fd ["pot", "many"] spLetters := by
  have nd := scLetters.nd
  refine F.ok scLetters (fun vs H Q E h => ?_) (fun cdv A outer s H vs Q E hr h => ?_)
  · obtain ⟨p, c, ns, m, rfl, _⟩ := h
    rfl
  · obtain ⟨p, c, ns, m, rfl, m1, hP, q⟩ := h
    refine ⟨_, pss_cons (ps_set (i := 2) nd rfl (.inr rfl) pe_str)
      (pss_cons (ps_set (i := 4) nd rfl (.inl rfl) (pe_join pe_str (pe_lc (own := [("k", 3)]) (g := gName 3) (tt := tYes) (by rfl) nd (pi_range1 (by rfl) mr (pa_cons pe_int pa_nil)) (blkOk_by (own := [("k", 3)]) (N := nLetters) (sc := defScope sLetters) (by decide +kernel)) (fun _ _ _ _ _ => pg_name (i := 3) nd rfl (Or.inl rfl)) (fun _ _ _ _ _ => pts_nil)
          (fun _ _ _ _ _ => pe_ix ix_str (pv 2) (pe_call GP hr (by rfl) gP FP.kp bP .nil pass0 (pa_cons (pv 0) (pa_cons pe_int pa_nil))) (fun _ _ => rfl)))))
      (pss_cons (ps_set (i := 5) nd rfl (.inl rfl) (pe_call GP hr (by rfl) gP FP.kp bP .nil pass0 (pa_cons (pv 0) (pa_cons pe_int pa_nil))))
      (pss_cons (ps_set (i := 6) nd rfl (.inl rfl) (pe_call GP hr (by rfl) gP FP.kp bP .nil pass0 (pa_cons (pv 0) (pa_cons pe_int pa_nil))))
      (pss_cons (ps_set (i := 7) nd rfl (.inl rfl) (pe_call GP hr (by rfl) gP FP.kp bP .nil pass0 (pa_cons (pv 0) (pa_cons pe_int pa_nil))))
      (pss_cons (ps_set (i := 8) nd rfl (.inl rfl) (pe_lst pa_nil))
      (pss_cons (ps_for PassesOwn.never rfl (pi_range1 (by rfl) mr (pa_cons (pv 1) pa_nil)) (pg_name (i := 3) nd rfl (.inl rfl))
        (pss_cons (ps_set (i := 9) nd rfl (.inl rfl) (pe_slice sl_str (pv 4) po_none (po_some (pe_op op_mod (pe_op op_add (pv 7) (pe_op op_mul (pv 3) (pe_op op_mod (pv 5) pe_int))) pe_int))))
        (pss_cons (ps_set (i := 10) nd rfl (.inl rfl) (pe_ix ix_list (pe_lst (pa_cons pe_int (pa_cons (pe_callB call_len_str (by rfl) ml PySem.boot_len (pa_cons (pv 9) pa_nil)) (pa_cons (pe_op op_fdiv (pe_callB call_len_str (by rfl) ml PySem.boot_len (pa_cons (pv 9) pa_nil)) pe_int) pa_nil)))) (pv 5) (fun _ _ => rfl)))
        (pss_one (ps_expr (pe_bm PySem.F.plainAttrs_list PySem.F.slot_list_append PySem.F.type_list_append mt_append (pv 8) (pa_cons (pe_op op_add_str (pe_op op_add_str (pe_slice sl_str (pv 9) po_none (po_some (pv 10))) (pe_ix ix_str (pv 2) (pe_op op_mod (pe_op op_add (pv 6) (pe_op op_mul pe_int (pv 3))) pe_int) (fun _ _ => rfl))) (pe_slice sl_str (pv 9) (po_some (pv 10)) po_none)) pa_nil)))))))
      (pss_one (ps_ret (pv 8))))))))), ?_⟩
    -- rest
    refine ⟨⟨_, rfl⟩, 7, rfl, by decide, by decide, fun D nD => ?_⟩
    refine lc_range (lo := 0) (n := 7) (fun i H' => ∃ ds : List Nat, ds.length = i ∧ (∀ d ∈ ds, az d) ∧ H' D = some (.lst (ds.map fun d => .str ⟨#[d]⟩)) ∧ Keep p H H' ∧ Pot p c ns H') ?_ ?_ ?_
    · exact ⟨[], rfl, fun d hd => (List.not_mem_nil hd).elim, upd_same, (Keep.refl p H).new nD, hP.new (hP.ne_new nD).1 (hP.ne_new nD).2⟩
    · rintro i H' hi ⟨ds, hds, haz, hD, kp, hP'⟩
      refine ⟨rfl, ?_⟩
      refine yesT ?_
      refine ⟨_, rfl, _, rfl, p, c, ns, 26, rfl, by decide, by decide, hP', fun v H2 hv kp2 hP2 => ?_⟩
      have hv' : v < 26 := by omega
      have hpD := (hP.ne_new nD).1
      have hD2 : H2 D = some (.lst (ds.map fun d => .str ⟨#[d]⟩)) := kp2 _ _ hpD.symm hD
      refine ⟨_, _, 97 + v, rfl, rfl, by decide, alpha_at hv', _, hD2, ?_, ds ++ [97 + v], ?_, ?_, ?_, ?_, ?_⟩
      · rw [List.length_map]
        exact sz_lt (by omega)
      · rw [List.length_append, hds]
        rfl
      · intro d hd
        rcases List.mem_append.mp hd with z | z
        · exact haz d z
        · rw [List.mem_singleton.mp z]
          unfold az
          omega
      · rw [upd_same, List.map_append]
        rfl
      · exact (kp.trans kp2).new nD
      · exact hP2.new hpD (hP.ne_new nD).2
    · rintro H1 ⟨ds, hds, haz, hD, kp, hP1⟩
      have hlen : ((ds.map fun d => (⟨#[d]⟩ : Str)).map (·.length)).sum ≤ 100 := by
        have : ∀ l : List Nat, ((l.map fun d => (⟨#[d]⟩ : Str)).map (·.length)).sum = l.length := fun l => by
          induction l with
          | nil => rfl
          | cons x r ih =>
            rw [List.map_cons, List.map_cons, List.sum_cons, ih, List.length_cons, show (⟨#[x]⟩ : Str).length = 1 from rfl]
            omega
        rw [this]
        omega
      refine ⟨_, D, ds.map fun d => (⟨#[d]⟩ : Str), rfl, rfl, .inl (sq_of (by rw [List.map_map]; exact hD)), ?_, ?_⟩
      · rw [List.length_map, show (Str.ofString "").length = 0 from rfl]
        omega
      · generalize hR : Txt.join (Str.ofString "") (ds.map fun d => (⟨#[d]⟩ : Str)) = rest
        have cR : cs rest = ds := by
          rw [← hR]
          exact cs_join ds
        -- spot, turn, size
        refine ⟨_, rfl, p, c, ns, 3, rfl, by decide, by decide, hP1, fun spot H2 hspot kp2 hP2 => ?_⟩
        refine ⟨_, rfl, p, c, ns, 26, rfl, by decide, by decide, hP2, fun turn H3 hturn kp3 hP3 => ?_⟩
        refine ⟨_, rfl, p, c, ns, 8, rfl, by decide, by decide, hP3, fun size H4 hsize kp4 hP4 => ?_⟩
        have kp04 : Keep p H H4 := ((kp.trans kp2).trans kp3).trans kp4
        refine ⟨Nat.zero_le _, fun l nl => ?_⟩
        have hpl := hP4.ne_new nl
        have nlH : H l = none := by
          cases e : H l with
          | none => rfl
          | some o =>
            by_cases z : l = p
            · exact absurd z.symm hpl.1
            · rw [kp04 l o z e] at nl
              cases nl
        refine ⟨_, rfl, m, rfl, by omega, by omega, for_range (lo := 0) (n := ((m : Int)).toNat) (fun i σ H' => (∃ y3 y9 y10, σ = [some (.ref p), some (.int (m : Int)), some (.str alpha), y3, some (.str rest), some (.int (spot : Int)), some (.int (turn : Int)), some (.int (size : Int)), some (.ref l), y9, y10]) ∧ Keep p H H' ∧ Pot p c ns H' ∧ H' l = some (lS (mkAll (cs rest) spot turn size i))) ?_ ?_ ?_⟩
        · exact ⟨⟨_, _, _, rfl⟩, kp04.new nlH, hP4.new hpl.1 hpl.2, upd_same⟩
        · rintro i σ H' hi ⟨⟨y3, y9, y10, rfl⟩, kp', hP', hl'⟩
          have hi' : i < m := by omega
          have e0 : (0 : Int) + (i : Int) = (i : Int) := Int.zero_add _
          rw [e0]
          have e1 : ((size : Int) + (i : Int) * ((spot : Int) % 2)) % 8 = (((size + i * (spot % 2)) % 8 : Nat) : Int) := by
            rw [show ((spot : Int) % 2) = ((spot % 2 : Nat) : Int) by omega, ← Int.natCast_mul]
            generalize i * (spot % 2) = z
            omega
          have lenR : rest.length ≤ sizeLine := sz_of (by rw [len_cs, cR]; omega)
          refine ⟨_, rfl, _, rfl, _, rfl, _, rfl, _, _, rfl, rfl, (by show (0 : Int) < _; decide), _, _, rfl, rfl, .inr (by rcases (show spot % 2 = 0 ∨ spot % 2 = 1 by omega) with z | z <;> exact ⟨by show -(2 ^ 64) < (spot : Int) % 2; omega, by show (spot : Int) % 2 < 2 ^ 64; omega⟩), _, _, rfl, rfl, _, _, rfl, rfl, (by show (0 : Int) < _; decide), _, rfl, rest, rfl, lenR, ?_⟩
          show tSeq _ _ _ [some (.ref p), some (.int (m : Int)), some (.str alpha), some (.int (i : Int)), some (.str rest), some (.int (spot : Int)), some (.int (turn : Int)), some (.int (size : Int)), some (.ref l), some (.str (cutS rest none (some (((size : Int) + (i : Int) * ((spot : Int) % 2)) % 8)))), y10] H'
          rw [e1]
          have cP := cs_cut0 rest ((size + i * (spot % 2)) % 8)
          generalize cutS rest none (some (((size + i * (spot % 2)) % 8 : Nat) : Int)) = part at cP
          have lp : part.length ≤ 8 := by
            rw [len_cs, cP, List.length_take, cR]
            omega
          have lpS : part.length ≤ sizeLine := sz_of (by omega)
          -- at
          refine ⟨_, rfl, part, rfl, lpS, _, rfl, part, rfl, lpS, _, _, rfl, rfl, ⟨by decide, by decide⟩, (by show 3 ≤ sizeLine; decide), fun t nt => ?_⟩
          have eT : Ex H' (upd H' t (.lst [.int 0, .int (part.length : Int), .int ((part.length : Int) / 2)])) := Ex.new nt
          refine ⟨_, rfl, t, _, _, .int (spotAt spot part.length : Nat), rfl, rfl, sq_of upd_same, at_of (j := spot) rfl ?_, ?_⟩
          · rcases (show spot = 0 ∨ spot = 1 ∨ spot = 2 by omega) with rfl | rfl | rfl
            · rfl
            · rfl
            · show some (V.int ((part.length : Int) / 2)) = some (V.int ((part.length / 2 : Nat) : Int))
              rw [show ((part.length / 2 : Nat) : Int) = (part.length : Int) / 2 by omega]
          -- append
          · have e2 : ((turn : Int) + 5 * (i : Int)) % 26 = (((turn + 5 * i) % 26 : Nat) : Int) := by omega
            have hlt : (turn + 5 * i) % 26 < 26 := Nat.mod_lt _ (by decide)
            have hat : atI (cs alpha) (((turn : Int) + 5 * (i : Int)) % 26) = some (97 + (turn + 5 * i) % 26) := by
              rw [e2]
              exact alpha_at hlt
            have hl2 := eT _ _ hl'
            have c1 := cs_cut0 part (spotAt spot part.length)
            have c2 := cs_cutF part (spotAt spot part.length)
            have k1 : (cutS part none (some ((spotAt spot part.length : Nat) : Int))).length ≤ 8 := by
              rw [len_cs, c1, List.length_take, ← len_cs]
              omega
            have k2 : (cutS part (some ((spotAt spot part.length : Nat) : Int)) none).length ≤ 8 := by
              rw [len_cs, c2, List.length_drop, ← len_cs]
              omega
            refine ⟨_, rfl, .inl ⟨rfl, _, sq_of hl2⟩, _, rfl, _, rfl, _, rfl, part, rfl, lpS, _, rfl, _, rfl, _, rfl, _, _, rfl, rfl, .inl ⟨by decide, by decide⟩, _, _, rfl, rfl, _, _, rfl, rfl, (by show (0 : Int) < _; decide), _, _, _, rfl, rfl, by decide, hat, _, _, rfl, rfl, ?_, _, rfl, _, rfl, _, rfl, part, rfl, lpS, _, _, rfl, rfl, ?_, l, _, _, rfl, rfl, hl2, ?_, ⟨_, _, _, rfl⟩, ?_, ?_, ?_⟩
            · exact sz_of (by
                have : (⟨#[97 + (turn + 5 * i) % 26]⟩ : Str).length = 1 := rfl
                omega)
            · exact sz_of (by
                rw [len_cs, cs_app, List.length_append, ← len_cs, ← len_cs]
                have : (⟨#[97 + (turn + 5 * i) % 26]⟩ : Str).length = 1 := rfl
                omega)
            · rw [List.length_map]
              exact sz_lt (by unfold mkAll; rw [List.length_map, List.length_range]; omega)
            · exact (kp'.trans (Keep.ofEx eT)).new nlH
            · exact (hP'.ex eT).new hpl.1 hpl.2
            · rw [upd_same]
              have e3 : cutS part none (some ((spotAt spot part.length : Nat) : Int)) ++ (⟨#[97 + (turn + 5 * i) % 26]⟩ : Str) ++ cutS part (some ((spotAt spot part.length : Nat) : Int)) none = mkS (cs rest) spot turn size i := by
                apply cs_ext
                rw [cs_app, cs_app, c1, c2, cs_mkS, len_cs, cP, List.append_assoc]
                rfl
              rw [e3]
              unfold lS mkAll
              rw [List.range_succ, List.map_append, List.map_append]
              rfl
        · rintro σ H' ⟨⟨y3, y9, y10, rfl⟩, kp', hP', hl'⟩
          refine ⟨_, rfl, q (mkAll (cs rest) spot turn size m) l H' ?_ (mkAll_nodup (by omega) m1) (mkAll_ltr (by rw [cR]; exact haz)) kp' hP' nlH ?_⟩
          · unfold mkAll
            rw [List.length_map, List.length_range]
          · rw [Int.toNat_natCast] at hl'
            exact hl'
end
end Eh
set_option Elab.async false
set_option linter.all false
set_option maxRecDepth 100000
set_option maxHeartbeats 4000000
namespace Eh
open PySem PySem.Spec PyProof.Rows L2 Evl
/-- a sheet: its opens, plains, closes -/
structure Sht (os ps qs : List Str) : Prop where
  nd : (os ++ ps ++ qs).Nodup
  lt : ∀ x ∈ os ++ ps ++ qs, Ltr x
  o1 : 1 ≤ os.length
  o4 : os.length ≤ 4
  p4 : ps.length ≤ 4
  c1 : 1 ≤ qs.length
  c4 : qs.length ≤ 4
def SheetAt (H : Hp) (s : Addr) (os ps qs : List Str) : Prop := ∃ ao ap ac, H s = some (.tup [.ref ao, .ref ap, .ref ac]) ∧ H ao = some (.tup (os.map V.str)) ∧ H ap = some (.tup (ps.map V.str)) ∧ H ac = some (.tup (qs.map V.str))
theorem Pot.ne_tup {p c a : Addr} {ns : List Int} {H : Hp} {xs : List V} (h : Pot p c ns H) (ha : H a = some (.tup xs)) : a ≠ p := fun e => by
  obtain ⟨_, _, _, h1, _⟩ := h
  rw [e, h1] at ha
  cases ha
theorem SheetAt.ex {H H' : Hp} {s : Addr} {os ps qs : List Str} (h : SheetAt H s os ps qs) (e : Ex H H') : SheetAt H' s os ps qs := by
  obtain ⟨ao, ap, ac, h0, h1, h2, h3⟩ := h
  exact ⟨ao, ap, ac, e _ _ h0, e _ _ h1, e _ _ h2, e _ _ h3⟩
theorem SheetAt.keep {H H' : Hp} {s p c : Addr} {ns : List Int} {os ps qs : List Str} (h : SheetAt H s os ps qs) (hP : Pot p c ns H) (k : Keep p H H') : SheetAt H' s os ps qs := by
  obtain ⟨ao, ap, ac, h0, h1, h2, h3⟩ := h
  exact ⟨ao, ap, ac, k _ _ (hP.ne_tup h0) h0, k _ _ (hP.ne_tup h1) h1, k _ _ (hP.ne_tup h2) h2, k _ _ (hP.ne_tup h3) h3⟩
theorem rot_nodup {L : List Str} (t : Nat) (h : L.Nodup) : (L.drop t ++ L.take t).Nodup := by
  refine (List.perm_append_comm.nodup_iff).mp ?_
  rw [List.take_append_drop]
  exact h
theorem rot_mem {L : List Str} {t : Nat} {x : Str} (h : x ∈ L.drop t ++ L.take t) : x ∈ L := by
  rcases List.mem_append.mp h with q | q
  · exact List.mem_of_mem_drop q
  · exact List.mem_of_mem_take q
theorem sub12 {L : List Str} {a b d : Nat} (ha : a ≤ 4) (hb : b ≤ 4) : ((L.take a) ++ (L.take (4 + b)).drop 4 ++ (L.take (8 + d)).drop 8).Sublist L := by
  have e : L = L.take 4 ++ (L.take 8).drop 4 ++ L.drop 8 := by
    have e1 : L.take 4 ++ (L.take 8).drop 4 = L.take 8 := by
      have := List.take_append_drop 4 (L.take 8)
      rw [List.take_take] at this
      exact this
    rw [e1, List.take_append_drop]
  have s1 : (L.take a).Sublist (L.take 4) := by
    have : L.take a = (L.take 4).take a := by rw [List.take_take, Nat.min_eq_left ha]
    rw [this]
    exact List.take_sublist _ _
  have s2 : ((L.take (4 + b)).drop 4).Sublist ((L.take 8).drop 4) := by
    refine List.Sublist.drop ?_ 4
    have : L.take (4 + b) = (L.take 8).take (4 + b) := by rw [List.take_take, Nat.min_eq_left (by omega)]
    rw [this]
    exact List.take_sublist _ _
  have s3 : ((L.take (8 + d)).drop 8).Sublist (L.drop 8) := List.Sublist.drop (List.take_sublist _ _) 8
  have := (s1.append s2).append s3
  rw [← e] at this
  exact this
theorem sht_of {L : List Str} (hn : L.Nodup) (hl : ∀ x ∈ L, Ltr x) (h12 : L.length = 12) {a b d : Nat} (a1 : 1 ≤ a) (a4 : a ≤ 4) (b4 : b ≤ 4) (d1 : 1 ≤ d) (d4 : d ≤ 4) : Sht (L.take a) ((L.take (4 + b)).drop 4) ((L.take (8 + d)).drop 8) := by
  refine ⟨(sub12 a4 b4).nodup hn, fun x hx => hl x ((sub12 a4 b4).subset hx), ?_, ?_, ?_, ?_, ?_⟩ <;> simp only [List.length_take, List.length_drop, h12] <;> omega
theorem menu1 {v : Nat} (h : v < 5) : ∃ x : Nat, ([.int 1, .int 1, .int 2, .int 2, .int 4] : List V)[v]? = some (.int (x : Int)) ∧ 1 ≤ x ∧ x ≤ 4 := by
  rcases (show v = 0 ∨ v = 1 ∨ v = 2 ∨ v = 3 ∨ v = 4 by omega) with rfl | rfl | rfl | rfl | rfl
  · exact ⟨1, rfl, by omega⟩
  · exact ⟨1, rfl, by omega⟩
  · exact ⟨2, rfl, by omega⟩
  · exact ⟨2, rfl, by omega⟩
  · exact ⟨4, rfl, by omega⟩
theorem menu0 {v : Nat} (h : v < 5) : ∃ x : Nat, ([.int 0, .int 1, .int 1, .int 2, .int 4] : List V)[v]? = some (.int (x : Int)) ∧ x ≤ 4 := by
  rcases (show v = 0 ∨ v = 1 ∨ v = 2 ∨ v = 3 ∨ v = 4 by omega) with rfl | rfl | rfl | rfl | rfl
  · exact ⟨0, rfl, by omega⟩
  · exact ⟨1, rfl, by omega⟩
  · exact ⟨1, rfl, by omega⟩
  · exact ⟨2, rfl, by omega⟩
  · exact ⟨4, rfl, by omega⟩
theorem minI (m x : Nat) : (if (x : Int) < (m : Int) then (x : Int) else (m : Int)) = ((min m x : Nat) : Int) := by
  split <;> omega
theorem map_cut0 (L : List Str) (n : Nat) : cutV (L.map V.str) none (some (n : Int)) = (L.take n).map V.str := by rw [cut0, List.map_take]
theorem map_cutF (L : List Str) (n : Nat) : cutV (L.map V.str) (some (n : Int)) none = (L.drop n).map V.str := by rw [cutF, List.map_drop]
theorem map_cutLH (L : List Str) (n m : Nat) : cutV (L.map V.str) (some (n : Int)) (some (m : Int)) = ((L.take m).drop n).map V.str := by rw [cutLH, List.map_drop, List.map_take]
theorem lS_ne {p c l : Addr} {ns : List Int} {H : Hp} {ws : List Str} (h : Pot p c ns H) (hl : H l = some (lS ws)) : l ≠ p := fun e => by
  obtain ⟨_, _, _, h1, _⟩ := h
  rw [e, h1] at hl
  injection hl with hl
  injection hl with hl
  cases ws <;> cases hl
theorem menu_rd {K : PySem.W.Frag} {p c : Addr} {ns : List Int} {H : Hp} {σ : L2.St} {xs : List V} {Q : VK} {ta : TA} {n : Int} (hP : Pot p c ns H) (hσ : σ[0]? = some (some (.ref p))) (n0 : 0 < n) (n1 : n < 1073741824) (hta : ∀ Q : List V → Hp → Prop, Q xs H → ta σ H Q) (hxs : xs.length ≤ 1000)
    (k : ∀ (v : Nat) H', (v : Int) < n → Keep p H H' → Pot p c ns H' → ∃ z, xs[v]? = some z ∧ Q z H') : tOp (rIxL K) (tLst ta) (tCall spPick [] E0 (tCons (tVar 0) (tCons (tC (.int n)) tNil))) σ H Q := by
  refine hta _ ⟨sz_of (by omega), fun t nt => ⟨_, hσ, p, c, ns, n, rfl, n0, n1, hP.ex (Ex.new nt), fun v H5 hv kp5 hP5 => ?_⟩⟩
  obtain ⟨z, hz, q⟩ := k v H5 hv ((Keep.ofEx (Ex.new nt)).trans kp5) hP5
  exact ⟨t, xs, (v : Int), z, rfl, rfl, sq_of (kp5 _ _ (hP.ne_new nt).1.symm upd_same), atI_nat hz, q⟩
section
variable {P : Program} {w : World} {K : PySem.W.Frag} {mg : Str → Option Value} {base : Heap}
def spSheet : Sp := fun vs H Q _ => ∃ (p c : Addr) (ns : List Int) (m : Nat), vs = [.ref p, .int (m : Int)] ∧ 1 ≤ m ∧ m ≤ 4 ∧ Pot p c ns H ∧
  ∀ (os ps qs : List Str) s H', Sht os ps qs → SheetAt H' s os ps qs → Keep p H H' → Pot p c ns H' → Q (.ref s) H'
theorem ok_sheet {f fP fL : Addr} {fd fdP fdL : FuncData} {k : Nat} (F : Fun K "_law_sheet" "_law_sheet" sSheet f fd) (FP : Fun K "_law_pick" "_law_pick" sPick fP fdP) (GP : FnOk P w K mg base CX0 (k + 1) fP fdP ["pot", "many"] spPick) (bP : Binds K fdP ["pot", "many"] []) (gP : mg "_law_pick" = some (.ref fP))
    (FL : Fun K "_law_letters" "_law_letters" sLetters fL fdL) (GL : FnOk P w K mg base CX0 (k + 2) fL fdL ["pot", "many"] spLetters) (bL : Binds K fdL ["pot", "many"] []) (gL : mg "_law_letters" = some (.ref fL)) (mm : mg "min" = none) (mt : mg "tuple" = none) :
    FnOk P w K mg base CX0 (k + 3) f fd ["pot", "most"] spSheet := by
  have nd := scSheet.nd
  refine F.ok scSheet (fun vs H Q E h => ?_) (fun cdv A outer s H vs Q E hr h => ?_)
  · obtain ⟨p, c, ns, m, rfl, _⟩ := h
    rfl
  · obtain ⟨p, c, ns, m, rfl, m1, m4, hP, q⟩ := h
    have hr1 : Room (k + 1) _ := hr.mono (Nat.le_succ _)
    refine ⟨_, pss_cons (ps_set (i := 2) nd rfl (.inl rfl) (pe_call GL hr (by rfl) gL FL.kp bL .nil pass0 (pa_cons (pv 0) (pa_cons pe_int pa_nil))))
      (pss_cons (ps_set (i := 3) nd rfl (.inl rfl) (pe_call GP hr1 (by rfl) gP FP.kp bP .nil pass0 (pa_cons (pv 0) (pa_cons pe_int pa_nil))))
      (pss_cons (ps_set (i := 2) nd rfl (.inl rfl) (pe_op op_cat (pe_slice sl_list (pv 2) (po_some (pv 3)) po_none) (pe_slice sl_list (pv 2) po_none (po_some (pv 3)))))
      (pss_cons (ps_set (i := 4) nd rfl (.inl rfl) (pe_slice sl_list (pv 2) po_none (po_some (pe_callB (call_min2 rfl) (by rfl) mm (by decide +kernel) (pa_cons (pv 1) (pa_cons (pe_ix ix_list (pe_lst (pa_cons pe_int (pa_cons pe_int (pa_cons pe_int (pa_cons pe_int (pa_cons pe_int pa_nil)))))) (pe_call GP hr1 (by rfl) gP FP.kp bP .nil pass0 (pa_cons (pv 0) (pa_cons pe_int pa_nil))) (fun _ _ => rfl)) pa_nil))))))
      (pss_cons (ps_set (i := 5) nd rfl (.inl rfl) (pe_slice sl_list (pv 2) (po_some pe_int) (po_some (pe_op op_add pe_int (pe_callB (call_min2 rfl) (by rfl) mm (by decide +kernel) (pa_cons (pv 1) (pa_cons (pe_ix ix_list (pe_lst (pa_cons pe_int (pa_cons pe_int (pa_cons pe_int (pa_cons pe_int (pa_cons pe_int pa_nil)))))) (pe_call GP hr1 (by rfl) gP FP.kp bP .nil pass0 (pa_cons (pv 0) (pa_cons pe_int pa_nil))) (fun _ _ => rfl)) pa_nil)))))))
      (pss_cons (ps_set (i := 6) nd rfl (.inl rfl) (pe_slice sl_list (pv 2) (po_some pe_int) (po_some (pe_op op_add pe_int (pe_callB (call_min2 rfl) (by rfl) mm (by decide +kernel) (pa_cons (pv 1) (pa_cons (pe_ix ix_list (pe_lst (pa_cons pe_int (pa_cons pe_int (pa_cons pe_int (pa_cons pe_int (pa_cons pe_int pa_nil)))))) (pe_call GP hr1 (by rfl) gP FP.kp bP .nil pass0 (pa_cons (pv 0) (pa_cons pe_int pa_nil))) (fun _ _ => rfl)) pa_nil)))))))
      (pss_one (ps_ret (pe_tup (pa_cons (pe_callTy call_tuple_of (by rfl) mt (by decide +kernel) (pa_cons (pv 4) pa_nil)) (pa_cons (pe_callTy call_tuple_of (by rfl) mt (by decide +kernel) (pa_cons (pv 5) pa_nil)) (pa_cons (pe_callTy call_tuple_of (by rfl) mt (by decide +kernel) (pa_cons (pv 6) pa_nil)) pa_nil)))))))))))  , ?_⟩
    refine ⟨_, rfl, p, c, ns, 12, rfl, by decide, hP, fun ws l H1 hlen hnd hlt kp1 hP1 nl hl => ?_⟩
    refine ⟨_, rfl, p, c, ns, 12, rfl, by decide, by decide, hP1, fun turn H2 hturn kp2 hP2 => ?_⟩
    have hl2 : H2 l = some (lS ws) := kp2 _ _ (lS_ne hP1 hl) hl
    refine ⟨_, rfl, _, rfl, _, rfl, l, _, rfl, sq_of hl2, fun u nu => ?_⟩
    have e2 : Ex H2 (upd H2 u (.lst (cutV (ws.map V.str) (some (turn : Int)) none))) := Ex.new nu
    refine ⟨_, rfl, _, rfl, _, rfl, l, _, rfl, sq_of (e2 _ _ hl2), fun u' nu' => ?_⟩
    have e3 : Ex H2 (upd (upd H2 u (.lst (cutV (ws.map V.str) (some (turn : Int)) none))) u' (.lst (cutV (ws.map V.str) none (some (turn : Int))))) := e2.trans (Ex.new nu')
    have nuu : u ≠ u' := ne_of_none upd_same nu'
    have hu3 : (upd (upd H2 u (.lst (cutV (ws.map V.str) (some (turn : Int)) none))) u' (.lst (cutV (ws.map V.str) none (some (turn : Int))))) u = some (.lst ((ws.drop turn).map V.str)) := by
      rw [upd_ne nuu, upd_same, map_cutF]
    have hu3' : (upd (upd H2 u (.lst (cutV (ws.map V.str) (some (turn : Int)) none))) u' (.lst (cutV (ws.map V.str) none (some (turn : Int))))) u' = some (.lst ((ws.take turn).map V.str)) := by
      rw [upd_same, map_cut0]
    generalize (upd (upd H2 u (.lst (cutV (ws.map V.str) (some (turn : Int)) none))) u' (.lst (cutV (ws.map V.str) none (some (turn : Int))))) = H3 at e3 hu3 hu3' ⊢
    have hLn : (ws.drop turn ++ ws.take turn).length = 12 := by
      rw [List.length_append, List.length_drop, List.length_take]
      omega
    refine ⟨u, u', _, _, rfl, rfl, hu3, hu3', ?_, fun r nr => ?_⟩
    · rw [← List.length_append, ← List.map_append, List.length_map]
      exact sz_of (by omega)
    rw [← List.map_append]
    have hLd := rot_nodup turn hnd
    have hLt : ∀ x ∈ ws.drop turn ++ ws.take turn, Ltr x := fun x hx => hlt x (rot_mem hx)
    generalize ws.drop turn ++ ws.take turn = L at hLn hLd hLt ⊢
    have hP3 := hP2.ex e3
    have e4 : Ex H3 (upd H3 r (lS L)) := Ex.new nr
    have hP4 := hP3.ex e4
    have kp4 : Keep p H (upd H3 r (lS L)) := ((kp1.trans kp2).trans (Keep.ofEx e3)).trans (Keep.ofEx e4)
    have hr4 : (upd H3 r (lS L)) r = some (lS L) := upd_same
    show tSeq _ _ _ [some (.ref p), some (.int (m : Int)), some (.ref r), some (.int (turn : Int)), none, none, none] (upd H3 r (lS L))
    generalize upd H3 r (lS L) = H4 at e4 hP4 kp4 hr4 ⊢
    -- opens
    refine ⟨_, rfl, _, rfl, menu_rd (xs := [.int 1, .int 1, .int 2, .int 2, .int 4]) hP4 rfl (by decide) (by decide) (fun Q z => z) (by decide) fun v H5 hv kp5 hP5 => ?_⟩
    obtain ⟨x, hx, x1, x4⟩ := menu1 (show v < 5 by omega)
    refine ⟨_, hx, _, _, rfl, _, rfl, r, _, rfl, sq_of (kp5 _ _ (lS_ne hP4 hr4) hr4), fun o no => ?_⟩
    rw [minI, map_cut0]
    have hr5 : H5 r = some (lS L) := kp5 _ _ (lS_ne hP4 hr4) hr4
    have e6 : Ex H5 (upd H5 o (lS (L.take (min m x)))) := Ex.new no
    have hP6 := hP5.ex e6
    have hr6 := e6 _ _ hr5
    have ho6 : (upd H5 o (lS (L.take (min m x)))) o = some (lS (L.take (min m x))) := upd_same
    have kp6 : Keep p H (upd H5 o (lS (L.take (min m x)))) := (kp4.trans kp5).trans (Keep.ofEx e6)
    show tSeq _ _ _ [some (.ref p), some (.int (m : Int)), some (.ref r), some (.int (turn : Int)), some (.ref o), none, none] (upd H5 o (lS (L.take (min m x))))
    generalize upd H5 o (lS (L.take (min m x))) = H6 at hP6 hr6 ho6 kp6 ⊢
    -- plains
    refine ⟨_, rfl, _, rfl, _, rfl, menu_rd (xs := [.int 0, .int 1, .int 1, .int 2, .int 4]) hP6 rfl (by decide) (by decide) (fun Q z => z) (by decide) fun v H7 hv kp7 hP7 => ?_⟩
    obtain ⟨y, hy, y4⟩ := menu0 (show v < 5 by omega)
    have hr7 : H7 r = some (lS L) := kp7 _ _ (lS_ne hP6 hr6) hr6
    have ho7 : H7 o = some (lS (L.take (min m x))) := kp7 _ _ (lS_ne hP6 ho6) ho6
    refine ⟨_, hy, _, _, rfl, _, _, rfl, rfl, _, rfl, r, _, rfl, sq_of hr7, fun u1 nu1 => ?_⟩
    have ey : (4 : Int) + (if (y : Int) < (m : Int) then (y : Int) else (m : Int)) = ((4 + min m y : Nat) : Int) := by
      rw [minI]
      omega
    rw [ey, show (some 4 : Option Int) = some ((4 : Nat) : Int) from rfl, map_cutLH]
    have e8 : Ex H7 (upd H7 u1 (lS ((L.take (4 + min m y)).drop 4))) := Ex.new nu1
    have hP8 := hP7.ex e8
    have hr8 := e8 _ _ hr7
    have ho8 := e8 _ _ ho7
    have hu8 : (upd H7 u1 (lS ((L.take (4 + min m y)).drop 4))) u1 = some (lS ((L.take (4 + min m y)).drop 4)) := upd_same
    have kp8 : Keep p H (upd H7 u1 (lS ((L.take (4 + min m y)).drop 4))) := (kp6.trans kp7).trans (Keep.ofEx e8)
    show tSeq _ _ _ [some (.ref p), some (.int (m : Int)), some (.ref r), some (.int (turn : Int)), some (.ref o), some (.ref u1), none] (upd H7 u1 (lS ((L.take (4 + min m y)).drop 4)))
    generalize upd H7 u1 (lS ((L.take (4 + min m y)).drop 4)) = H8 at hP8 hr8 ho8 hu8 kp8 ⊢
    -- closes
    refine ⟨_, rfl, _, rfl, _, rfl, menu_rd (xs := [.int 1, .int 1, .int 2, .int 2, .int 4]) hP8 rfl (by decide) (by decide) (fun Q z => z) (by decide) fun v H9 hv kp9 hP9 => ?_⟩
    obtain ⟨z, hz, z1, z4⟩ := menu1 (show v < 5 by omega)
    have hr9 : H9 r = some (lS L) := kp9 _ _ (lS_ne hP8 hr8) hr8
    have ho9 : H9 o = some (lS (L.take (min m x))) := kp9 _ _ (lS_ne hP8 ho8) ho8
    have hu9 := kp9 _ _ (lS_ne hP8 hu8) hu8
    refine ⟨_, hz, _, _, rfl, _, _, rfl, rfl, _, rfl, r, _, rfl, sq_of hr9, fun u2 nu2 => ?_⟩
    have ez : (8 : Int) + (if (z : Int) < (m : Int) then (z : Int) else (m : Int)) = ((8 + min m z : Nat) : Int) := by
      rw [minI]
      omega
    rw [ez, show (some 8 : Option Int) = some ((8 : Nat) : Int) from rfl, map_cutLH]
    have e10 : Ex H9 (upd H9 u2 (lS ((L.take (8 + min m z)).drop 8))) := Ex.new nu2
    have hP10 := hP9.ex e10
    have ho10 := e10 _ _ ho9
    have hu10 := e10 _ _ hu9
    have hv10 : (upd H9 u2 (lS ((L.take (8 + min m z)).drop 8))) u2 = some (lS ((L.take (8 + min m z)).drop 8)) := upd_same
    have kp10 : Keep p H (upd H9 u2 (lS ((L.take (8 + min m z)).drop 8))) := (kp8.trans kp9).trans (Keep.ofEx e10)
    refine ⟨_, rfl, o, _, rfl, .inl ⟨sq_of ho10, fun ao nao => ?_⟩⟩
    have f1 : Ex _ _ := Ex.new (o := .tup ((L.take (min m x)).map V.str)) nao
    refine ⟨_, rfl, u1, _, rfl, .inl ⟨sq_of (f1 _ _ hu10), fun ap nap => ?_⟩⟩
    have f2 : Ex _ _ := Ex.new (o := .tup (((L.take (4 + min m y)).drop 4).map V.str)) nap
    refine ⟨_, rfl, u2, _, rfl, .inl ⟨sq_of (f2 _ _ (f1 _ _ hv10)), fun ac nac => ?_⟩⟩
    have f3 : Ex _ _ := Ex.new (o := .tup (((L.take (8 + min m z)).drop 8).map V.str)) nac
    refine ⟨(by show 3 ≤ sizeLine; decide), fun sh nsh => ?_⟩
    have f4 : Ex _ _ := Ex.new (o := .tup [.ref ao, .ref ap, .ref ac]) nsh
    exact q _ _ _ sh _ (sht_of hLd hLt hLn (by omega) (by omega) (by omega) (by omega) (by omega)) ⟨ao, ap, ac, upd_same, f4 _ _ (f3 _ _ (f2 _ _ upd_same)), f4 _ _ (f3 _ _ upd_same), f4 _ _ upd_same⟩ (kp10.trans (Keep.ofEx (((f1.trans f2).trans f3).trans f4))) (hP10.ex (((f1.trans f2).trans f3).trans f4))
end
end Eh
set_option Elab.async false
set_option linter.all false
set_option maxRecDepth 100000
set_option maxHeartbeats 4000000
namespace Gx
open PySem PySem.Spec PyProof.Rows L2 GxR GenW
/-! all(e for x in xs), any(..): e any expression, also one that calls, also one that holds such again -/
/-- the context of a generator expression's own frame -/
abbrev gcx (X : Cx) (A : Around) (s : Shared) (H : Hp) (cenv : Env) (fp : List Addr) (pn : List (Addr × Obj)) : Cx := { X with A := A, s_0 := s, H_0 := H, env := cenv, outer := X.stack, stack := cenv :: X.stack, ex := fp, fn := fun _ => false, pn := pn, xe := fun _ _ => False }
abbrev gEnv (X : Cx) (scope : Scope) (C : Addr) (code : Value) : Env := genEnv scope (cloFrom X.env.cells scope.names []) C code builtinsNs X.env
theorem over_gen {A : Around} {elt target iter : Expr} {ifs : List Expr} {scope : Scope} {pos : Pos} {it acc : Value} {env : Env} : A.over (.compLoop (.GeneratorExp elt [⟨target, iter, ifs, 0⟩] scope pos) 0 it acc env) [] = A.deeper env := by
  first
    | rfl
    | (obtain ⟨hd, d, fr, gs, u⟩ := A; simp [Around.over, Around.deeper, marksOver, frameCount, unitsOf, envsOf, guardsOf, pushEnvs, pushGuards, Code.envs, Code.env?, Code.isFrame, Code.guards, Code.isGuard, Code.weight, Code.frames, Code.isCreation, Code.isCaller, Code.cUnits])
section
variable {X : Cx} {pins : List (Addr × Obj)} {σ : L2.St} {H : Hp} {s : Shared}
theorem gen_start {scope : Scope} {own : List (Str × Nat)} {fp : List Addr} {code : Value} {A : Around} {h5 : Heap} {tk : Nat} {gs : Array GenState} {m : Str → Option Value} {a : Addr} {go : Obj} (I : Inv X pins σ H s) (ok : BlkOk X.N X.env.scope scope own) (hN : X.N.Nodup) (hcell : ∀ y ∈ scope.names, y.2 ≠ .cell)
    (hfp : ∀ b ∈ fp, FpOk X pins H b ∧ b < s.heap.objs.size) (hA : A.handled = none) (hfr : A.frames = some (gEnv X scope s.heap.objs.size code :: X.stack)) (kp : ∀ b o, s.heap.get? b = some o → h5.get? b = some o) (hns : h5.Ns s.heap.objs.size m)
    (hgo : h5.get? a = some go) (ha : s.heap.objs.size < a) (hgd : ∀ v, go.data ≠ .cell v) (hb : AllBare gs) :
    Inv (gcx X A s H (gEnv X scope s.heap.objs.size code) fp [(a, go)]) [] (wipe σ (own.map (·.2))) H { s with heap := h5, gens := gs, toks := tk } := by
  have hfree : ∀ y ∈ scope.names, y.2 = .free → ∃ c, X.env.cells.lookup y.1 = some c := fun y hy e => by
    rcases ok.free y hy e with k | k
    · exact I.ok.has _ (.inl k)
    · exact I.ok.has _ (.inr k)
  generalize hcenv : gEnv X scope s.heap.objs.size code = cenv at hfr
  have hL : cenv.locals = s.heap.objs.size := by rw [← hcenv]; rfl
  have hcl : cenv.cells = cloFrom X.env.cells scope.names [] := by rw [← hcenv]; rfl
  have hsc : cenv.scope = scope := by rw [← hcenv]; rfl
  have hF : cenv.frame = some cenv.locals := by rw [← hcenv]; rfl
  have cm : ∀ {y c}, (y, c) ∈ cloFrom X.env.cells scope.names [] → X.env.cells.lookup y = some c ∧ c < s.heap.objs.size := fun {y c} hm => by
    rcases cloFrom_mem hm with hm | ⟨h1, rfl⟩
    · cases hm
    · obtain ⟨c, hc⟩ := hfree _ h1 rfl
      rw [hc]
      obtain ⟨w, z⟩ := I.cell _ _ hc
      exact ⟨rfl, z.lt⟩
  have mem : ∀ {y c}, cenv.cells.lookup y = some c → X.env.cells.lookup y = some c ∧ c < s.heap.objs.size := fun {y c} e => by
    rw [hcl] at e
    exact cm (PySem.mem_of_lookup e)
  have look : ∀ {y}, scope.names.lookup y = some .free → ∃ c, cenv.cells.lookup y = some c ∧ X.env.cells.lookup y = some c := fun {y} hl => by
    have hy : (y, NameKind.free) ∈ scope.names := PySem.mem_of_lookup hl
    obtain ⟨c', e'⟩ := mem_lookup (cloFrom_has (cells := X.env.cells) (acc := []) hy)
    rw [← hcl] at e'
    exact ⟨c', e', (mem e').1⟩
  have kindf : ∀ {y}, (cenv.kindOf y = some .cell ∨ cenv.kindOf y = some .free) → scope.names.lookup y = some .free := fun {y} hy => by
    unfold Env.kindOf at hy
    rw [hsc] at hy
    rcases hy with hy | hy
    · exact absurd rfl (hcell _ (PySem.mem_of_lookup hy))
    · exact hy
  have okB : (gcx X A s H cenv fp [(a, go)]).Ok := by
    refine ⟨I.ok.mod, by show cenv.scope.kind = _; rw [hsc]; exact ok.kind, by show cenv.globals = _; rw [← hcenv]; exact I.ok.glob, by show cenv.builtins = _; rw [← hcenv]; rfl, by show s.heap.objs.size ≤ cenv.locals; rw [hL]; exact Nat.le_refl _,
      fun y z c e1 e2 => ?_, fun y hy => ?_, fun y c z e => absurd z Bool.false_ne_true, fun _ => hA, hfr, .inr ⟨rfl, hF⟩, fun b hb => ⟨?_, fun y c e z => ?_⟩, I.bs, Nat.le_trans I.ok.bsz I.sz, fun b o e hb => ?_, fun b hb z => ?_, I.stack, I.stkFree⟩
    · exact I.ok.inj y z c (mem (show cenv.cells.lookup y = some c from e1)).1 (mem (show cenv.cells.lookup z = some c from e2)).1
    · obtain ⟨c, h1, _⟩ := look (kindf hy)
      exact ⟨c, h1⟩
    · show b ≠ cenv.locals
      rw [hL]; exact Nat.ne_of_lt (hfp b hb).2
    · exact (hfp b hb).1.2.2.2.2.1 y c (mem (show cenv.cells.lookup y = some c from e)).1 z
    · rcases (hfp b hb).1.2.2.2.1 with z | z
      · exact I.ok.noex b o e z
      · exact absurd (Nat.lt_of_lt_of_le (Heap.lt_size e) (Nat.le_trans I.ok.bsz z)) (Nat.lt_irrefl _)
    · rcases List.mem_cons.mp (I.stkSub b z) with z | z
      · exact (hfp b hb).1.2.1 z
      · exact (hfp b hb).1.2.2.1 z
  refine ⟨okB, rfl, hb, Un.kept kp, ⟨m, ?_, fun i y av e1 e2 e3 => ?_⟩, fun y c e => ?_, ?_, fun y c e => ?_, fun p hp => ?_, I.hok.kept kp, by rw [wipe_length]; exact I.len⟩
  · show Heap.Ns _ cenv.locals _
    rw [hL]
    exact hns
  · obtain ⟨e2, hne⟩ := wipe_some e2
    have hfr : scope.names.lookup y = some .free := by
      have e3 : Vis cenv.scope y := e3
      rw [hsc] at e3
      rcases e3 with e3 | e3 | e3
      · rcases ok.own _ (PySem.mem_of_lookup e3) (.inl rfl) with e' | e'
        · obtain ⟨p, hp, hpy⟩ := List.mem_map.mp e'
          have e4 := ok.ix p hp
          have : p.1 = y := hpy
          rw [this] at e4
          exact absurd (List.mem_map.mpr ⟨p, hp, nodup_ix hN e4 e1⟩) hne
        · exact absurd (List.mem_of_getElem? e1) e'
      · exact absurd rfl (hcell _ (PySem.mem_of_lookup e3))
      · exact e3
    obtain ⟨m', hn, hl⟩ := I.loc
    have hvis : Vis X.env.scope y := (ok.free _ (PySem.mem_of_lookup hfr) rfl).elim (fun k => .inr (.inl k)) (fun k => .inr (.inr k))
    obtain ⟨w, r, q⟩ := hl i y av e1 e2 hvis
    refine ⟨w, r, .inr ⟨.inr (by show cenv.scope.names.lookup y = _; rw [hsc]; exact hfr), ?_⟩⟩
    obtain ⟨c, h1, h2⟩ := look hfr
    rcases q with ⟨k, _⟩ | ⟨_, c', e', z⟩
    · have k : X.env.scope.names.lookup y = some .local := k
      rcases ok.free _ (PySem.mem_of_lookup hfr) rfl with k' | k' <;> rw [show X.env.scope.names.lookup y = _ from k'] at k <;> cases k
    · rw [h2] at e'; cases e'
      exact ⟨c, h1, z.keeps kp⟩
  · obtain ⟨w, z⟩ := I.cell y c (mem (show cenv.cells.lookup y = some c from e)).1
    exact ⟨w, z.keeps kp⟩
  · show H cenv.locals = none
    rw [hL]; exact I.hok.fresh (Nat.le_refl _)
  · exact I.freeC y c (mem (show cenv.cells.lookup y = some c from e)).1
  · have hp' : p = (a, go) := by
      have : p ∈ [(a, go)] ++ [] := hp
      rw [List.append_nil] at this
      exact List.mem_singleton.mp this
    subst hp'
    refine ⟨hgo, I.hok.fresh (Nat.le_of_lt ha), ?_, ?_, hgd⟩
    · show a ≠ cenv.locals
      rw [hL]; exact Nat.ne_of_gt ha
    · show a ∉ frs X.stack
      intro z
      rcases List.mem_cons.mp (I.stkSub a z) with z | z
      · exact absurd (Nat.lt_trans I.lt ha) (by rw [z]; exact Nat.lt_irrefl _)
      · exact I.nofs (Nat.le_of_lt ha) z
end
end Gx
set_option Elab.async false
set_option linter.all false
set_option maxRecDepth 100000
set_option maxHeartbeats 4000000
namespace Gx
open PySem PySem.Spec PyProof.Rows L2 GxR GenW
/-- the state behind s1 for the def around: H' stands there, whatever the consumer does to the generators -/
def Out (X : Cx) (pins : List (Addr × Obj)) (σ : L2.St) (H' : Hp) (s1 : Shared) : Prop := ∀ s' : Shared, s'.os = s1.os → AllBare s'.gens → (∀ b o, s1.heap.get? b = some o → s'.heap.get? b = some o) → Inv X pins σ H' s'
/-- the generator sleeps at a turn -/
def gY (X : Cx) (pins : List (Addr × Obj)) (σ : L2.St) (stop : Bool) (Q : VK) (a : Addr) (g : Nat) : Protocol := fun n s₀ v s1 kap =>
  ∃ b : Bool, v = .bool b ∧ s1.heap.IsGen a g ∧ s1.heap.NoLimit ∧ AllBare s1.gens ∧ (b = stop → ∃ H', Out X pins σ H' s1 ∧ Q (.bl stop) H') ∧ (b ≠ stop → ∀ s' : Shared, s'.heap = s1.heap → s'.os = s1.os → AllBare s'.gens → kap (.send .none) s')
def gF (X : Cx) (pins : List (Addr × Obj)) (σ : L2.St) (stop : Bool) (Q : VK) : Nat → Shared → Shared → Prop := fun _ _ s1 => AllBare s1.gens ∧ ∃ H', Out X pins σ H' s1 ∧ Q (.bl (!stop)) H'
def gR (X : Cx) (pins : List (Addr × Obj)) (σ : L2.St) (stop : Bool) (Q : VK) : GenEnd := fun n s₀ r s₁ => ((r = .ok (.ret .none) ∨ r = .ok .next) ∧ gF X pins σ stop Q n s₀ s₁) ∨ ∃ e, r = .error e ∧ (fun (_ : Value) (_ : Shared) => False) e s₁
section
variable {X : Cx} {pins : List (Addr × Obj)} {σ : L2.St} {H : Hp} {s : Shared}
theorem gen_loop {elt tg iter : Expr} {scope : Scope} {pos : Pos} {it : Addr} {B : Around} {s4 : Shared} {H4 : Hp} {cenv : Env} {fp vs : List Addr} {a : Addr} {g : Nat} {go : Obj} {tn : Nat → Heap → Prop} {J : It} {gt : TG} {te : TE} {stop : Bool} {Q : VK} {W : Nat → Nat → Hp → Prop}
    (hc : X.calm = true) (I4 : Inv X pins σ H4 s4) (f4 : ∀ b ∈ fp, FpOk X pins H4 b ∧ b < s4.heap.objs.size) (T : Turn X.prog X.w X.K tg J fp it tn) (hgen : ∀ h : Heap, h.get? a = some go → h.IsGen a g) (hco : cenv.scope.isCoroutine = false) (hag : s4.heap.objs.size ≤ a)
    (pg : PG (gcx X (B.deeper cenv) s4 H4 cenv fp [(a, go)]) tg gt) (pe : PE (gcx X (B.deeper cenv) s4 H4 cenv fp [(a, go)]) elt te)
    (turn : ∀ i m H, W i m H → (J.stop i H ∧ Q (.bl (!stop)) H) ∨ (J.go i H ∧ ∀ x H', J.yld i H x H' → gt x (wipe σ vs) H' fun σ2 H2 => wipe σ2 vs = wipe σ vs ∧ te σ2 H2 fun y H3 => ∃ b, y = .bl b ∧ if b = stop then Q (.bl stop) H3 else ∃ m', m' < m ∧ W (i + 1) m' H3)) :
    ∀ (n i m : Nat) (s₀ s : Shared) (H' : Hp), m < n → Inv (gcx X (B.deeper cenv) s4 H4 cenv fp [(a, go)]) [] (wipe σ vs) H' s → tn i s.heap → (∀ b ∈ fp, H' b = none) → W i m H' →
      Seg (model X.prog X.w) B (gR X pins σ stop Q) (gY X pins σ stop Q a g) n s₀ (.compLoop (.GeneratorExp elt [⟨tg, iter, [], 0⟩] scope pos) 0 (.ref it) .none cenv)
        ((model X.prog X.w).den (.compLoop (.GeneratorExp elt [⟨tg, iter, [], 0⟩] scope pos) 0 (.ref it) .none cenv)) [] s := by
  have ov : B.over (.compLoop (.GeneratorExp elt [⟨tg, iter, [], 0⟩] scope pos) 0 (.ref it) .none cenv) [] = B.deeper cenv := over_gen
  have out : ∀ {H' : Hp} {σ' : L2.St} {pl : List (Addr × Obj)} {s1 : Shared}, Inv (gcx X (B.deeper cenv) s4 H4 cenv fp [(a, go)]) pl σ' H' s1 → Out X pins σ H' s1 := fun {H' σ' pl s1} J1 s' ho hb hk =>
    I4.call' (ch := fp) (ho.trans J1.os) (J1.base.trans (Un.kept hk)) (J1.hok.kept hk) hb fun b hb => ⟨(f4 b hb).1.2.2.2.1, (f4 b hb).1.2.1, (f4 b hb).1.2.2.2.2.1, (f4 b hb).1.2.2.2.2.2⟩
  have isg : ∀ {H' : Hp} {σ' : L2.St} {pl : List (Addr × Obj)} {s1 : Shared}, Inv (gcx X (B.deeper cenv) s4 H4 cenv fp [(a, go)]) pl σ' H' s1 → s1.heap.IsGen a g := fun {H' σ' pl s1} J1 =>
    hgen _ (J1.pin (a, go) (List.mem_append_left _ (List.mem_singleton.mpr rfl))).1
  have stat : ∀ {σ' : L2.St} {H' : Hp} {s' : Shared}, Inv (gcx X (B.deeper cenv) s4 H4 cenv fp [(a, go)]) [] σ' H' s' → (∀ b ∈ fp, H' b = none) → ∀ b ∈ fp, FpOk (gcx X (B.deeper cenv) s4 H4 cenv fp [(a, go)]) [] H' b := fun {σ' H' s'} I' hn b hb =>
    ⟨hn b hb, (I'.ok.exf b hb).1, I'.ok.exfs b hb, .inl hb, fun x c e => (I'.ok.exf b hb).2 x c e, fun p hp => by
      have hp' : p = (a, go) := by
        have : p ∈ [(a, go)] ++ [] := hp
        rw [List.append_nil] at this
        exact List.mem_singleton.mp this
      rw [hp']
      exact Nat.ne_of_gt (Nat.lt_of_lt_of_le (f4 b hb).2 hag)⟩
  intro n
  induction n with
  | zero => exact fun i m s₀ s H' h => absurd h (Nat.not_lt_zero _)
  | succ n ih =>
    intro i m s₀ s H' hm I st nf w
    show Seg _ B _ _ _ s₀ _ ((compTurn (.GeneratorExp elt [⟨tg, iter, [], 0⟩] scope pos) 0 (.ref it) .none cenv).onRaise (leaving cenv)) [] s
    rw [compTurn_gen, Sem.onRaise_eq_wrap]
    refine seg_bind_wrap (wpAny_standAt ?_)
    rcases turn i m H' w with ⟨stp, qq⟩ | ⟨goes, step⟩
    · have td := T.done (gcx X (B.deeper cenv) s4 H4 cenv fp [(a, go)]) rfl rfl rfl hc i [] s _ H' (fun _ _ => False) I (stat I nf) st stp
      refine seg_bind_wrap ?_
      rw [ov]
      refine thnF td fun r s6 ⟨hr, I6⟩ => ?_
      subst hr
      exact seg_end (.ok .next) (.inl ⟨.inr rfl, I6.bare, H', out I6, qq⟩)
    · have ti := T.item (gcx X (B.deeper cenv) s4 H4 cenv fp [(a, go)]) rfl rfl rfl hc i [] s _ H' (fun _ _ => False) I (stat I nf) st goes
      refine seg_bind_wrap ?_
      rw [ov]
      refine thnF ti fun r s6 ⟨u, hr, h6⟩ => ?_
      subst hr
      refine seg_bind_wrap ?_
      rw [ov]
      refine thnF h6 fun _ s7 ⟨x, H7, I7, r7, y7, st7, n7⟩ => ?_
      have I7' := I7.pinned (stat I7 n7) (T.obj _ _ st7)
      refine seg_bind_wrap ?_
      rw [ov]
      refine thnF (pg.run _ s7 _ H7 x u _ I7' r7 (step x H7 y7)) fun _ s8 ⟨σ8, H8, I8, hw8, q8⟩ => ?_
      refine seg_bind_wrap ?_
      rw [ov]
      refine wpAny_tests_nil ?_
      simp only [if_true]
      have hy : ∀ v, yieldOut cenv v = yieldValue v := fun v => by simp only [yieldOut, hco, Bool.false_eq_true, if_false]
      simp only [hy]
      rw [Sem.bind_eq_wrap', Sem.bind_eq_wrap', Sem.wrap_wrap, Sem.wrap_wrap]
      refine seg_wrap ?_
      rw [ov]
      refine thnF (pe.run _ s8 σ8 H8 _ I8 q8) fun z s10 ⟨yv, H10, I10, r10, b, eb, q10⟩ => ?_
      subst eb
      obtain rfl : z = Value.bool b := r10
      have pin' : ∀ b ∈ fp, ∀ o, s7.heap.get? b = some o → s10.heap.get? b = some o ∧ H10 b = none := fun b hb o e =>
        let z := I10.pin (b, o) (List.mem_append_right _ (List.mem_append_right _ (mem_pinsAt hb e)))
        ⟨z.1, z.2.1⟩
      have hl : (wipe σ vs).length = σ8.length := by rw [← hw8, wipe_length]
      have I11 : Inv (gcx X (B.deeper cenv) s4 H4 cenv fp [(a, go)]) [] (wipe σ vs) H10 s10 := (I10.unpinned (pins := [])).weak hl (fun j v e => by rw [← hw8] at e; exact (wipe_some e).1)
      refine seg_at (seg_yield rfl rfl rfl ⟨b, rfl, isg I11, I11.nolimit, I11.bare, fun hb => ?_, fun hb s' eh eo hbare => ?_⟩)
      · rw [if_pos hb] at q10
        exact ⟨H10, out I11, q10⟩
      · rw [if_neg hb] at q10
        obtain ⟨m', hm', w'⟩ := q10
        have I12 : Inv (gcx X (B.deeper cenv) s4 H4 cenv fp [(a, go)]) [] (wipe σ vs) H10 s' := I11.call' (ch := []) eo (Un.kept fun b o e => by rw [eh]; exact e) (I11.hok.kept fun b o e => by rw [eh]; exact e) hbare (fun b z => absurd z (by simp))
        refine seg_again rfl (ih (i + 1) m' s' s' H10 (by omega) I12 (T.keep _ _ _ st7 fun b hb o e => by rw [eh]; exact (pin' b hb o e).1) (fun b hb => ?_) w')
        obtain ⟨o, e, _⟩ := T.obj _ _ st7 b hb
        exact (pin' b hb o e).2
end
end Gx
set_option Elab.async false
set_option linter.all false
set_option maxRecDepth 100000
set_option maxHeartbeats 4000000
namespace Gx
open PySem PySem.Spec PyProof.Rows L2 GxR GenW
/-- a generator that sleeps, ready for n more turns -/
def GSt (X : Cx) (pins : List (Addr × Obj)) (σ : L2.St) (B : Around) (stop : Bool) (Q : VK) (a : Addr) (g n : Nat) (s : Shared) : Prop :=
  s.heap.IsGen a g ∧ s.heap.NoLimit ∧ AllBare s.gens ∧ ∃ gs, s.gens[g]? = some gs ∧ ∀ s'' : Shared, s''.heap = s.heap → s''.os = s.os → AllBare s''.gens → gs.Goes (model X.prog X.w) B (gR X pins σ stop Q) (gY X pins σ stop Q a g) n (.send .none) s''
section
variable {X : Cx} {pins : List (Addr × Obj)} {σ : L2.St} {A : Around} {R : Result → Shared → Prop} {Q : VK} {a : Addr} {g : Nat}
theorem all_loop (hh : A.handled = none) (hd : A.depth < recursionLimit) (hR : ∀ u s', EP X pins σ Q u s' → R (.ok (.ret u)) s') : ∀ (n : Nat) (s : Shared), GSt X pins σ A.in1.in1 false Q a g n s →
    codeAny (model X.prog X.w) A (.builtin "all.loop" ⟨[.ref a], []⟩) R s := by
  intro n
  induction n with
  | zero =>
    intro s ⟨hg, hl, hba, gs, hgs, hgo⟩
    refine codeAny_builtin F.entry_all_loop ?_
    rw [Around.under_plainId F.plain_all_loop _]
    show wpAny _ A.in1 (pyNext (.ref a) >>= _) _ _ s
    refine wpAny_bind (next_genG (A := A.in1) (F := gF X pins σ false Q) (Er := fun _ _ => False) hh hl hd hg hgs (hgo _ rfl rfl (allBare_setGen hba rfl)) (fun v s₁ gs' hbare hv => ?_) (fun s₁ hp h' hk => ?_) fun e s₁ he => he.elim)
    · obtain ⟨b, rfl, hg1, hl1, hb1, h1, h2⟩ := hv
      cases b with
      | true => exact (h2 (by decide) _ rfl rfl hb1).elim
      | false =>
        obtain ⟨H', o1, q1⟩ := h1 rfl
        refine wpAny_bind (wpAny_holding (wpAny_truthy_bool ?_))
        refine wpAny_bind (wpAny_letGo ?_)
        simp only [Bool.false_eq_true, if_false]
        exact wpAny_bind (wpAny_rule (wpAny_pure (hR _ _ ⟨.bl false, H', o1 _ rfl (allBare_setGen hb1 hbare) fun b o e => e, rfl, q1⟩)))
    · obtain ⟨hb1, H', o1, q1⟩ := hp
      exact wpAny_bind (wpAny_rule (wpAny_pure (hR _ _ ⟨.bl true, H', o1 _ rfl (allBare_setGen hb1 rfl) hk, rfl, q1⟩)))
  | succ n ih =>
    intro s ⟨hg, hl, hba, gs, hgs, hgo⟩
    have hgl : g < s.gens.size := (Array.getElem?_eq_some_iff.mp hgs).1
    refine codeAny_builtin F.entry_all_loop ?_
    rw [Around.under_plainId F.plain_all_loop _]
    show wpAny _ A.in1 (pyNext (.ref a) >>= _) _ _ s
    refine wpAny_bind (wpAny_gsz (n := g + 1) hgl (next_genG (A := A.in1) (F := gF X pins σ false Q) (Er := fun _ _ => False) hh hl hd hg hgs (hgo _ rfl rfl (allBare_setGen hba rfl)) (fun v s₁ gs' hbare hv => ?_) (fun s₁ hp h' hk => ?_) fun e s₁ he => he.elim))
    · intro hsz
      obtain ⟨b, rfl, hg1, hl1, hb1, h1, h2⟩ := hv
      have hsz1 : g < s₁.gens.size := by
        have q : (s₁.setGen g gs').gens.size = s₁.gens.size := setGen_size _ _ _
        have hsz' : g + 1 ≤ (s₁.setGen g gs').gens.size := hsz
        omega
      refine wpAny_bind (wpAny_holding (wpAny_truthy_bool ?_))
      refine wpAny_bind (wpAny_letGo ?_)
      cases b with
      | true =>
        simp only [if_true]
        refine wpAny_pure ⟨plainId_quiet F.plain_all_loop _, ih (s₁.setGen g gs') ⟨hg1, hl1, allBare_setGen hb1 hbare, gs', setGen_at hsz1, fun s'' eh eo hb => ?_⟩⟩
        exact h2 (by decide) s'' eh eo hb
      | false =>
        obtain ⟨H', o1, q1⟩ := h1 rfl
        simp only [Bool.false_eq_true, if_false]
        exact wpAny_bind (wpAny_rule (wpAny_pure (hR _ _ ⟨.bl false, H', o1 _ rfl (allBare_setGen hb1 hbare) fun b o e => e, rfl, q1⟩)))
    · intro hsz
      obtain ⟨hb1, H', o1, q1⟩ := hp
      exact wpAny_bind (wpAny_rule (wpAny_pure (hR _ _ ⟨.bl true, H', o1 _ rfl (allBare_setGen hb1 rfl) hk, rfl, q1⟩)))
theorem any_loop (hh : A.handled = none) (hd : A.depth < recursionLimit) (hR : ∀ u s', EP X pins σ Q u s' → R (.ok (.ret u)) s') : ∀ (n : Nat) (s : Shared), GSt X pins σ A.in1.in1 true Q a g n s →
    codeAny (model X.prog X.w) A (.builtin "any.loop" ⟨[.ref a], []⟩) R s := by
  intro n
  induction n with
  | zero =>
    intro s ⟨hg, hl, hba, gs, hgs, hgo⟩
    refine codeAny_builtin F.entry_any_loop ?_
    rw [Around.under_plainId F.plain_any_loop _]
    show wpAny _ A.in1 (pyNext (.ref a) >>= _) _ _ s
    refine wpAny_bind (next_genG (A := A.in1) (F := gF X pins σ true Q) (Er := fun _ _ => False) hh hl hd hg hgs (hgo _ rfl rfl (allBare_setGen hba rfl)) (fun v s₁ gs' hbare hv => ?_) (fun s₁ hp h' hk => ?_) fun e s₁ he => he.elim)
    · obtain ⟨b, rfl, hg1, hl1, hb1, h1, h2⟩ := hv
      cases b with
      | false => exact (h2 (by decide) _ rfl rfl hb1).elim
      | true =>
        obtain ⟨H', o1, q1⟩ := h1 rfl
        refine wpAny_bind (wpAny_holding (wpAny_truthy_bool ?_))
        refine wpAny_bind (wpAny_letGo ?_)
        simp only [if_true]
        exact wpAny_bind (wpAny_rule (wpAny_pure (hR _ _ ⟨.bl true, H', o1 _ rfl (allBare_setGen hb1 hbare) fun b o e => e, rfl, q1⟩)))
    · obtain ⟨hb1, H', o1, q1⟩ := hp
      exact wpAny_bind (wpAny_rule (wpAny_pure (hR _ _ ⟨.bl false, H', o1 _ rfl (allBare_setGen hb1 rfl) hk, rfl, q1⟩)))
  | succ n ih =>
    intro s ⟨hg, hl, hba, gs, hgs, hgo⟩
    have hgl : g < s.gens.size := (Array.getElem?_eq_some_iff.mp hgs).1
    refine codeAny_builtin F.entry_any_loop ?_
    rw [Around.under_plainId F.plain_any_loop _]
    show wpAny _ A.in1 (pyNext (.ref a) >>= _) _ _ s
    refine wpAny_bind (wpAny_gsz (n := g + 1) hgl (next_genG (A := A.in1) (F := gF X pins σ true Q) (Er := fun _ _ => False) hh hl hd hg hgs (hgo _ rfl rfl (allBare_setGen hba rfl)) (fun v s₁ gs' hbare hv => ?_) (fun s₁ hp h' hk => ?_) fun e s₁ he => he.elim))
    · intro hsz
      obtain ⟨b, rfl, hg1, hl1, hb1, h1, h2⟩ := hv
      have hsz1 : g < s₁.gens.size := by
        have q : (s₁.setGen g gs').gens.size = s₁.gens.size := setGen_size _ _ _
        have hsz' : g + 1 ≤ (s₁.setGen g gs').gens.size := hsz
        omega
      refine wpAny_bind (wpAny_holding (wpAny_truthy_bool ?_))
      refine wpAny_bind (wpAny_letGo ?_)
      cases b with
      | false =>
        simp only [Bool.false_eq_true, if_false]
        refine wpAny_pure ⟨plainId_quiet F.plain_any_loop _, ih (s₁.setGen g gs') ⟨hg1, hl1, allBare_setGen hb1 hbare, gs', setGen_at hsz1, fun s'' eh eo hb => ?_⟩⟩
        exact h2 (by decide) s'' eh eo hb
      | true =>
        obtain ⟨H', o1, q1⟩ := h1 rfl
        simp only [if_true]
        exact wpAny_bind (wpAny_rule (wpAny_pure (hR _ _ ⟨.bl true, H', o1 _ rfl (allBare_setGen hb1 hbare) fun b o e => e, rfl, q1⟩)))
    · intro hsz
      obtain ⟨hb1, H', o1, q1⟩ := hp
      exact wpAny_bind (wpAny_rule (wpAny_pure (hR _ _ ⟨.bl false, H', o1 _ rfl (allBare_setGen hb1 rfl) hk, rfl, q1⟩)))
end
end Gx
set_option Elab.async false
set_option linter.all false
set_option maxRecDepth 100000
set_option maxHeartbeats 4000000
namespace Gx
open PySem PySem.Spec PyProof.Rows L2 GxR GenW
/-- what a generator expression's reading asks, its iterator at hand: P the running def's table -/
def gTurns (stop : Bool) (P : Addr) (gt : TG) (te : TE) (vs : List Nat) (σ : L2.St) (Q : VK) (J : It) (H1 : Hp) : Prop := TabG H1 P ∧ ∀ H2, Tabbed P H1 H2 → ∃ W : Nat → Nat → Hp → Prop, (∃ m, W 0 m H2) ∧
  ∀ i m H, W i m H → (J.stop i H ∧ Q (.bl (!stop)) H) ∨ (J.go i H ∧ ∀ x H', J.yld i H x H' → gt x (wipe σ vs) H' fun σ2 H2 => wipe σ2 vs = wipe σ vs ∧ te σ2 H2 fun y H3 => ∃ b, y = .bl b ∧ if b = stop then Q (.bl stop) H3 else ∃ m', m' < m ∧ W (i + 1) m' H3)
section
variable {X : Cx} {pins : List (Addr × Obj)} {σ : L2.St} {H : Hp} {s : Shared}
theorem gen_make {c P : Addr} {elt tg iter : Expr} {scope : Scope} {own : List (Str × Nat)} {gpos : Pos} {wi : TI} {gt : TG} {te : TE} {stop : Bool} {Q : VK} {Q' : Value → Shared → Prop} {k : Nat}
    (hc : X.calm = true) (hN : X.N.Nodup) (hr : Room (k + 1) X.A) (TB : TabB X.base X.mg c P) (hcode : X.env.code = .ref c) (ok : BlkOk X.N X.env.scope scope own) (hcell : ∀ y ∈ scope.names, y.2 ≠ .cell) (hdot : scope.names.lookup (".0" : Str) = some NameKind.local) (hco : scope.isCoroutine = false)
    (hi : PI X tg iter wi) (hg : ∀ A s H C code fp pn, PG (gcx X A s H (gEnv X scope C code) fp pn) tg gt) (he : ∀ A s H C code fp pn, Room k A → PE (gcx X A s H (gEnv X scope C code) fp pn) elt te)
    (hs : ∀ v, genFold iter X.env v = pure v) (I : Inv X pins σ H s) (h : wi σ H (gTurns stop P gt te (own.map (·.2)) σ Q))
    (hQ : ∀ a g n s5, GSt X pins σ X.A.in1.in1 stop Q a g n s5 → Q' (.ref a) s5) :
    wpAny (model X.prog X.w) X.A (eval (.GeneratorExp elt [⟨tg, iter, [], 0⟩] scope gpos) X.env) Q' X.xe s := by
  have hfree : ∀ y ∈ scope.names, y.2 = .free → ∃ c, X.env.cells.lookup y.1 = some c := fun y hy e => by
    rcases ok.free y hy e with k | k
    · exact I.ok.has _ (.inl k)
    · exact I.ok.has _ (.inr k)
  refine wpAny_GeneratorExp_make hco (closure_ok hfree) hcell hdot ok.kind hr.depth (thn (hi.run pins s σ H _ I h) fun xv s1 hx => thn hx fun itv s2 h2 => ?_) hs
  obtain ⟨it, fp, tn, J, H2, e, I2, T, st2, f2, ⟨ps, hP, htr⟩, q⟩ := h2
  subst e
  have hPs : s2.heap.get? P = some { cls := .none, data := .fields ps } := I2.hok P _ hP
  have hPlt : P < s2.heap.objs.size := Heap.lt_size hPs
  have cd : PySem.W.CodeHd s2.heap c P := TB.code.keeps fun b u e => I2.bk b u e
  have nP : ∀ b ∈ fp, b ≠ P := fun b hb z => by
    have := (f2 b hb).1
    rw [z, hP] at this
    cases this
  have sz : ∀ b ∈ fp, b < s2.heap.objs.size := fun b hb => by
    obtain ⟨o, e, _⟩ := T.obj _ _ st2 b hb
    exact Heap.lt_size e
  have cont : ∀ (code : Value) (h3 : Heap) (tk : Nat) (ps' : Array Value), Heap.ExtBut P s2.heap h3 → s2.heap.objs.size ≤ h3.objs.size → h3.get? P = some { cls := .none, data := .fields ps' } → (∃ more, ps' = ps ++ more) → TriplesOk ps'.toList →
      wpAny (model X.prog X.w) X.A (builtinsFor X.env.globals X.env.builtins) (fun bi s₄ => ∀ h', h'.Ns s₄.heap.objs.size (fun y => if y = ".0" then some (.ref it) else none) → Heap.SameBut s₄.heap.objs.size (s₄.heap.push { cls := .type "frame", data := .dict #[] }) h' →
          Q' (.ref h'.objs.size) { s₄ with
            gens := s₄.gens.push (.fresh (.compStart (.GeneratorExp elt [⟨tg, iter, [], 0⟩] scope gpos) 0 (.ref it) .none (genEnv scope (cloFrom X.env.cells scope.names []) s₄.heap.objs.size code bi X.env))),
            toks := s₄.toks + 1 + 1 + 1,
            heap := h'.push { cls := .type "generator", data := .fields #[.int s₄.gens.size 0, .str "<genexpr>" (s₄.toks + 1), .str (X.env.qual ++ "<genexpr>") (s₄.toks + 1 + 1)] } }) X.xe { s2 with heap := h3, toks := tk } := by
    rintro code h3 tk ps' hx hsz hP3 ⟨more, rfl⟩ ht3
    obtain ⟨bm, ob, e1, e2, e3, e4, e5, e6, e7, e8⟩ := TB.bm
    have keep3 : ∀ b u, b ≠ P → s2.heap.get? b = some u → h3.get? b = some u := fun b u hb e => hx b u hb e
    have J4 : Inv X pins σ (upd H2 P (.tbl (ps ++ more))) { s2 with heap := h3, toks := tk } := inv_tab (g' := s2.gens) (d' := s2.drawn) I2 hP keep3 hP3 I2.bare
    refine wpAny_builtinsFor (m := X.mg) (by rw [I2.ok.glob]; exact (I2.mod.glob.keeps I2.bk).extBut hx TB.gP) e1 e2 (keep3 _ _ e4 (I2.bk _ _ e5)) e6 e7 e8 ?_
    intro h' hn' hs'
    have hsz' : h'.objs.size = h3.objs.size + 1 := by rw [hs'.1, Heap.size_push]
    have keep' : ∀ b o, h3.get? b = some o → h'.get? b = some o := fun b o e => hs'.extBut b o (Nat.ne_of_lt (Heap.lt_size e)) (Heap.get?_push_of_some _ e)
    generalize hgo : ({ cls := .type "generator", data := .fields #[.int s2.gens.size 0, .str "<genexpr>" (tk + 1), .str (X.env.qual ++ "<genexpr>") (tk + 1 + 1)] } : Obj) = go
    have keep5 : ∀ b o, h3.get? b = some o → (h'.push go).get? b = some o := fun b o e => Heap.get?_push_of_some _ (keep' b o e)
    have hat : (h'.push go).get? h'.objs.size = some go := Heap.get?_push_size _ (by rw [← hgo]; rfl)
    have hgen : ∀ hh : Heap, hh.get? h'.objs.size = some go → hh.IsGen h'.objs.size s2.gens.size := fun hh e => ⟨go, _, _, e, by rw [← hgo], by rw [← hgo], by rw [← hgo]⟩
    have hTab : Tabbed P H2 (upd H2 P (.tbl (ps ++ more))) := ⟨⟨ps ++ more, upd_same, ht3⟩, fun b hb => upd_ne hb⟩
    obtain ⟨W, ⟨m0, w0⟩, turn⟩ := q _ hTab
    have f4 : ∀ b ∈ fp, FpOk X pins (upd H2 P (.tbl (ps ++ more))) b ∧ b < h3.objs.size := fun b hb => ⟨⟨by rw [upd_ne (nP b hb)]; exact (f2 b hb).1, (f2 b hb).2⟩, Nat.lt_of_lt_of_le (sz b hb) hsz⟩
    have st5 : tn 0 (h'.push go) := T.keep _ _ _ st2 fun b hb o e => keep5 b o (keep3 b o (nP b hb) e)
    refine hQ h'.objs.size s2.gens.size (m0 + 1) _ ⟨hgen _ hat, J4.nolimit.keeps keep5, I2.bare.push rfl, _, Array.getElem?_push_size .., fun s'' eh eo hb => ⟨rfl, ?_⟩⟩
    have hB : X.A.in1.in1.handled = none := hr.hd
    have J5 := gen_start (code := code) (A := X.A.in1.in1.deeper (gEnv X scope h3.objs.size code)) (h5 := h'.push go) (tk := tk + 1 + 1 + 1) (gs := s2.gens.push (.fresh (.compStart (.GeneratorExp elt [⟨tg, iter, [], 0⟩] scope gpos) 0 (.ref it) .none (gEnv X scope h3.objs.size code)))) (a := h'.objs.size) (go := go) J4 ok hN hcell f4 hB
      (Around.frames_deeper (show X.A.in1.in1.frames = some X.stack from I2.ok.frames)) keep5 (hn'.push _) hat (show h3.objs.size < h'.objs.size by omega) (fun v z => by rw [← hgo] at z; cases z) (I2.bare.push rfl)
    have J6 : Inv _ [] _ _ s'' := J5.call' (ch := []) eo (Un.kept fun b o e => by rw [eh]; exact e) (J5.hok.kept fun b o e => by rw [eh]; exact e) hb (fun b z => absurd z (by simp))
    have hrB : Room k (X.A.in1.in1.deeper (gEnv X scope h3.objs.size code)) := ⟨hr.hd, by have := hr.dp; show X.A.depth + 1 + 3 * k + 5 < _; omega, by have := hr.un; show X.A.units + 1 + 1 + 3 + 16 * k + 200 < _; omega⟩
    have loop := gen_loop (iter := iter) (scope := scope) (pos := gpos) (B := X.A.in1.in1) (stop := stop) (Q := Q) (vs := own.map (·.2)) hc J4 f4 T hgen (show (gEnv X scope h3.objs.size code).scope.isCoroutine = false from hco) (show h3.objs.size ≤ h'.objs.size by omega) (hg _ _ _ _ _ _ _) (he _ _ _ _ _ _ _ hrB) turn (m0 + 1) 0 m0 s'' s'' _ (Nat.lt_succ_self _) J6 (by rw [eh]; exact st5) (fun b hb => (f4 b hb).1.1) w0
    show Seg _ X.A.in1.in1 _ _ _ s'' _ ((compStart (.GeneratorExp elt [⟨tg, iter, [], 0⟩] scope gpos) 0 (.ref it) .none (gEnv X scope h3.objs.size code)).onRaise (leaving (gEnv X scope h3.objs.size code))) [] s''
    unfold compStart
    rw [Sem.onRaise_eq_wrap]
    show Seg _ X.A.in1.in1 _ _ _ s'' _ ((ask >>= _).wrap _ _ _ _) [] s''
    refine seg_bind_wrap (wpAny_askSetting ?_)
    have stS : tn 0 s''.heap := by rw [eh]; exact st5
    split
    · exact seg_again rfl loop
    · first
        | exact seg_bind_wrap (wpAny_rule (seg_bind_wrap (wpAny_standAt (seg_bind_wrap (T.self _ 0 s'' _ _ stS (seg_again rfl loop))))))
        | (refine seg_bind_wrap (wpAny_rule ?_); show Seg _ X.A.in1.in1 _ _ _ s'' _ ((standAt iter.pos >>= _).wrap _ _ _ _) [] s''; exact seg_bind_wrap (wpAny_standAt (seg_bind_wrap (T.self _ 0 s'' _ _ stS (seg_again rfl loop)))))
  refine ⟨I2.nolimit, ?_⟩
  cases hf : codeAmong gpos ps.toList with
  | none =>
    refine wpAny_genexprCodeX hcode (cd.code hPs htr) (cd.tab hPs) hf fun c' h' tk hx hge hlt hco' _ htab' _ => ?_
    obtain ⟨o1, vs, f1, tf, fl, tg, inF, tx, tt, op, _, _, _, _, _, _, _, _, _, htr', _⟩ := hco'
    exact cont _ h' tk _ hx (Nat.le_trans hge (Nat.le_of_lt hlt)) htab'.2 ⟨_, rfl⟩ htr'
  | some cv =>
    refine wpAny_genexprCode_hit hcode (cd.code hPs htr) hf ?_
    exact cont cv s2.heap s2.toks ps (Heap.ExtBut.refl _ _) (Nat.le_refl _) hPs ⟨#[], by simp⟩ htr
end
end Gx
set_option Elab.async false
set_option linter.all false
set_option maxRecDepth 100000
set_option maxHeartbeats 4000000
namespace Gx
open PySem PySem.Spec PyProof.Rows L2 GxR GenW
/-- all(e for x in xs): the reading -/
def tGx (stop : Bool) (P : Addr) (wi : TI) (gt : TG) (te : TE) (vs : List Nat) : TE := fun σ H Q => wi σ H (gTurns stop P gt te vs σ Q)
section
variable {X : Cx}
theorem pe_allG {c P : Addr} {elt tg iter : Expr} {scope : Scope} {own : List (Str × Nat)} {gpos p pos : Pos} {wi : TI} {gt : TG} {te : TE} {k : Nat}
    (hc : X.calm = true) (hN : X.N.Nodup) (hr : Room (k + 1) X.A) (hg0 : Gl X "all") (hm : X.mg "all" = none) (TB : TabB X.base X.mg c P) (hcode : X.env.code = .ref c) (hi : PI X tg iter wi) (ok : BlkOk X.N X.env.scope scope own) (hcell : ∀ y ∈ scope.names, y.2 ≠ .cell)
    (hdot : scope.names.lookup (".0" : Str) = some NameKind.local) (hg : ∀ A s H C code fp pn, PG (gcx X A s H (gEnv X scope C code) fp pn) tg gt) (he : ∀ A s H C code fp pn, Room k A → PE (gcx X A s H (gEnv X scope C code) fp pn) elt te)
    (hs : ∀ v, genFold iter X.env v = pure v := by intro _; rfl) (hco : scope.isCoroutine = false := by rfl)
    (he0 : starEach [.GeneratorExp elt [⟨tg, iter, [], 0⟩] scope gpos] X.env = (false, eval (.GeneratorExp elt [⟨tg, iter, [], 0⟩] scope gpos) X.env) :: starEach [] X.env := by rfl) :
    PE X (.Call (.Name "all" p) [.GeneratorExp elt [⟨tg, iter, [], 0⟩] scope gpos] [] pos) (tGx false P wi gt te (own.map (·.2))) := by
  refine ⟨fun pins s σ H Q I h => ?_⟩
  refine wpAny_Call_Name_kw (ld_blt I hg0 hm (show bootBuiltins "all" = some (.builtin "all") by decide +kernel) ?_)
  refine PyProof.Rows.callWith_builtin1 ?_ he0 (by rfl)
  rw [he0]
  show wpAny _ _ (spliced ((false, eval (.GeneratorExp elt [⟨tg, iter, [], 0⟩] scope gpos) X.env) :: backTo pos (starEach [] X.env))) _ _ s
  refine Calls.spliced_cons (gen_make (stop := false) (Q := Q) hc hN hr TB hcode ok hcell hdot hco hi hg he hs I h fun a g n s5 hG => ?_)
  refine Calls.spliced_nil ?_
  refine call_function_tree F.kind_all F.plain_all F.entry_all (F.args_all1 _) ?_
  unfold Builtin.«all»
  refine wpAny_bind (m := oneArg "all" _) (wpAny_pure ?_)
  obtain ⟨hg1, hl1, hb1, hrest⟩ := hG
  refine wpAny_bind ?_
  refine wpAny_pyIter_gen hg1 ?_
  exact wpAny_pure ⟨plainId_quiet F.plain_all_loop _, all_loop hr.hd hr.depth (fun u s' z => z) n s5 ⟨hg1, hl1, hb1, hrest⟩⟩
theorem pe_anyG {c P : Addr} {elt tg iter : Expr} {scope : Scope} {own : List (Str × Nat)} {gpos p pos : Pos} {wi : TI} {gt : TG} {te : TE} {k : Nat}
    (hc : X.calm = true) (hN : X.N.Nodup) (hr : Room (k + 1) X.A) (hg0 : Gl X "any") (hm : X.mg "any" = none) (TB : TabB X.base X.mg c P) (hcode : X.env.code = .ref c) (hi : PI X tg iter wi) (ok : BlkOk X.N X.env.scope scope own) (hcell : ∀ y ∈ scope.names, y.2 ≠ .cell)
    (hdot : scope.names.lookup (".0" : Str) = some NameKind.local) (hg : ∀ A s H C code fp pn, PG (gcx X A s H (gEnv X scope C code) fp pn) tg gt) (he : ∀ A s H C code fp pn, Room k A → PE (gcx X A s H (gEnv X scope C code) fp pn) elt te)
    (hs : ∀ v, genFold iter X.env v = pure v := by intro _; rfl) (hco : scope.isCoroutine = false := by rfl)
    (he0 : starEach [.GeneratorExp elt [⟨tg, iter, [], 0⟩] scope gpos] X.env = (false, eval (.GeneratorExp elt [⟨tg, iter, [], 0⟩] scope gpos) X.env) :: starEach [] X.env := by rfl) :
    PE X (.Call (.Name "any" p) [.GeneratorExp elt [⟨tg, iter, [], 0⟩] scope gpos] [] pos) (tGx true P wi gt te (own.map (·.2))) := by
  refine ⟨fun pins s σ H Q I h => ?_⟩
  refine wpAny_Call_Name_kw (ld_blt I hg0 hm (show bootBuiltins "any" = some (.builtin "any") by decide +kernel) ?_)
  refine PyProof.Rows.callWith_builtin1 ?_ he0 (by rfl)
  rw [he0]
  show wpAny _ _ (spliced ((false, eval (.GeneratorExp elt [⟨tg, iter, [], 0⟩] scope gpos) X.env) :: backTo pos (starEach [] X.env))) _ _ s
  refine Calls.spliced_cons (gen_make (stop := true) (Q := Q) hc hN hr TB hcode ok hcell hdot hco hi hg he hs I h fun a g n s5 hG => ?_)
  refine Calls.spliced_nil ?_
  refine call_function_tree F.kind_any F.plain_any F.entry_any (F.args_any1 _) ?_
  unfold Builtin.«any»
  refine wpAny_bind (m := oneArg "any" _) (wpAny_pure ?_)
  obtain ⟨hg1, hl1, hb1, hrest⟩ := hG
  refine wpAny_bind ?_
  refine wpAny_pyIter_gen hg1 ?_
  exact wpAny_pure ⟨plainId_quiet F.plain_any_loop _, any_loop hr.hd hr.depth (fun u s' z => z) n s5 ⟨hg1, hl1, hb1, hrest⟩⟩
end
end Gx
set_option Elab.async false
set_option linter.all false
set_option maxRecDepth 100000
set_option maxHeartbeats 4000000
namespace Gx
open PySem PySem.Spec PyProof.Rows L2 GxR Evl
/-! a def whose code object is known -/
structure FunC (K : PySem.W.Frag) (x qual : Str) (st : Stmt) (f : Addr) (fd : FuncData) (c : Addr) : Prop where
  fc : ∃ (oc : Value) (od : Option Addr) (kV doc pm : Value) (an : Option Addr) (ct : Value) (osl : Array (Option Value)), fd = PySem.W.fnOf x qual (defArgs st) (defBody st) (defScope st) .none kV doc pm an (.ref c) ct ∧ K.lookup f = some ⟨oc, od, .func fd, osl⟩ ∧ PySem.W.codeIn K (.ref c) qual = true
  kp : PySem.W.keepIn K (.ref f) = true
section
variable {P : Program} {w : World} {K : PySem.W.Frag} {mg : Str → Option Value} {base : Heap}
theorem FunC.okC {x qual : Str} {st : Stmt} {f c : Addr} {fd : FuncData} {N ps : List Str} {k : Nat} {sp : Sp} (F : FunC K x qual st f fd c) (S : FnScope N ps (defScope st)) (len : ∀ vs H Q E, sp vs H Q E → vs.length = ps.length)
    (body : ∀ (A : Around) (outer : List Env) (s : Shared) (H : Hp) (vs : List V) (Q : VK) (E : XK), Room k (A.deeper (envOfC qual (defScope st) s.heap.objs.size f (.ref c))) → sp vs H Q E →
      ∃ t, PSs (cxOf CX0 P w K mg base N qual (defScope st) f (.ref c) A outer s H E).nox (defBody st) t ∧ t { nx := fun _ H' => Q .non H', rt := Q } (start N vs) H) : FnOk P w K mg base CX0 (k + 1) f fd ps sp := by
  obtain ⟨_, _, _, _, _, _, _, _, rfl, h1, h2⟩ := F.fc
  refine fn_of h1 h2 S len fun A outer s H vs Q E hr h => ?_
  obtain ⟨t, a, b⟩ := body A outer s H vs Q E hr h
  exact ⟨t, a.nox, b⟩
theorem FunC.toFun {x qual : Str} {st : Stmt} {f c : Addr} {fd : FuncData} (F : FunC K x qual st f fd c) : Fun K x qual st f fd := by
  obtain ⟨oc, od, kV, doc, pm, an, ct, osl, e, h1, h2⟩ := F.fc
  exact ⟨⟨oc, od, kV, doc, pm, an, _, ct, osl, e, h1, h2⟩, F.kp⟩
end
/-! heaps in which tables grow -/
/-- all that was tracked is as it was, but tables of code objects may have grown -/
structure ET (H H' : Hp) : Prop where
  obj : ∀ b o, H b = some o → (∃ ps, o = .tbl ps) ∨ H' b = some o
  tab : ∀ P, TabG H P → TabG H' P
theorem ET.refl (H : Hp) : ET H H := ⟨fun _ _ h => .inr h, fun _ h => h⟩
theorem ET.trans {H H1 H2 : Hp} (a : ET H H1) (b : ET H1 H2) : ET H H2 := ⟨fun c o h => (a.obj c o h).elim .inl fun z => b.obj c o z, fun P h => b.tab P (a.tab P h)⟩
theorem ET.of {H H' : Hp} (e : Ex H H') : ET H H' := ⟨fun b o h => .inr (e b o h), fun P ⟨ps, h, t⟩ => ⟨ps, e _ _ h, t⟩⟩
theorem ET.grown {P : Addr} {H H' : Hp} (h : TabG H P) (t : Tabbed P H H') : ET H H' := by
  refine ⟨fun b o e => ?_, fun R hR => ?_⟩
  · by_cases hb : b = P
    · obtain ⟨ps, hp, _⟩ := h
      rw [hb, hp] at e
      exact .inl ⟨ps, (Option.some.inj e).symm⟩
    · exact .inr (by rw [t.2 b hb]; exact e)
  · by_cases hb : R = P
    · rw [hb]
      exact t.1
    · obtain ⟨ps, hp, z⟩ := hR
      exact ⟨ps, by rw [t.2 R hb]; exact hp, z⟩
theorem ET.lst {H H' : Hp} (e : ET H H') {a : Addr} {xs : List V} (h : H a = some (.lst xs)) : H' a = some (.lst xs) := (e.obj _ _ h).elim (fun ⟨_, z⟩ => by cases z) id
theorem ET.tup {H H' : Hp} (e : ET H H') {a : Addr} {xs : List V} (h : H a = some (.tup xs)) : H' a = some (.tup xs) := (e.obj _ _ h).elim (fun ⟨_, z⟩ => by cases z) id
/-! the readings of all(..), any(..) by the walked thing -/
section
variable {K : PySem.W.Frag} {P a : Addr} {gt : TG} {te : TE} {vs : List Nat} {σ : L2.St} {Q : VK} {H1 : Hp} {stop : Bool}
theorem gx_by {J : It} {n : Nat} (hT : TabG H1 P) (Pv : Nat → Hp → Prop) (h0 : ∀ H2, Tabbed P H1 H2 → Pv 0 H2) (hstop : ∀ H, Pv n H → J.stop n H) (hgo : ∀ i H, i < n → Pv i H → J.go i H)
    (hs : ∀ i x H H' (N : Hp → Prop), (∀ H3, Pv (i + 1) H3 → N H3) → i < n → Pv i H → J.yld i H x H' → gt x (wipe σ vs) H' fun σ2 H2 => wipe σ2 vs = wipe σ vs ∧ te σ2 H2 fun y H3 => ∃ b, y = .bl b ∧ if b = stop then Q (.bl stop) H3 else N H3)
    (hd : ∀ H, Pv n H → Q (.bl (!stop)) H) : gTurns stop P gt te vs σ Q J H1 := by
  refine ⟨hT, fun H2 t => ⟨fun i m H => i + m = n ∧ Pv i H, ⟨n, Nat.zero_add _, h0 H2 t⟩, ?_⟩⟩
  rintro i m H ⟨e, p⟩
  cases m with
  | zero =>
    have e' : i = n := by omega
    subst e'
    exact .inl ⟨hstop H p, hd H p⟩
  | succ m => exact .inr ⟨hgo i H (by omega) p, fun x H' y => hs i x H H' _ (fun H3 q => ⟨m, Nat.lt_succ_self _, by omega, q⟩) (by omega) p y⟩
theorem gx_tup {xs : List V} (hT : TabG H1 P) (Pv : Nat → Hp → Prop) (h0 : ∀ H2, Tabbed P H1 H2 → Pv 0 H2) (hl : ∀ i H, Pv i H → SqT K H a xs)
    (hs : ∀ i x H (N : Hp → Prop), (∀ H3, Pv (i + 1) H3 → N H3) → xs[i]? = some x → Pv i H → gt x (wipe σ vs) H fun σ2 H2 => wipe σ2 vs = wipe σ vs ∧ te σ2 H2 fun y H3 => ∃ b, y = .bl b ∧ if b = stop then Q (.bl stop) H3 else N H3)
    (hd : ∀ H, Pv xs.length H → Q (.bl (!stop)) H) : gTurns stop P gt te vs σ Q (Itt K a) H1 :=
  gx_by hT Pv h0 (fun H p => ⟨xs, hl _ H p, Nat.le_refl _⟩) (fun i H hi p => ⟨xs, xs[i], hl _ H p, List.getElem?_eq_getElem hi⟩) (fun i x H H' N hN hi p y => by
    obtain ⟨rfl, f⟩ := y
    exact hs i x _ N hN (f xs (hl _ _ p)) p) hd
theorem gx_list {xs : List V} (hT : TabG H1 P) (Pv : Nat → Hp → Prop) (h0 : ∀ H2, Tabbed P H1 H2 → Pv 0 H2) (hl : ∀ i H, Pv i H → SqL K H a xs)
    (hs : ∀ i x H (N : Hp → Prop), (∀ H3, Pv (i + 1) H3 → N H3) → xs[i]? = some x → Pv i H → gt x (wipe σ vs) H fun σ2 H2 => wipe σ2 vs = wipe σ vs ∧ te σ2 H2 fun y H3 => ∃ b, y = .bl b ∧ if b = stop then Q (.bl stop) H3 else N H3)
    (hd : ∀ H, Pv xs.length H → Q (.bl (!stop)) H) : gTurns stop P gt te vs σ Q (Itl K a) H1 :=
  gx_by hT Pv h0 (fun H p => ⟨xs, hl _ H p, Nat.le_refl _⟩) (fun i H hi p => ⟨xs, xs[i], hl _ H p, List.getElem?_eq_getElem hi⟩) (fun i x H H' N hN hi p y => by
    obtain ⟨rfl, f⟩ := y
    exact hs i x _ N hN (f xs (hl _ _ p)) p) hd
theorem gx_str {z : Str} (hT : TabG H1 P) (Pv : Nat → Hp → Prop) (h0 : ∀ H2, Tabbed P H1 H2 → Pv 0 H2)
    (hs : ∀ i c H (N : Hp → Prop), (∀ H3, Pv (i + 1) H3 → N H3) → z.cps.toList[i]? = some c → Pv i H → gt (.str ⟨#[c]⟩) (wipe σ vs) H fun σ2 H2 => wipe σ2 vs = wipe σ vs ∧ te σ2 H2 fun y H3 => ∃ b, y = .bl b ∧ if b = stop then Q (.bl stop) H3 else N H3)
    (hd : ∀ H, Pv z.cps.size H → Q (.bl (!stop)) H) : gTurns stop P gt te vs σ Q (Its z) H1 :=
  gx_by hT Pv h0 (fun H p => Nat.le_refl _) (fun i H hi p => hi) (fun i x H H' N hN hi p y => by
    obtain ⟨rfl, c, hc, rfl⟩ := y
    exact hs i c _ N hN (by rw [Array.getElem?_toList]; exact hc) p) hd
theorem gx_range {lo : Int} {n : Nat} (hT : TabG H1 P) (Pv : Nat → Hp → Prop) (h0 : ∀ H2, Tabbed P H1 H2 → Pv 0 H2)
    (hs : ∀ i H (N : Hp → Prop), (∀ H3, Pv (i + 1) H3 → N H3) → i < n → Pv i H → gt (.int (lo + (i : Int))) (wipe σ vs) H fun σ2 H2 => wipe σ2 vs = wipe σ vs ∧ te σ2 H2 fun y H3 => ∃ b, y = .bl b ∧ if b = stop then Q (.bl stop) H3 else N H3)
    (hd : ∀ H, Pv n H → Q (.bl (!stop)) H) : gTurns stop P gt te vs σ Q (Itr lo n) H1 :=
  gx_by hT Pv h0 (fun H p => Nat.le_refl _) (fun i H hi p => hi) (fun i x H H' N hN hi p y => by
    obtain ⟨rfl, rfl⟩ := y
    exact hs i _ N hN hi p) hd
end
end Gx
set_option Elab.async false
set_option linter.all false
set_option maxRecDepth 100000
set_option maxHeartbeats 4000000
/-! len(set(t)) of a tuple of texts -/
namespace Sx
open PySem PySem.Spec PyProof.Rows L2
/-- members so far: L of the first i texts -/
structure Mem (xs : List Str) (i : Nat) (L : List Str) : Prop where
  iff : ∀ k, k ∈ L ↔ k ∈ xs.take i
  le : L.length ≤ i
  nd : L.length = i ↔ (xs.take i).Nodup
theorem Mem.zero (xs : List Str) : Mem xs 0 [] := ⟨fun k => by simp, Nat.le_refl _, by simp⟩
theorem take_nd {xs : List Str} {i : Nat} {k : Str} (h : xs[i]? = some k) : (xs.take (i + 1)).Nodup ↔ (xs.take i).Nodup ∧ k ∉ xs.take i := by
  rw [List.take_add_one, h, List.nodup_append]
  constructor
  · rintro ⟨a, _, c⟩
    exact ⟨a, fun hk => c k hk k (by simp) rfl⟩
  · rintro ⟨a, c⟩
    refine ⟨a, by simp, fun x hx y hy e => ?_⟩
    simp at hy
    rw [e, hy] at hx
    exact c hx
theorem Mem.old {xs L : List Str} {i : Nat} {k : Str} (M : Mem xs i L) (h : xs[i]? = some k) (hk : k ∈ L) : Mem xs (i + 1) L := by
  refine ⟨fun j => ?_, Nat.le_succ_of_le M.le, ?_⟩
  · rw [List.take_add_one, h, List.mem_append, M.iff j]
    constructor
    · exact .inl
    · rintro (a | a)
      · exact a
      · simp at a
        rw [a]
        exact (M.iff k).mp hk
  · rw [take_nd h]
    constructor
    · intro e
      have := M.le
      omega
    · rintro ⟨_, c⟩
      exact absurd ((M.iff k).mp hk) c
theorem Mem.new {xs L : List Str} {i : Nat} {k : Str} (M : Mem xs i L) (h : xs[i]? = some k) (hk : k ∉ L) : Mem xs (i + 1) (k :: L) := by
  refine ⟨fun j => ?_, Nat.succ_le_succ M.le, ?_⟩
  · rw [List.take_add_one, h, List.mem_append, List.mem_cons, M.iff j]
    constructor
    · rintro (a | a)
      · exact .inr (by simp [a])
      · exact .inl a
    · rintro (a | a)
      · exact .inr a
      · simp at a
        exact .inl a
  · rw [take_nd h, ← M.nd, List.length_cons]
    constructor
    · intro e
      exact ⟨by omega, fun c => hk ((M.iff k).mpr c)⟩
    · rintro ⟨e, _⟩
      omega
section
variable {P : Program} {w : World} {A : Around} {R : Result → Shared → Prop} {J : Addr} {fp wr : List Addr} {G : Array GenState → Array GenState → Prop} {n : Nat} {V0 : Nat → Value → Prop} {Z : Nat → Shared → Prop}
def Holds (P : Program) (w : World) (h : Heap) (S : Addr) (L : List Str) : Prop := h.SetOf (PySem.strKind P w) S (fun k => decide (k ∈ L)) L.length
theorem Holds.but {h h' : Heap} {S : Addr} {L : List Str} (H : Holds P w h S L) (e : ∀ o, h.get? S = some o → h'.get? S = some o) : Holds P w h' S L := by
  obtain ⟨o, es, ep, tb, a, b⟩ := H
  exact ⟨o, es, ep, tb, e _ a, b⟩
theorem Holds.add {h : Heap} {S : Addr} {L xs : List Str} {i : Nat} {k : Str} (M : Mem xs i L) (hk : xs[i]? = some k)
    (H : h.SetOf (PySem.strKind P w) S (fun j => decide (j ∈ L) || decide (j = k)) (if decide (k ∈ L) then L.length else L.length + 1)) : ∃ L', Mem xs (i + 1) L' ∧ Holds P w h S L' := by
  by_cases c : k ∈ L
  · refine ⟨L, M.old hk c, SetOf_congr H (fun j => ?_) (by rw [if_pos (by simpa using c)])⟩
    by_cases e : j = k
    · subst e
      simp [c]
    · simp [e]
  · refine ⟨k :: L, M.new hk c, SetOf_congr H (fun j => ?_) (by rw [if_neg (by simpa using c)]; rfl)⟩
    rw [Bool.eq_iff_iff]
    simp [or_comm]
/-- the loop -/
theorem fill (W : WalksS P w A.in1 J fp wr G n V0 Z) {S : Addr} (no : S ∉ fp) {xs : List Str} (hn : xs.length = n) (few : n < 4000) (at' : ∀ i v, V0 i v → ∃ t, v = .str (xs.getD i Str.empty) t) :
    ∀ (m i : Nat) (z : Shared) (L : List Str), i + m = n → Z i z → Mem xs i L → Holds P w z.heap S L →
      (∀ z' L', Moved (S :: wr) G z z' → Mem xs n L' → Holds P w z'.heap S L' → R (.ok (.ret .none)) z') →
      codeAny (model P w) A (.builtin "set.update.loop" ⟨[.ref S, .ref J], []⟩) R z := by
  have nw : S ∉ wr := fun c => no (W.sub _ c)
  have up : ∀ b ∈ wr, b ∈ S :: wr := fun b c => .tail _ c
  intro m
  induction m with
  | zero =>
    intro i z L e hz M H r
    obtain rfl : i = n := e
    refine codeAny_builtin PyProof.Rows.F.entry_set_update_loop ?_
    rw [Around.under_plainId PyProof.Rows.F.plain_set_update_loop _]
    refine wpAny_bind (m := pyNext (.ref J)) (W.done z _ _ hz fun z' mv => ?_)
    show wpAny _ A.in1 (ret .none) _ _ z'
    exact wpAny_pure (r z' L (mv.mono up) M (H.but fun o => mv.heap S o nw))
  | succ m ih =>
    intro i z L e hz M H r
    have lt : i < n := by omega
    refine codeAny_builtin PyProof.Rows.F.entry_set_update_loop ?_
    rw [Around.under_plainId PyProof.Rows.F.plain_set_update_loop _]
    refine wpAny_bind (m := pyNext (.ref J)) (W.item i z _ _ lt hz fun v z' hv hz' mv => ?_)
    obtain ⟨t, rfl⟩ := at' i v hv
    have ek : xs[i]? = some (xs.getD i Str.empty) := by
      rw [List.getD_eq_getElem?_getD, List.getElem?_eq_getElem (by omega)]
      rfl
    generalize xs.getD i Str.empty = k at ek ⊢
    refine wpAny_bind (m := holding [Value.str k t] (setAdd S (.str k t))) (wpAny_holding ?_)
    unfold setAdd
    refine wpAny_holding (wpAny_bind ((PySem.strKind P w).pyHash (k := k) (strKind_is _ _ _ _) ?_))
    refine wpAny_setAddHashed_of (knd := PySem.strKind P w) (s := { z' with toks := z'.toks + 1 }) (strKind_is _ _ _ _) rfl (H.but fun o => mv.heap S o nw) (by have := M.le; unfold scanBound; omega) fun h' sb H2 => ?_
    obtain ⟨L', M', H'⟩ := Holds.add M ek H2
    refine wpAny_pure ⟨plainId_quiet PyProof.Rows.F.plain_set_update_loop _, ih (i + 1) _ L' (by omega) (W.frame _ z' _ _ hz' (Nat.le_succ _) fun b c o x => ?_) M' H' fun y L2 mv2 M2 H3 => ?_⟩
    · rw [sb.2 b fun c2 => no (c2 ▸ c)]
      exact x
    · refine r y L2 (Moved.trans W.gtrans ((mv.mono up).then_heap (Nat.le_succ _) fun b o c x => ?_) mv2) M2 H3
      rw [sb.2 b fun c2 => c (c2 ▸ List.mem_cons_self)]
      exact x
end
/-- a new set -/
def emp (b : Bool) : Obj := { cls := .type "set", dict := none, data := .set #[] 0 (.fresh 0 0 b) }
def itO (l : Addr) : Obj := { cls := .type "tuple_iterator", data := .fields #[.ref l, .int 0 0] }
section
variable {P : Program} {w : World} {A : Around} {E : Value → Shared → Prop} {z : Shared}
/-- set(t): by what its loop does -/
theorem set_by {l : Addr} {items : Array Value} {Q : Value → Shared → Prop} {G : Shared → Prop} (ht : z.heap.IsTuple l items)
    (loop : ∀ (b : Bool) (R : Result → Shared → Prop) (A' : Around), A'.in1.handled = A.handled → (∀ z', G z' → R (.ok (.ret .none)) z') →
      codeAny (model P w) A' (.builtin "set.update.loop" ⟨[.ref z.heap.objs.size, .ref (z.heap.push (emp b)).objs.size], []⟩) R { z with heap := (z.heap.push (emp b)).push (itO l) })
    (h : ∀ z', G z' → Q (.ref z.heap.objs.size) z') : wpAny (model P w) A (call (.type "set") [.ref l]) Q E z := by
  have cs := PySem.F.called_set
  obtain ⟨_, _, m1⟩ := cs.mro
  have m2 := cs.made
  have m3 := cs.sub
  refine wpAny_call (codeAny_of_tree (show wpAny _ _ (callAny (.type "set") _) _ _ _ from ?_))
  refine wpAny_pure ⟨Code.quiet_builtin _ (by decide +kernel), codeAny_builtin PySem.F.entry_type_call ?_⟩
  rw [Around.under_plain (weight_type_call_type "set" [.ref l] []) rfl]
  have m4 := cs.notType
  have m5 := cs.canCreate
  have m6 := PySem.F.typeCall_set_1 (.ref l)
  repeat (any_goals (first | assumption | wp_step))
  refine codeAny_mono (code_set_new_1 (.ref l) (E := E) (Q₁ := fun v y => ∃ b : Bool, v = .ref z.heap.objs.size ∧ y = { z with heap := z.heap.push (emp b) }) fun b => ⟨b, rfl, rfl⟩) fun r y hr => ?_
  cases r with
  | error e => exact hr
  | ok fl =>
    cases fl with
    | ret obj =>
      obtain ⟨b, rfl, rfl⟩ := hr
      have g0 : (z.heap.push (emp b)).get? z.heap.objs.size = some (emp b) := Heap.get?_push_size _ rfl
      have T : Shared.TypeIs { z with heap := z.heap.push (emp b) } (.ref z.heap.objs.size) "set" := ⟨_, g0, rfl⟩
      have m7 := cs.init.lookup
      have m8 := cs.init.bind (.ref z.heap.objs.size)
      repeat (any_goals (first | assumption | wp_step))
      refine codeAny_mono (codeAny_call_builtin (R := wants (fun v y => v = .none ∧ G y) E) cs.init.plain PySem.F.entry_set_init (check_set_init_1 T ?_)) fun r2 y2 hr2 => ?_
      · have ht1 : (z.heap.push (emp b)).IsTuple l items := ht.push _
        obtain ⟨⟨c1, c2, c3, c4⟩, p1, p2, p3, p4⟩ := id ht1
        simp only at p2 p4
        subst p2 p4
        have m9 := PySem.F.sub_tuple_set
        have m10 := PySem.F.sub_tuple_frozenset
        have m11 : (Value.type "tuple" == Value.type "dict") = false := by decide
        unfold Builtin.«set.__init__» noKeywords Builtin.Frozenset.updateFrom
        generalize hpi : pyIter = PI
        wp_walk
        subst hpi
        refine wpAny_pyIter_tuple ht1 (wpAny_bind (wpAny_runValue ?_))
        refine loop b _ _ rfl fun y hy => ?_
        show wpAny _ _ _ _ _ _
        refine wpAny_pure ?_
        show wpAny _ _ (ret .none) _ _ _
        exact wpAny_pure ⟨rfl, hy⟩
      · cases r2 with
        | error e => exact hr2
        | ok f2 =>
          cases f2 with
          | ret v =>
            obtain ⟨rfl, hy⟩ := hr2
            repeat (any_goals (first | assumption | wp_step))
            exact h _ hy
          | _ => exact hr2.elim
    | _ => exact hr.elim
/-- set(t) of texts -/
theorem set_txt {l : Addr} {items : Array Value} {xs : List Str} {Q : Value → Shared → Prop} (hh : A.handled = none) (ht : z.heap.IsTuple l items) (hx : StrsAre items.toList xs) (few : xs.length < 4000)
    (h : ∀ (h' : Heap) (tk : Nat) (L : List Str), Mem xs xs.length L → Holds P w h' z.heap.objs.size L → (∀ b o, z.heap.get? b = some o → h'.get? b = some o) → Q (.ref z.heap.objs.size) { z with heap := h', toks := tk }) :
    wpAny (model P w) A (call (.type "set") [.ref l]) Q E z := by
  have e0 : items.size = xs.length := by
    rw [← Array.length_toList]
    exact StrsAre.len_eq hx
  refine set_by (G := fun z' => ∃ (h' : Heap) (tk : Nat) (L : List Str), z' = { z with heap := h', toks := tk } ∧ Mem xs xs.length L ∧ Holds P w h' z.heap.objs.size L ∧ ∀ b o, z.heap.get? b = some o → h'.get? b = some o) ht (fun b R A' hA hR => ?_) ?_
  · have lt : l < z.heap.objs.size := by
      obtain ⟨o, ho, _⟩ := ht
      exact Heap.lt_size ho
    have e1 : (z.heap.push (emp b)).objs.size = z.heap.objs.size + 1 := Heap.size_push ..
    have g0 : ((z.heap.push (emp b)).push (itO l)).get? z.heap.objs.size = some (emp b) := Heap.get?_push_of_some _ (Heap.get?_push_size _ rfl)
    refine fill (xs := xs) (L := []) ((Walks.tuple (hA.trans hh) (z.heap.push (emp b)).objs.size l (by rw [e1]; exact Nat.ne_of_lt (Nat.lt_succ_of_lt lt)) items).toS) (S := z.heap.objs.size) ?_ e0.symm (by rw [e0]; exact few) (fun i v hv => SS.strs_at hx i v (by rw [Array.getElem?_toList]; exact hv)) items.size 0 _ (by omega) ⟨⟨_, Heap.get?_push_size _ rfl, rfl, rfl⟩, (ht.push _).push _⟩ (Mem.zero xs) ?_ ?_
    · rw [e1]
      intro c
      rcases List.mem_cons.mp c with c | c
      · exact absurd c (Nat.ne_of_lt (Nat.lt_succ_self _))
      · rw [List.mem_singleton] at c
        exact absurd c (Nat.ne_of_gt lt)
    · exact SetOf_congr ((PyProof.Rows.setObjOf_fresh (knd := PySem.strKind P w) b).setOf g0 (by unfold scanBound; omega)) (fun k => by simp) rfl
    · rintro ⟨h', g', d', tk', os'⟩ L mv M H
      have q1 : g' = z.gens := mv.gens
      have q2 : d' = z.drawn := mv.drawn
      have q3 : os' = z.os := mv.os
      subst q1 q2 q3
      rw [e0] at M
      refine hR _ ⟨h', tk', L, rfl, M, H, fun a o x => ?_⟩
      have la := Heap.lt_size x
      refine mv.heap a o (fun c => ?_) (Heap.get?_push_of_some _ (Heap.get?_push_of_some _ x))
      rcases List.mem_cons.mp c with c | c
      · exact absurd c (Nat.ne_of_lt la)
      · rw [List.mem_singleton, e1] at c
        exact absurd c (Nat.ne_of_lt (Nat.lt_succ_of_lt la))
  · rintro _ ⟨h', tk, L, rfl, M, H, k⟩
    exact h h' tk L M H k
end
section
variable {X : Cx}
/-- len(set(t)), t a tuple of texts: as many as unlike ones -/
def tLenS (K : PySem.W.Frag) (ta : TE) : TE := fun σ H Q => ta σ H fun x H1 => ∃ (l : Addr) (xs : List Str), x = .ref l ∧ SqT K H1 l (xs.map V.str) ∧ xs.length < 4000 ∧ ∀ n : Nat, n ≤ xs.length → (n = xs.length ↔ xs.Nodup) → Q (.int (n : Int)) H1
theorem pe_lenS {a : Expr} {ta : TE} {p p2 q pos : Pos} (hc : X.calm = true) (hg : Gl X "len") (hm : X.mg "len" = none) (hg2 : Gl X "set") (hm2 : X.mg "set" = none) (ha : PE X a ta)
    (na : starEach [a] X.env = (false, eval a X.env) :: starEach [] X.env := by rfl) : PE X (.Call (.Name "len" p) [.Call (.Name "set" p2) [a] [] q] [] pos) (tLenS X.K ta) := by
  refine ⟨fun pins s σ H Q I h => Call_ (ld_blt I hg hm boot_len (PyProof.Rows.callWith_builtin1 (PyProof.Rows.args_cons ?_ rfl) rfl rfl))⟩
  refine Call_ (ld_blt I hg2 hm2 boot_set (PyProof.Rows.callWith_type1 (PyProof.Rows.args_cons (thn (ha.run pins s σ H _ I h) fun v s1 h1 => PyProof.Rows.args_nil ?_) na) na rfl))
  obtain ⟨x, H1, I1, r1, l, xs, rfl, hq, few, q1⟩ := h1
  cases r1
  obtain ⟨its, r, pl, hz⟩ := I1.tuple hq
  refine set_txt (I1.ok.hd hc) pl (by simpa using strsAre_of r) few fun h' tk L M ⟨o, es, ep, t, ho, hex, hd, _, _, _, hf, hn⟩ k => PyProof.Rows.args_nil ?_
  have J : Inv X pins σ H1 { s1 with heap := h', toks := tk } := I1.kept k
  have le := M.le
  refine call_len_set ho hex hd hf (by rw [hn]; omega) ⟨.int L.length, H1, J.tok _, ⟨_, by rw [hn]⟩, q1 L.length le ?_⟩
  rw [M.nd, List.take_length]
end
end Sx
set_option Elab.async false
set_option linter.all false
set_option maxRecDepth 100000
set_option maxHeartbeats 4000000
namespace Eh
open PySem PySem.Spec PyProof.Rows L2
section
variable {X : Cx}
theorem call_repr_bl : CallR X (.builtin "repr") (fun xs H Q => ∃ b, xs = [.bl b] ∧ Q (.str (if b then "True" else "False")) H) := by
  intro pins s σ H xs us Q I r h
  obtain ⟨b, rfl, q⟩ := h
  cases r with
  | cons r1 rr =>
    cases rr
    cases r1
    exact PySem.P.repr_of_bool ⟨.str _, H, I.tok _, ⟨_, rfl⟩, q⟩
/-- a text so often -/
def repS (x : Str) (n : Nat) : Str := ⟨(List.replicate n x.cps).foldl (· ++ ·) #[]⟩
theorem foldl_app (l : List (Array Nat)) (a : Array Nat) : (l.foldl (· ++ ·) a).toList = a.toList ++ (l.map (·.toList)).flatten := by
  induction l generalizing a with
  | nil => simp
  | cons x r ih =>
    rw [List.foldl_cons, ih]
    simp
theorem repS_cs (x : Str) (n : Nat) : (repS x n).cps.toList = (List.replicate n x.cps.toList).flatten := by
  unfold repS
  rw [foldl_app, List.map_replicate]
  rfl
theorem op_repS : OpR X (binaryOp .Mult) (fun x y H Q => ∃ (z : Str) (n : Nat), x = .str z ∧ y = .int (n : Int) ∧ z.length ≤ 1000 ∧ n ≤ 1000 ∧ Q (.str (repS z n)) H) := by
  intro pins s σ H x y v u Q I rx ry h
  obtain ⟨z, n, rfl, rfl, hz, hn, q⟩ := h
  obtain ⟨t, rfl⟩ := rx
  obtain ⟨t', rfl⟩ := ry
  have e0 : n < 1 → repS z n = Str.empty := fun h => by
    have : n = 0 := by omega
    subst this
    rfl
  have ext : ∀ a b : Str, a.cps.toList = b.cps.toList → a = b := fun a b h => by
    cases a
    cases b
    congr 1
    exact Array.toList_inj.mp h
  have e1 : (n = 1 ∨ z.length = 0) → ¬ n < 1 → repS z n = z := fun h h1 => by
    apply ext
    rw [repS_cs]
    rcases h with h | h
    · subst h
      simp
    · have hz0 : z.cps.toList = [] := by
        have : z.cps.size = 0 := h
        exact List.eq_nil_of_length_eq_zero (by simpa using this)
      rw [hz0]
      simp
  have hm : z.length * n ≤ 1000000 := Nat.le_trans (Nat.mul_le_mul hz hn) (by decide)
  refine PySem.P.mul_str (by rw [decide_eq_false (by omega), decide_eq_false (by omega)]; rfl) (fun h1 _ => ?_) (fun h1 _ => ?_) ?_
  · have h2 : (1 : Int) ≤ n := by omega
    have h3 : (9223372036854775807 : Int) / (n : Int) ≥ 9223372036854775807 / 1000 := by
      refine Int.le_ediv_of_mul_le (by omega) ?_
      omega
    show ¬ ((z.length : Int) > (2 ^ 63 - 1) / (n : Int))
    have e2 : ((2 : Int) ^ 63 - 1) = 9223372036854775807 := by decide
    rw [e2]
    omega
  · rw [Int.toNat_natCast]
    show decide (z.length * n > sizeLine) = false
    rw [sizeLine_eq]
    exact decide_eq_false (by omega)
  · by_cases h1 : (n : Int) < 1
    · rw [if_pos h1]
      refine ⟨by decide, .str (repS z n), H, I.tok _, ⟨s.toks, ?_⟩, q⟩
      rw [e0 (by omega)]
    · rw [if_neg h1]
      by_cases h2 : ((n : Int) == 1 || z.length == 0) = true
      · rw [if_pos h2]
        have h3 : n = 1 ∨ z.length = 0 := by
          simp at h2
          omega
        have h4 := e1 h3 (by omega)
        rw [h4] at q
        exact ⟨.str z, H, I, ⟨_, rfl⟩, q⟩
      · rw [if_neg h2]
        have hl : (repS z n).length ≤ sizeLine := by
          have : (repS z n).length = n * z.length := by
            show (repS z n).cps.size = n * z.cps.size
            rw [← Array.length_toList, repS_cs]
            simp
          rw [this, sizeLine_eq, Nat.mul_comm]
          omega
        exact ⟨hl, .str (repS z n), H, I.tok _, ⟨_, rfl⟩, q⟩
/-- xs < ys, lists of ints -/
theorem firstLt_lex : ∀ (ns ms : List Int) (k : Nat) (e r : Nat → Bool), (∀ j, j < ns.length → j < ms.length → e (k + j) = decide (ns[j]? = ms[j]?)) → (∀ j, j < ns.length → j < ms.length → r (k + j) = decide (ns.getD j 0 < ms.getD j 0)) → SeqAt.firstLt e r (decide (ns.length < ms.length)) ((List.range (min ns.length ms.length)).map (k + ·)) = HT.lexLt ns ms
  | [], [], k, e, r, _, _ => rfl
  | [], y :: ms, k, e, r, _, _ => by simp [SeqAt.firstLt, HT.lexLt]
  | x :: ns, [], k, e, r, _, _ => by simp [SeqAt.firstLt, HT.lexLt]
  | x :: ns, y :: ms, k, e, r, he, hr => by
    rw [HT.lexLt_cons, List.length_cons, List.length_cons, show min (ns.length + 1) (ms.length + 1) = min ns.length ms.length + 1 by omega, List.range_succ_eq_map, List.map_cons, List.map_map]
    have e0 := he 0 (by simp) (by simp)
    have r0 := hr 0 (by simp) (by simp)
    have ih := firstLt_lex ns ms (k + 1) e r (fun j h1 h2 => by
      have := he (j + 1) (by simpa using h1) (by simpa using h2)
      rw [show k + 1 + j = k + (j + 1) by omega, this]
      simp) (fun j h1 h2 => by
      have := hr (j + 1) (by simpa using h1) (by simpa using h2)
      rw [show k + 1 + j = k + (j + 1) by omega, this]
      simp)
    by_cases h : x = y
    · rw [if_pos h, SeqAt.firstLt_yes (by rw [e0]; simp [h])]
      rw [show (decide (ns.length + 1 < ms.length + 1)) = decide (ns.length < ms.length) by simp, show ((fun x => k + x) ∘ Nat.succ) = (fun x => k + 1 + x) by funext z; show k + (z + 1) = k + 1 + z; omega]
      exact ih
    · rw [if_neg h, SeqAt.firstLt_no (by rw [e0]; simp [h]), r0]
      rfl
def rLtL (K : PySem.W.Frag) : R2 := fun x y H Q => ∃ (a b : Addr) (ns ms : List Int), x = .ref a ∧ y = .ref b ∧ SqL K H a (ns.map V.int) ∧ SqL K H b (ms.map V.int) ∧ Q (.bl (HT.lexLt ns ms)) H
theorem op_ltL (hu : X.A.units < cLine) : OpR X (compareOp .Lt) (rLtL X.K) := by
  intro pins s σ H x y v u Q I rx ry h
  obtain ⟨a, b, ns, ms, rfl, rfl, ha, hb, q⟩ := h
  cases rx
  cases ry
  obtain ⟨its, r1, p1, _⟩ := I.list ha
  obtain ⟨its2, r2, p2, _⟩ := I.list hb
  have l1 : its.length = ns.length := by
    have := r1.length
    rw [List.length_map] at this
    exact this.symm
  have l2 : its2.length = ms.length := by
    have := r2.length
    rw [List.length_map] at this
    exact this.symm
  have g1 : ∀ j (h : j < ns.length), ∃ t, its[j]'(by omega) = .int ns[j] t := fun j h => by
    obtain ⟨u, hu, t, ru⟩ := r1.get (i := j) (show (ns.map V.int)[j]? = some (.int ns[j]) by rw [List.getElem?_map, List.getElem?_eq_getElem h]; rfl)
    obtain ⟨_, e⟩ := List.getElem?_eq_some_iff.mp hu
    exact ⟨t, e.trans ru⟩
  have g2 : ∀ j (h : j < ms.length), ∃ t, its2[j]'(by omega) = .int ms[j] t := fun j h => by
    obtain ⟨u, hu, t, ru⟩ := r2.get (i := j) (show (ms.map V.int)[j]? = some (.int ms[j]) by rw [List.getElem?_map, List.getElem?_eq_getElem h]; rfl)
    obtain ⟨_, e⟩ := List.getElem?_eq_some_iff.mp hu
    exact ⟨t, e.trans ru⟩
  have key := SeqAt.RcLt.lists (A := X.A) (s := s) (e := fun j => decide (ns[j]? = ms[j]?)) (r := fun j => decide (ns.getD j 0 < ms.getD j 0)) p1.isList p2.isList hu (fun j h1 h2 => ?_) (fun j h1 h2 hj => ?_)
  · have e : SeqAt.firstLt (fun j => decide (ns[j]? = ms[j]?)) (fun j => decide (ns.getD j 0 < ms.getD j 0)) (decide (its.toArray.size < its2.toArray.size)) (List.range (min its.toArray.size its2.toArray.size)) = HT.lexLt ns ms := by
      have := firstLt_lex ns ms 0 (fun j => decide (ns[j]? = ms[j]?)) (fun j => decide (ns.getD j 0 < ms.getD j 0)) (fun j _ _ => by rw [Nat.zero_add]) (fun j _ _ => by rw [Nat.zero_add])
      rw [← this]
      simp [l1, l2]
    rw [e] at key
    exact key _ _ _ _ ⟨.bl _, H, I, rfl, q⟩
  · have h1' : j < ns.length := by simpa [l1] using h1
    have h2' : j < ms.length := by simpa [l2] using h2
    obtain ⟨t1, e1⟩ := g1 j h1'
    obtain ⟨t2, e2⟩ := g2 j h2'
    have e3 : its.toArray[j] = .int ns[j] t1 := by simpa using e1
    have e4 : its2.toArray[j] = .int ms[j] t2 := by simpa using e2
    rw [e3, e4]
    have := SeqAt.EqAt.int_int (A := X.A.in1) (s := s) ns[j] t1 ms[j] t2
    have e5 : decide (ns[j]? = ms[j]?) = (ns[j] == ms[j]) := by
      rw [List.getElem?_eq_getElem h1', List.getElem?_eq_getElem h2']
      by_cases z : ns[j] = ms[j] <;> simp [z]
    simp only [e5]
    exact this
  · have h1' : j < ns.length := by simpa [l1] using h1
    have h2' : j < ms.length := by simpa [l2] using h2
    obtain ⟨t1, e1⟩ := g1 j h1'
    obtain ⟨t2, e2⟩ := g2 j h2'
    have e3 : its.toArray[j] = .int ns[j] t1 := by simpa using e1
    have e4 : its2.toArray[j] = .int ms[j] t2 := by simpa using e2
    rw [e3, e4]
    have e5 : decide (ns.getD j 0 < ms.getD j 0) = decide (ns[j] < ms[j]) := by
      rw [List.getD_eq_getElem?_getD, List.getD_eq_getElem?_getD, List.getElem?_eq_getElem h1', List.getElem?_eq_getElem h2']
      rfl
    simp only [e5]
    intro prog w E Q hq
    exact HT.rcLt_int _ _ _ _ _ _ prog w E Q hq
end
end Eh
set_option Elab.async false
set_option linter.all false
set_option maxRecDepth 100000
set_option maxHeartbeats 4000000
namespace Eh
open PySem PySem.Spec PyProof.Rows L2 Evl GxR Gx
/-! anything: a value that stands for data, all of it tracked -/
mutual
inductive Th (N : Addr) (H : Hp) : V → PyData → Prop
  | non : Th N H .non .none
  | bl (b : Bool) : Th N H (.bl b) (.bool b)
  | int (i : Int) : Th N H (.int i) (.int i)
  | str (x : Str) : Th N H (.str x) (.str x)
  | lst {a : Addr} {xs : List V} {ds : List PyData} : a ≠ N → H a = some (.lst xs) → ThAll N H xs ds → Th N H (.ref a) (.list ds)
  | tup {a : Addr} {xs : List V} {ds : List PyData} : H a = some (.tup xs) → ThAll N H xs ds → Th N H (.ref a) (.tuple ds)
inductive ThAll (N : Addr) (H : Hp) : List V → List PyData → Prop
  | nil : ThAll N H [] []
  | cons {v : V} {vs : List V} {d : PyData} {ds : List PyData} : Th N H v d → ThAll N H vs ds → ThAll N H (v :: vs) (d :: ds)
end
mutual
theorem Th.et {N : Addr} {H H' : Hp} (e : ET H H') : ∀ {v : V} {d : PyData}, Th N H v d → Th N H' v d
  | _, _, .non => .non
  | _, _, .bl b => .bl b
  | _, _, .int i => .int i
  | _, _, .str x => .str x
  | _, _, .lst z h t => .lst z (e.lst h) (ThAll.et e t)
  | _, _, .tup h t => .tup (e.tup h) (ThAll.et e t)
theorem ThAll.et {N : Addr} {H H' : Hp} (e : ET H H') : ∀ {vs : List V} {ds : List PyData}, ThAll N H vs ds → ThAll N H' vs ds
  | _, _, .nil => .nil
  | _, _, .cons a b => .cons (Th.et e a) (ThAll.et e b)
end
mutual
theorem Th.kp {N : Addr} {H H' : Hp} (k : Keep N H H') (no : ∀ xs, H N ≠ some (.tup xs)) : ∀ {v : V} {d : PyData}, Th N H v d → Th N H' v d
  | _, _, .non => .non
  | _, _, .bl b => .bl b
  | _, _, .int i => .int i
  | _, _, .str x => .str x
  | _, _, .lst z h t => .lst z (k _ _ z h) (ThAll.kp k no t)
  | _, _, .tup h t => .tup (k _ _ (fun e => no _ (e ▸ h)) h) (ThAll.kp k no t)
theorem ThAll.kp {N : Addr} {H H' : Hp} (k : Keep N H H') (no : ∀ xs, H N ≠ some (.tup xs)) : ∀ {vs : List V} {ds : List PyData}, ThAll N H vs ds → ThAll N H' vs ds
  | _, _, .nil => .nil
  | _, _, .cons a b => .cons (Th.kp k no a) (ThAll.kp k no b)
end
mutual
theorem Th.dp {K : PySem.W.Frag} {N : Addr} {H : Hp} : ∀ {v : V} {d : PyData}, Th N H v d → Dp K H v d
  | _, _, .non => .non
  | _, _, .bl b => .bl b
  | _, _, .int i => .int i
  | _, _, .str x => .str x
  | _, _, .lst _ h t => .lst (sq_of h) (ThAll.dp t)
  | _, _, .tup h t => .tup (st_of h) (ThAll.dp t)
theorem ThAll.dp {K : PySem.W.Frag} {N : Addr} {H : Hp} : ∀ {vs : List V} {ds : List PyData}, ThAll N H vs ds → DpAll K H vs ds
  | _, _, .nil => .nil
  | _, _, .cons a b => .cons (Th.dp a) (ThAll.dp b)
end
theorem ThAll.len {N : Addr} {H : Hp} : ∀ {vs : List V} {ds : List PyData}, ThAll N H vs ds → vs.length = ds.length
  | _, _, .nil => rfl
  | _, _, .cons _ b => congrArg (· + 1) (ThAll.len b)
theorem ThAll.get {N : Addr} {H : Hp} : ∀ {vs : List V} {ds : List PyData}, ThAll N H vs ds → ∀ {i : Nat} {v : V}, vs[i]? = some v → ∃ d, ds[i]? = some d ∧ Th N H v d
  | _, _, .cons a b, 0, v, h => by
    cases h
    exact ⟨_, rfl, a⟩
  | _, _, .cons a b, i + 1, v, h => ThAll.get b (i := i) h
theorem ThAll.strs {N : Addr} {H : Hp} : ∀ ws : List Str, ThAll N H (ws.map V.str) (ws.map PyData.str)
  | [] => .nil
  | x :: r => .cons (.str x) (ThAll.strs r)
/-- what it is -/
def dTy : PyData → String
  | .none => "NoneType"
  | .bool _ => "bool"
  | .int _ => "int"
  | .str _ => "str"
  | .list _ => "list"
  | .tuple _ => "tuple"
  | .dict _ => "dict"
def isS : PyData → Bool
  | .str _ => true
  | _ => false
def isTu : PyData → Bool
  | .tuple _ => true
  | _ => false
theorem Th.ty {K : PySem.W.Frag} {N : Addr} {H : Hp} {v : V} {d : PyData} (h : Th N H v d) : TyX K H v (.type (dTy d)) := by
  cases h with
  | non => exact .base .non
  | bl b => exact .base (.bl b)
  | int i => exact .base (.int i)
  | str x => exact .base (.str x)
  | lst _ h _ => exact .base (.lst h)
  | tup h _ => exact .base (.tup h)
theorem kit_str {N : Addr} {H : Hp} {v : V} {d : PyData} (h : Th N H v d) : kitB (dTy d) "str" = some (isS d) := by
  cases h with
  | non => exact (by decide +kernel : kitB "NoneType" "str" = some false)
  | bl _ => exact (by decide +kernel : kitB "bool" "str" = some false)
  | int _ => exact (by decide +kernel : kitB "int" "str" = some false)
  | str _ => exact (by decide +kernel : kitB "str" "str" = some true)
  | lst _ _ _ => exact (by decide +kernel : kitB "list" "str" = some false)
  | tup _ _ => exact (by decide +kernel : kitB "tuple" "str" = some false)
theorem kit_tup {N : Addr} {H : Hp} {v : V} {d : PyData} (h : Th N H v d) : kitB (dTy d) "tuple" = some (isTu d) := by
  cases h with
  | non => exact (by decide +kernel : kitB "NoneType" "tuple" = some false)
  | bl _ => exact (by decide +kernel : kitB "bool" "tuple" = some false)
  | int _ => exact (by decide +kernel : kitB "int" "tuple" = some false)
  | str _ => exact (by decide +kernel : kitB "str" "tuple" = some false)
  | lst _ _ _ => exact (by decide +kernel : kitB "list" "tuple" = some false)
  | tup _ _ => exact (by decide +kernel : kitB "tuple" "tuple" = some true)
theorem isi_str {K : PySem.W.Frag} {N : Addr} {H : Hp} {σ : L2.St} {Q : VK} {i : Nat} {v : V} {d : PyData} (hi : σ[i]? = some (some v)) (h : Th N H v d) (q : Q (.bl (isS d)) H) : tCB (rIsi K) (tCons (tVar i) (tCons (tC (.ty "str")) tNil)) σ H Q :=
  ⟨v, hi, v, .ty "str", .type (dTy d), .type "str", isS d, rfl, .ty "str", h.ty, kit_ty (kit_str h), q⟩
theorem isi_tup {K : PySem.W.Frag} {N : Addr} {H : Hp} {σ : L2.St} {Q : VK} {i : Nat} {v : V} {d : PyData} (hi : σ[i]? = some (some v)) (h : Th N H v d) (q : Q (.bl (isTu d)) H) : tCB (rIsi K) (tCons (tVar i) (tCons (tC (.ty "tuple")) tNil)) σ H Q :=
  ⟨v, hi, v, .ty "tuple", .type (dTy d), .type "tuple", isTu d, rfl, .ty "tuple", h.ty, kit_ty (kit_tup h), q⟩
/-! what the two defs and the law's own tell -/
def azB (c : Nat) : Bool := decide (97 ≤ c) && decide (c < 123)
def ltrB (x : Str) : Bool := (decide (1 ≤ x.length) && decide (x.length ≤ 8)) && (cs x).all azB
def isLetterD : PyData → Bool
  | .str x => ltrB x
  | _ => false
def isPartD (least : Nat) : PyData → Bool
  | .tuple ds => (decide (least ≤ ds.length) && decide (ds.length ≤ 4)) && ds.all isLetterD
  | _ => false
def strOf : PyData → Str
  | .str x => x
  | _ => ""
def dLen : PyData → Nat
  | .tuple ds => ds.length
  | _ => 0
def dItems : PyData → List PyData
  | .tuple ds => ds
  | _ => []
/-- the letters of three parts are unlike -/
def unlikeD (o p c : PyData) : Bool := decide ((((dItems o ++ dItems p) ++ dItems c).map strOf).Nodup)
def isSheetD : PyData → Bool
  | .tuple [o, p, c] => ((isPartD 1 o && isPartD 0 p) && isPartD 1 c) && unlikeD o p c
  | _ => false
/-- nothing in it is great; no more than k within one another -/
inductive Gd : Nat → PyData → Prop
  | non {k : Nat} : Gd k .none
  | bl {k : Nat} (b : Bool) : Gd k (.bool b)
  | int {k : Nat} {i : Int} (h : i.natAbs.log2 < 100) : Gd k (.int i)
  | str {k : Nat} {x : Str} (h : x.length ≤ 40) (h2 : ∀ c ∈ x.cps.toList, c < 16 ^ 8) : Gd k (.str x)
  | lst {k : Nat} {ds : List PyData} (n : ds.length ≤ 16) (h : ∀ d ∈ ds, Gd k d) : Gd (k + 1) (.list ds)
  | tup {k : Nat} {ds : List PyData} (n : ds.length ≤ 16) (h : ∀ d ∈ ds, Gd k d) : Gd (k + 1) (.tuple ds)
theorem Gd.up {k : Nat} {d : PyData} (h : Gd k d) : Gd (k + 1) d := by
  induction h with
  | non => exact .non
  | bl b => exact .bl b
  | int h => exact .int h
  | str h h2 => exact .str h h2
  | lst n _ ih => exact .lst n ih
  | tup n _ ih => exact .tup n ih
theorem Gd.mono {k m : Nat} {d : PyData} (h : Gd k d) (hm : k ≤ m) : Gd m d := by
  induction hm with
  | refl => exact h
  | step _ ih => exact ih.up
end Eh
set_option Elab.async false
set_option linter.all false
set_option maxRecDepth 100000
set_option maxHeartbeats 4000000
namespace Eh
open PySem PySem.Spec PyProof.Rows L2
/-! repr of anything -/
def rRepr (K : PySem.W.Frag) : List V → Hp → VK → Prop := fun xs H Q => ∃ v d, xs = [v] ∧ Dp K H v d ∧ d.showable = true ∧ d.hasDict = false ∧ d.depth ≤ 40 ∧ d.shown.length ≤ sizeLine ∧ Q (.str d.shown) H
theorem call_repr {X : Cx} {k : Nat} (hr : Room k X.A) (hg : X.A.guards = some []) : CallR X (.builtin "repr") (rRepr X.K) := by
  intro pins s σ H xs us Q I r h
  obtain ⟨v, d, rfl, hd, sh, nd, dp, sz, q⟩ := h
  cases r with
  | cons r1 r2 =>
    rename_i u us'
    cases r2
    obtain ⟨as, rd⟩ := Dp.reads I d v u hd r1
    have un := hr.un
    have big : ∀ a, u = .ref a → wpAny (model X.prog X.w) X.A (call (.builtin "repr") [u]) (EP X pins σ Q) X.xe s := fun a e => by
      subst e
      exact repr_of_reads' rd sh (PyData.noDict_hsm nd) hg (by omega) (fun _ _ z => z) (fun h' u tk kp => ⟨.str d.shown, H, I.kept kp, ⟨_, rfl⟩, q⟩) sz
    cases hd with
    | non =>
      cases r1
      exact PySem.P.repr_of_none ⟨.str _, H, I.tok _, ⟨_, rfl⟩, q⟩
    | bl b =>
      cases r1
      exact PySem.P.repr_of_bool ⟨.str _, H, I.tok _, ⟨_, rfl⟩, q⟩
    | int i =>
      obtain ⟨t, rfl⟩ := r1
      exact PySem.P.repr_of_int (of_decide_eq_true sh) ⟨.str _, H, I.tok _, ⟨_, rfl⟩, q⟩
    | str x =>
      obtain ⟨t, rfl⟩ := r1
      exact PySem.P.repr_of_str ⟨.str _, H, I.tok _, ⟨_, rfl⟩, q⟩ sz
    | lst => exact big _ r1
    | tup => exact big _ r1
/-! what is not great may be shown -/
def gB : Nat → Nat
  | 0 => 500
  | k + 1 => 16 * (gB k + 2) + 2
theorem gB_mono (k : Nat) : 500 ≤ gB k := by
  induction k with
  | zero => exact Nat.le_refl _
  | succ k ih =>
    show 500 ≤ 16 * (gB k + 2) + 2
    omega
theorem piled_le {B : Nat} : ∀ (ts : List Str), (∀ t ∈ ts, t.length ≤ B) → piled ts ≤ ts.length * (B + 2)
  | [], _ => by
    rw [piled_nil]
    omega
  | t :: r, h => by
    have := piled_le r fun x hx => h x (.tail _ hx)
    have h1 := h t (.head _)
    rw [piled_cons, List.length_cons, Nat.add_mul]
    omega
theorem from_len : ∀ (ts : List Str) (k : Nat) (acc : Str), (textFrom k acc ts).length ≤ acc.length + piled ts
  | [], k, acc => by
    show acc.length ≤ _
    omega
  | t :: r, k, acc => by
    have ih := from_len r (k + 1) (acc ++ (if k > 0 then ", " else "" : String) ++ t)
    have e : (((if k > 0 then ", " else "" : String) : Str)).length ≤ 2 := by split <;> decide +kernel
    rw [strLen_append, strLen_append] at ih
    rw [piled_cons]
    show (textFrom (k + 1) (acc ++ (if k > 0 then ", " else "" : String) ++ t) r).length ≤ _
    omega
theorem list_len (ts : List Str) : (listText ts).length ≤ piled ts + 2 := by
  have h := from_len ts 0 "["
  have e1 : ((("[" : String) : Str)).length = 1 := rfl
  have e2 : ((("]" : String) : Str)).length = 1 := rfl
  unfold listText
  rw [strLen_append, e2]
  rw [e1] at h
  omega
theorem shownAll_map : ∀ ds : List PyData, PyData.shownAll ds = ds.map PyData.shown
  | [] => rfl
  | d :: r => by
    rw [PyData.shownAll, shownAll_map r, List.map_cons]
theorem Gd.shown {k : Nat} {d : PyData} (h : Gd k d) : d.shown.length ≤ gB k := by
  induction h with
  | non =>
    have := gB_mono ‹Nat›
    exact Nat.le_trans (show (PyData.none).shown.length ≤ 500 by decide +kernel) this
  | bl b =>
    have := gB_mono ‹Nat›
    exact Nat.le_trans (show (PyData.bool b).shown.length ≤ 500 by cases b <;> decide +kernel) this
  | @int k i h =>
    have := gB_mono k
    have e := int_text_length_le (k := 100) (by decide) h
    show (Str.ofString (toString i)).length ≤ _
    rw [PySem.ofString_length]
    omega
  | @str k x h h2 =>
    have := gB_mono k
    have e := StrLaws.reprText_len x h2
    show (reprText x).length ≤ _
    omega
  | @lst k ds n h ih =>
    show (listText (PyData.shownAll ds)).length ≤ 16 * (gB k + 2) + 2
    rw [shownAll_map]
    have a := list_len (ds.map PyData.shown)
    have b := piled_le (B := gB k) (ds.map PyData.shown) fun t ht => by
      obtain ⟨d, hd, rfl⟩ := List.mem_map.mp ht
      exact ih d hd
    rw [List.length_map] at b
    have c := Nat.mul_le_mul_right (gB k + 2) n
    omega
  | @tup k ds n h ih =>
    show (tupleText (PyData.shownAll ds)).length ≤ 16 * (gB k + 2) + 2
    rw [shownAll_map]
    have a := fmt_text (ds.map PyData.shown)
    have b := piled_le (B := gB k) (ds.map PyData.shown) fun t ht => by
      obtain ⟨d, hd, rfl⟩ := List.mem_map.mp ht
      exact ih d hd
    rw [List.length_map] at b
    have c := Nat.mul_le_mul_right (gB k + 2) n
    omega
theorem all_show : ∀ ds : List PyData, (∀ d ∈ ds, d.showable = true) → PyData.showableAll ds = true
  | [], _ => rfl
  | d :: r, h => by
    rw [PyData.showableAll, h d (.head _), all_show r fun x hx => h x (.tail _ hx)]
    rfl
theorem all_nod : ∀ ds : List PyData, (∀ d ∈ ds, d.hasDict = false) → PyData.hasDictAll ds = false
  | [], _ => rfl
  | d :: r, h => by
    rw [PyData.hasDictAll, h d (.head _), all_nod r fun x hx => h x (.tail _ hx)]
    rfl
theorem all_dep {k : Nat} : ∀ ds : List PyData, (∀ d ∈ ds, d.depth ≤ k) → PyData.depthAll ds ≤ k
  | [], _ => Nat.zero_le _
  | d :: r, h => by
    have a := h d (.head _)
    have b := all_dep r fun x hx => h x (.tail _ hx)
    show max d.depth (PyData.depthAll r) ≤ k
    omega
theorem Gd.can {k : Nat} {d : PyData} (h : Gd k d) : d.showable = true ∧ d.hasDict = false ∧ d.depth ≤ k := by
  induction h with
  | non => exact ⟨rfl, rfl, Nat.zero_le _⟩
  | bl b => exact ⟨rfl, rfl, Nat.zero_le _⟩
  | int h => exact ⟨decide_eq_true (by omega), rfl, Nat.zero_le _⟩
  | str h h2 => exact ⟨rfl, rfl, Nat.zero_le _⟩
  | lst n h ih => exact ⟨all_show _ fun d hd => (ih d hd).1, all_nod _ fun d hd => (ih d hd).2.1, Nat.succ_le_succ (all_dep _ fun d hd => (ih d hd).2.2)⟩
  | tup n h ih => exact ⟨all_show _ fun d hd => (ih d hd).1, all_nod _ fun d hd => (ih d hd).2.1, Nat.succ_le_succ (all_dep _ fun d hd => (ih d hd).2.2)⟩
theorem gB3 : gB 3 ≤ sizeLine := by
  rw [sizeLine_eq]
  decide
theorem repr_th {K : PySem.W.Frag} {N : Addr} {H : Hp} {v : V} {d : PyData} {σ : L2.St} {i : Nat} {Q : VK} (h : Th N H v d) (g : Gd 3 d) (hi : σ[i]? = some (some v)) (q : Q (.str d.shown) H) : tCB (rRepr K) (tCons (tVar i) tNil) σ H Q :=
  ⟨v, hi, v, d, rfl, h.dp, g.can.1, g.can.2.1, Nat.le_trans g.can.2.2 (by decide), Nat.le_trans g.shown gB3, q⟩
end Eh
set_option Elab.async false
set_option linter.all false
set_option maxRecDepth 100000
set_option maxHeartbeats 4000000
/-! the end of a law whose defs have tables of code objects; no guard stands around the law's own body -/
namespace EndG
open PySem PySem.Spec PyProof.Rows L2 GxR
abbrev tabO : Obj := { cls := .none, data := .fields #[] }
abbrev lstO (vs : List Value) : Obj := { cls := .type "list", data := .seq vs.toArray }
/-- what the law may track at first: the tables, and the script if it isn't K's -/
def h0 (ts : List Addr) (a : Addr) (fz : Bool) (vs : List Value) (ns : List Int) : Hp := fun b => if b ∈ ts then some (.tbl #[]) else if b = a ∧ fz = true then some (.frz (lstO vs) (.lst (ns.map V.int))) else none
section
variable {ts : List Addr} {a b : Addr} {fz : Bool} {vs : List Value} {ns : List Int}
theorem h0_t (h : b ∈ ts) : h0 ts a fz vs ns b = some (.tbl #[]) := if_pos h
theorem h0_a (h : a ∉ ts) (z : fz = true) : h0 ts a fz vs ns a = some (.frz (lstO vs) (.lst (ns.map V.int))) := (if_neg h).trans (if_pos ⟨rfl, z⟩)
theorem h0_n (h : b ∉ ts) (z : ¬ (b = a ∧ fz = true)) : h0 ts a fz vs ns b = none := (if_neg h).trans (if_neg z)
theorem h0_or : b ∈ ts ∨ (b ∉ ts ∧ b = a ∧ fz = true) ∨ h0 ts a fz vs ns b = none := by
  by_cases h : b ∈ ts
  · exact .inl h
  · by_cases z : b = a ∧ fz = true
    · exact .inr (.inl ⟨h, z⟩)
    · exact .inr (.inr (h0_n h z))
end
/-- a body runs: one context -/
theorem enter {CX : CXT} {P : Program} {w : World} {K : PySem.W.Frag} {mg : Str → Option Value} {base : Heap} {k : Nat} {f : Addr} {name qual : Str} {params : Arguments} {body : List Stmt} {scope : Scope} {dV kV doc pm cdv ct oc : Value} {an od : Option Addr} {osl : Array (Option Value)} {N ps : List Str}
    {A : Around} {outer : List Env} {z : Shared} {H : Hp} {args : Args} {us : List Value} {vs : List V} {Q : VK} {E : XK} {t : TS}
    (lk : K.lookup f = some ⟨oc, od, .func (PySem.W.fnOf name qual params body scope dV kV doc pm an cdv ct), osl⟩) (cd : PySem.W.codeIn K cdv qual = true) (S : FnScope N ps scope) (hr : Room (k + 1) A) (e0 : Env0 P w K mg base A outer z H)
    (bi : BindsTo z (PySem.W.fnOf name qual params body scope dV kV doc pm an cdv ct) args (ps.zip us)) (rv : Vals vs us) (hl : vs.length = ps.length)
    (ht : PSs (cxOf CX P w K mg base N qual scope f cdv A outer z H E) body t) (hq : t { nx := fun _ H' => Q .non H', rt := Q } (start N vs) H) :
    codeAny (model P w) A (.call (.ref f) args) (CR CX outer P w H z Q E) z := by
  have kb : ∀ b o, base.get? b = some o → z.heap.get? b = some o := fun b o e => (e0.bs b o e).1
  have kz : K.In z.heap := e0.mod.kin.keeps kb
  refine codeAny_call_function hr.depth (kz _ _ lk) rfl S.co S.gen rfl (PySem.W.codeRec_of kz cd) (bi _ _ _ _ ?_)
  refine wpAny_newFunctionEnv_cells S.kind (fun y hy => ?_) fun env he z1 x => ?_
  · rcases S.par y.1 (List.of_mem_zip hy).1 with q | q
    · exact .inl q
    · exact .inr ⟨q, PySem.W.cellsFrom_some _ _ _ (.inl q)⟩
  subst he
  refine ⟨(e0.mod.nolimit.keeps kb).keeps x.toInCall.keep, codeAny_func (wpAny_mono (ht.run [] z1 (start N vs) H _ (inv_start S hr.hd e0 hl rv x) hq) (fun fl z' hs => ?_) fun e z' hs => hs)⟩
  cases fl with
  | ret u =>
    obtain ⟨v, _, H', J, r, q⟩ := hs
    exact ⟨v, H', J.os, J.bare, J.base, J.hok, r, q⟩
  | next =>
    obtain ⟨_, H', J, q⟩ := hs
    exact ⟨.non, H', J.os, J.bare, J.base, J.hok, rfl, q⟩
  | brk =>
    obtain ⟨_, _, _, q⟩ := hs
    exact q.elim
  | cont =>
    obtain ⟨_, _, _, q⟩ := hs
    exact q.elim
/-- the law is called -/
theorem law_callG {P : Program} {w : World} {K : PySem.W.Frag} {mg mb : Str → Option Value} {CX : CXT} {fa a : Addr} {cs : List (Addr × Addr)} {z : Shared} {vs : List Value} {ns : List Int}
    (kx : K.In z.heap) (gn : z.heap.Ns mainGlobals mg) (bn : z.heap.Ns builtinsNs mb) (bb : ∀ x : Str, x ≠ "__name__" → mb x = bootBuiltins x) (nl : z.heap.NoLimit) (g0 : z.gens = #[])
    (tb : ∀ p ∈ cs, z.heap.get? p.2 = some tabO) (tn : ∀ p ∈ cs, K.lookup p.2 = none) (ch : ∀ p ∈ cs, PySem.W.CodeHd z.heap p.1 p.2)
    (bm : ∃ (bm : Addr) (ob : Obj), mg "__builtins__" = some (.ref bm) ∧ bm ≠ builtinsNs ∧ z.heap.get? bm = some ob ∧ ob.cls = .type "module" ∧ ob.dict = some builtinsNs ∧ ob.data = .plain)
    (sc : z.heap.get? a = some (lstO vs)) (si : IntsAre vs ns) (sl : ns.length ≤ sizeLine)
    (run : ∀ (base : Heap) (H : Hp), K.In base → base.Ns mainGlobals mg → (∀ p ∈ cs, TabB base mg p.1 p.2) → (∀ p ∈ cs, H p.2 = some (.tbl #[])) → SqL K H a (ns.map V.int) → Env0 P w K mg base callerA [] z H →
      codeAny (model P w) callerA (.call (.ref fa) ⟨[.ref a], []⟩) (CR CX [] P w H z (fun v _ => v = .bl true) fun _ _ _ => False) z)
    (hCX : ∀ H e z', CX [] H z (fun _ _ _ => False) e z' → False) :
    codeAny (model P w) callerA (.call (.ref fa) ⟨[.ref a], []⟩) (fun r z' => r = .ok (.ret (.bool true)) ∧ OldK z.heap z'.heap ∧ z'.os = z.os ∧ AllBare z'.gens) z := by
  generalize hts : cs.map (·.2) = ts
  have inT : ∀ p ∈ cs, p.2 ∈ ts := fun p hp => hts ▸ List.mem_map.mpr ⟨p, hp, rfl⟩
  have ofT : ∀ b ∈ ts, ∃ p ∈ cs, p.2 = b := fun b hb => by
    rw [← hts] at hb
    exact List.mem_map.mp hb
  have tO : ∀ b ∈ ts, z.heap.get? b = some tabO := fun b hb => by
    obtain ⟨p, hp, rfl⟩ := ofT b hb
    exact tb p hp
  have aT : a ∉ ts := fun c => by
    have q := (tO a c).symm.trans sc
    have q2 : Data.fields #[] = Data.seq vs.toArray _ := congrArg Obj.data (Option.some.inj q)
    cases q2
  generalize hf : (K.lookup a).isNone = fz
  have rv := vals_ints si
  generalize eH : h0 ts a fz vs ns = H
  have Ht : ∀ b ∈ ts, H b = some (.tbl #[]) := fun b hb => eH ▸ h0_t hb
  have Ha : fz = true → H a = some (.frz (lstO vs) (.lst (ns.map V.int))) := fun c => eH ▸ h0_a aT c
  have Ho : ∀ b, b ∈ ts ∨ (b ∉ ts ∧ b = a ∧ fz = true) ∨ H b = none := fun b => eH ▸ h0_or
  have hS : SqL K H a (ns.map V.int) := by
    cases e : K.lookup a with
    | none => exact .inl (.inr ⟨_, Ha (by rw [← hf, e]; rfl)⟩)
    | some o =>
      have q := (kx a o e).symm.trans sc
      cases q
      exact .inr ⟨_, vs.toArray, _, e, rfl, rfl, rfl, by rw [List.size_toArray, si.length]; exact sl, by simpa using rv⟩
  have hok : HOk P w H z.heap := fun b o e => by
    rcases Ho b with c | ⟨_, rfl, c⟩ | c
    · rw [Ht b c] at e
      cases e
      exact tO b c
    · rw [Ha c] at e
      cases e
      exact ⟨sc, by rw [List.length_map]; exact sl, vs, _, rv, sc⟩
    · rw [c] at e
      cases e
  -- what isn't a table nor the script is in the ground
  have low : ∀ {b : Addr} {o : Obj}, z.heap.get? b = some o → (∀ x n, o.data ≠ .seq x n) → o.data ≠ .fields #[] → H b = none := fun {b o} e n1 n2 => by
    rcases Ho b with c | ⟨_, rfl, _⟩ | c
    · cases (tO b c).symm.trans e
      exact (n2 rfl).elim
    · cases sc.symm.trans e
      exact (n1 _ _ rfl).elim
    · exact c
  have nsG : ∀ {b : Addr} {m : Str → Option Value}, z.heap.Ns b m → (hidT z.heap H).Ns b m := fun {b m} ⟨o, es, ep, e, d, r⟩ =>
    ⟨o, es, ep, hidT_get e (low e (fun x n c => by rw [d] at c; cases c) fun c => by rw [d] at c; cases c), d, r⟩
  have kG : K.In (hidT z.heap H) := fun b o e => by
    refine hidT_get (kx b o e) ?_
    rcases Ho b with c | ⟨_, rfl, c⟩ | c
    · obtain ⟨p, hp, rfl⟩ := ofT b c
      rw [tn p hp] at e
      cases e
    · rw [← hf, e] at c
      cases c
    · exact c
  have TB : ∀ p ∈ cs, TabB (hidT z.heap H) mg p.1 p.2 := fun p hp => by
    refine ⟨?_, ?_, fun c => ?_⟩
    · obtain ⟨o, us, x1, x2, x3, x4, x5, x6, x7, e, r1, r2, r3, r⟩ := ch p hp
      refine ⟨o, us, x1, x2, x3, x4, x5, x6, x7, hidT_get e (low e (fun x n c => by rw [r2] at c; cases c) fun c => ?_), r1, r2, r3, r⟩
      rw [r2] at c
      cases c
      simp at r3
    · obtain ⟨m, ob, b1, b2, b3, b4, b5, b6⟩ := bm
      refine ⟨m, ob, b1, b2, fun c => ?_, fun c => ?_, hidT_get b3 (low b3 (fun x n c => by rw [b6] at c; cases c) fun c => by rw [b6] at c; cases c), b4, b5, b6⟩
      · obtain ⟨o, es, ep, e, d, _⟩ := gn
        rw [c] at b3
        cases b3.symm.trans e
        rw [b6] at d
        cases d
      · rw [c] at b3
        cases b3.symm.trans (tb p hp)
        cases b6
    · obtain ⟨o, es, ep, e, d, _⟩ := gn
      rw [c] at e
      cases e.symm.trans (tb p hp)
      cases d
  have e0 : Env0 P w K mg (hidT z.heap H) callerA [] z H :=
    { frames := rfl, mod := ⟨kG, nsG gn, ⟨mb, nsG bn, bb⟩, nl.elim fun mc q => ⟨mc, nsG q.1, q.2⟩⟩, bs := fun b o e => of_hidT e, bsz := Nat.le_of_eq (hidT_size _ _), funs := trivial, frf := (fun b (c : b ∈ ([] : List Addr)) => (List.not_mem_nil c).elim), hok := hok, bare := .of_eq g0 }
  refine codeAny_mono (run _ H kG (nsG gn) TB (fun p hp => Ht _ (inT p hp)) hS e0) fun r z' q => ?_
  cases r with
  | error e => exact (hCX H e z' q).elim
  | ok fl =>
    cases fl with
    | next => exact q.elim
    | brk => exact q.elim
    | cont => exact q.elim
    | ret u =>
      obtain ⟨v, H', os, ba, un, ok', r, e⟩ := q
      have e : v = .bl true := e
      subst e
      obtain rfl : u = Value.bool true := r
      have same : ∀ b o, b ∉ ts → z.heap.get? b = some o → z'.heap.get? b = some o := fun b o nb e => by
        rcases Ho b with c | ⟨_, rfl, c⟩ | c
        · exact (nb c).elim
        · have q1 := (ok' b _ (un.frzs b _ _ (Ha c))).1
          cases sc.symm.trans e
          exact q1
        · exact un.keep b o e c (fun d => by cases d) fun d => by cases d
      have more : ∀ b ∈ ts, ∃ xs : Array Value, z'.heap.get? b = some { cls := .none, data := .fields xs } := fun b hb => by
        obtain ⟨m, q⟩ := un.tbls b #[] (Ht b hb)
        exact ⟨_, ok' b _ q⟩
      refine ⟨rfl, ⟨fun b o e => ?_, fun b o e => ?_⟩, os, ba⟩
      · by_cases c : b ∈ ts
        · obtain ⟨xs, q⟩ := more b c
          cases (tO b c).symm.trans e
          obtain ⟨p, hp, rfl⟩ := ofT b c
          exact .inr (.inl ⟨((ch p hp).tab (tb p hp)).isCodeTable, rfl, #[], xs, rfl, by rw [Array.empty_append]; exact q⟩)
        · exact .inl (same b o c e)
      · by_cases c : b ∈ ts
        · obtain ⟨xs, q⟩ := more b c
          exact ⟨_, q⟩
        · exact ⟨o, same b o c e⟩
/-- each of these defs has an empty table -/
def Tabs (nms : List Str) (K : PySem.W.Frag) (mg : Str → Option Value) (h : Heap) : Prop := ∀ nm ∈ nms, ∀ f, mg nm = some (.ref f) → LamX.OwnTab K f h
/-- the law, at the head's heap h -/
def LawAtG (l : PySem.W.OpenLaw) (w : World) (K : PySem.W.Frag) (CX : CXT) (n : Nat) (mg : Str → Option Value) (fa : Addr) (h : Heap) : Prop :=
  ∃ cs : List (Addr × Addr), (∀ p ∈ cs, h.get? p.2 = some tabO) ∧ (∀ p ∈ cs, K.lookup p.2 = none) ∧ (∀ p ∈ cs, PySem.W.CodeHd h p.1 p.2) ∧
    ∀ (base : Heap) (H : Hp) (z : Shared) (a : Addr) (ns : List Int), K.In base → base.Ns mainGlobals mg → (∀ p ∈ cs, TabB base mg p.1 p.2) → (∀ p ∈ cs, H p.2 = some (.tbl #[])) → SqL K H a (ns.map V.int) → ns.length ≤ n → (∀ i ∈ ns, Builtin.Int.intBits i ≤ 1048576) → Env0 l.prog w K mg base callerA [] z H →
      codeAny (model l.prog w) callerA (.call (.ref fa) ⟨[.ref a], []⟩) (CR CX [] l.prog w H z (fun v _ => v = .bl true) fun _ _ _ => False) z
theorem walkG {l : PySem.W.OpenLaw} {n : Nat} {q : Program} {loose : List Str} {XP : (Str → Option Value) → Heap → Prop} {YP : World → Heap → Prop} {d : DefRec} {K : Params → PySem.W.Frag} {CX : World → CXT} (nms : List Str)
    (hn : l.most = some n) (hn2 : n ≤ sizeLine) (hdf : d.params.defaults = []) (hrec : (nms.all fun nm => (recsOf q).any fun e => e.name == nm) = true) (hY : ∀ (w : World) (h : Heap), YP w h → (K w.params).In h)
    (F : ∀ (w : World) (mg : Str → Option Value) (fa : Addr) (h : Heap), YP w h → (K w.params).In h → h.Ns mainGlobals mg → mg d.name = some (.ref fa) → Tabs nms (K w.params) mg h → LawAtG l w (K w.params) (CX w) n mg fa h)
    (hCX : ∀ (w : World) (H : Hp) (s : Shared) (e : Value) (s' : Shared), CX w [] H s (fun _ _ _ => False) e s' → False) :
    PySem.W.WalkO q loose XP YP l.row.toRowW d [] (fun f vs => PySem.call f vs) := by
  refine Att.attach_callB hn hdf fun w _ z mg mb fa _ _ _ _ a vs ns G Y _ _ _ hmg hobj hints hlen hbits hg => ?_
  have kx := hY w _ Y
  have own : Tabs nms (K w.params) mg z.heap := fun nm hm f hf c P o fd e dd us sl k1 k2 k3 k4 k5 => by
    obtain ⟨r, hr, he⟩ := List.any_eq_true.mp (List.all_eq_true.mp hrec nm hm)
    obtain ⟨_, _, _, _, _, h1, h2, h3, h4, _, ⟨_, _, e1, _, e3, e4⟩, hP⟩ := G.T.tab r hr
    rw [beq_iff_eq.mp he, hf] at h1
    cases h1
    cases (kx _ _ k1).symm.trans h2
    cases k2.symm.trans h3
    cases k3.symm.trans h4
    cases (kx _ _ k4).symm.trans e1
    cases e3
    cases k5.symm.trans e4
    exact hP
  obtain ⟨cs, t1, t2, t3, run⟩ := F w mg fa _ Y kx G.T.g hmg own
  exact law_callG kx G.T.g G.T.b G.T.builtins G.T.nolimit hg t1 t2 t3 G.T.bmain hobj hints (Nat.le_trans hlen hn2) (fun base H x1 x2 x3 x4 x5 x6 => run base H z a ns x1 x2 x3 x4 x5 hlen hbits x6) fun H e z' => hCX w H z e z'
end EndG
set_option Elab.async false
set_option linter.all false
set_option maxRecDepth 100000
set_option maxHeartbeats 4000000
namespace Eh
open PySem PySem.Spec PyProof.Rows L2 Evl GxR Gx
abbrev alphaS : Str := "abcdefghijklmnopqrstuvwxyz"
theorem alpha_mem (c : Nat) : decide (c ∈ alphaS.cps.toList) = azB c := by
  have h1 : alphaS.cps.toList = List.range' 97 26 := by decide +kernel
  rw [h1]
  unfold azB
  rw [Bool.eq_iff_iff, decide_eq_true_iff, List.mem_range'_1, Bool.and_eq_true, decide_eq_true_iff, decide_eq_true_iff]
abbrev nIsLetter : List Str := ["thing", "sign"]
theorem scIsLetter : FnScope nIsLetter ["thing"] (defScope sIsLetter) := ⟨rfl, rfl, rfl, by decide +kernel, rfl, by decide +kernel, by decide +kernel⟩
abbrev rInSg : R2 := fun x y H Q => ∃ (c : Nat) (z : Str), x = .str ⟨#[c]⟩ ∧ y = .str z ∧ Q (.bl (decide (c ∈ z.cps.toList))) H
theorem all_take {α : Type} {f : α → Bool} {l : List α} {i : Nat} {c : α} (h : (l.take i).all f = true) (hc : l[i]? = some c) (hf : f c = true) : (l.take (i + 1)).all f = true := by
  rw [List.take_add_one, hc, List.all_append, h]
  simp [hf]
theorem all_bad {α : Type} {f : α → Bool} {l : List α} {i : Nat} {c : α} (hc : l[i]? = some c) (hf : f c = false) : l.all f = false := by
  rw [Bool.eq_false_iff]
  intro h
  rw [List.all_eq_true] at h
  rw [h c (List.mem_of_getElem? hc)] at hf
  cases hf
theorem ifN {A B : Prop} (h : B) : if true = false then A else B := by
  rw [if_neg (by decide)]
  exact h
theorem ifY {A B : Prop} (h : A) : if false = false then A else B := by
  rw [if_pos rfl]
  exact h
section
variable {P : Program} {w : World} {K : PySem.W.Frag} {mg : Str → Option Value} {base : Heap}
def spIsLetter (PL : Addr) : Sp := fun vs H Q _ => ∃ (N : Addr) (v : V) (d : PyData), vs = [v] ∧ Th N H v d ∧ (∃ g, Gd g d) ∧ TabG H PL ∧ ∀ H', ET H H' → Q (.bl (isLetterD d)) H'
theorem ok_isLetter {f c PL : Addr} {fd : FuncData} {k : Nat} {t1 t2 : Tok} (F : FunC K "is_letter" "is_letter" sIsLetter f fd c) (TB : TabB base mg c PL) (mi : mg "isinstance" = none) (ms : mg "str" = none) (ml : mg "len" = none) (ma : mg "all" = none) (mS : mg "SMALL" = some (.str alphaS t1)) (mM : mg "MOST_SIGNS" = some (.int 8 t2)) : FnOk P w K mg base CX0 (k + 2) f fd ["thing"] (spIsLetter PL) := by
  have nd := scIsLetter.nd
  refine F.okC scIsLetter (fun vs H Q E h => ?_) (fun A outer s H vs Q E hr h => ?_)
  · obtain ⟨N, v, d, rfl, _⟩ := h
    rfl
  · obtain ⟨N, v, d, rfl, hT, ⟨g, hSh⟩, hTab, q⟩ := h
    refine ⟨_, pss_cons (ps_if (pt_not (pt_val (pe_callB call_isi (by rfl) mi (by decide +kernel) (pa_cons (pv 0) (pa_cons (pe_bltn (v := .ty "str") (by rfl) ms (by decide +kernel) rfl) pa_nil))))) (pss_one (ps_ret pe_bl)) pss_nil)
      (pss_one (ps_ret (pe_and (pe_chain op_le op_le pe_int (pe_callB call_len_str (by rfl) ml PySem.boot_len (pa_cons (pv 0) pa_nil)) (pe_glob (v := .int 8) rfl mM ⟨_, rfl⟩)) (pe_one
        (pe_allG (own := [("sign", 1)]) (gt := gName 1) (te := tOp rInSg (tVar 1) (tC (.str alphaS))) rfl nd hr (by rfl) ma TB rfl (pi_str (pv 0)) (blkOk_by (own := [("sign", 1)]) (N := nIsLetter) (sc := defScope sIsLetter) (by decide +kernel)) (by decide +kernel) rfl (fun _ _ _ _ _ _ _ => pg_name (i := 1) nd rfl (.inl rfl)) (fun _ _ _ _ _ _ _ _ => pe_cmpR op_in_sign (pv 1) (pe_glob (v := .str alphaS) rfl mS ⟨_, rfl⟩) rfl)))))), ?_⟩
    refine isi_str rfl hT ⟨_, rfl, ?_⟩
    cases hT with
    | str x =>
      refine iteF ?_
      have hx : x.length ≤ 1000 := by
        cases hSh with
        | str h _ => omega
      have e0 : isLetterD (.str x) = ltrB x := rfl
      rw [e0] at q
      refine ⟨_, rfl, x, rfl, Nat.le_trans hx (by decide), _, _, rfl, rfl, _, rfl, ?_⟩
      by_cases h1 : 1 ≤ x.length
      · rw [decide_eq_true (show (1 : Int) ≤ ((x.length : Nat) : Int) by omega)]
        refine ⟨_, _, rfl, rfl, _, rfl, ?_⟩
        by_cases h8 : x.length ≤ 8
        · rw [decide_eq_true (show ((x.length : Nat) : Int) ≤ 8 by omega)]
          refine iteT ⟨_, rfl, x, rfl, ?_⟩
          have e1 : ltrB x = (cs x).all azB := by
            unfold ltrB
            rw [decide_eq_true h1, decide_eq_true h8]
            rfl
          rw [e1] at q
          refine gx_str hTab (fun i H' => ET H H' ∧ ((cs x).take i).all azB = true) (fun H2 t => ⟨ET.grown hTab t, rfl⟩) ?_ ?_
          · rintro i c H' N hN hc ⟨eH, hall⟩
            refine ⟨rfl, _, rfl, c, _, rfl, rfl, _, rfl, ?_⟩
            rw [alpha_mem]
            cases hb : azB c with
            | true => exact ifN (hN _ ⟨eH, all_take hall hc hb⟩)
            | false =>
              have := q H' eH
              rw [all_bad hc hb] at this
              exact ifY this
          · rintro H' ⟨eH, hall⟩
            have e2 : x.cps.size = (cs x).length := by simp [cs]
            rw [e2, List.take_length] at hall
            have := q H' eH
            rw [hall] at this
            exact this
        · rw [decide_eq_false (show ¬ ((x.length : Nat) : Int) ≤ 8 by omega)]
          have : ltrB x = false := by
            unfold ltrB
            rw [decide_eq_false h8, Bool.and_false, Bool.false_and]
          rw [this] at q
          exact iteF (q H (ET.refl H))
      · rw [decide_eq_false (show ¬ (1 : Int) ≤ ((x.length : Nat) : Int) by omega)]
        have : ltrB x = false := by
          unfold ltrB
          rw [decide_eq_false h1, Bool.false_and, Bool.false_and]
        rw [this] at q
        exact ⟨_, rfl, iteF (q H (ET.refl H))⟩
    | _ => exact iteT (q H (ET.refl H))
end
end Eh
set_option Elab.async false
set_option linter.all false
set_option maxRecDepth 100000
set_option maxHeartbeats 4000000
namespace Eh
open PySem PySem.Spec PyProof.Rows L2 Evl GxR Gx Sx
abbrev nIsPart : List Str := ["thing", "least", "letter"]
theorem scIsPart : FnScope nIsPart ["thing", "least"] (defScope sIsPart) := ⟨rfl, rfl, rfl, by decide +kernel, rfl, by decide +kernel, by decide +kernel⟩
theorem sqt_of {K : PySem.W.Frag} {H : Hp} {a : Addr} {xs : List V} (h : H a = some (.tup xs)) : SqT K H a xs := st_of h
section
variable {P : Program} {w : World} {K : PySem.W.Frag} {mg : Str → Option Value} {base : Heap}
def spIsPart (PL PP : Addr) : Sp := fun vs H Q _ => ∃ (N : Addr) (v : V) (d : PyData) (m : Nat), vs = [v, .int (m : Int)] ∧ Th N H v d ∧ (∃ g, Gd g d) ∧ TabG H PL ∧ TabG H PP ∧ ∀ H', ET H H' → Q (.bl (isPartD m d)) H'
theorem ok_isPart {f c PL PP fIL : Addr} {fd dIL : FuncData} {k : Nat} {t2 : Tok} (F : FunC K "is_part" "is_part" sIsPart f fd c) (TB : TabB base mg c PP)
    (FIL : Fun K "is_letter" "is_letter" sIsLetter fIL dIL) (GIL : FnOk P w K mg base CX0 k fIL dIL ["thing"] (spIsLetter PL)) (bIL : Binds K dIL ["thing"] []) (gIL : mg "is_letter" = some (.ref fIL))
    (mi : mg "isinstance" = none) (mt : mg "tuple" = none) (ml : mg "len" = none) (ma : mg "all" = none) (mM : mg "MOST_OF_A_PART" = some (.int 4 t2)) : FnOk P w K mg base CX0 (k + 2) f fd ["thing", "least"] (spIsPart PL PP) := by
  have nd := scIsPart.nd
  refine F.okC scIsPart (fun vs H Q E h => ?_) (fun A outer s H vs Q E hr h => ?_)
  · obtain ⟨N, v, d, m, rfl, _⟩ := h
    rfl
  · obtain ⟨N, v, d, m, rfl, hT, ⟨g, hg⟩, tL, tP, q⟩ := h
    refine ⟨_, pss_cons (ps_if (PW.pt (pw_or (pt_not (pt_val (pe_callB call_isi (by rfl) mi (by decide +kernel) (pa_cons (pv 0) (pa_cons (pe_bltn (v := .ty "tuple") (by rfl) mt (by decide +kernel) rfl) pa_nil))))) (pw_or1 (pt_not (pt_chain op_le op_le (pv 1) (pe_callB call_len_seq (by rfl) ml PySem.boot_len (pa_cons (pv 0) pa_nil)) (pe_glob (v := .int 4) rfl mM ⟨_, rfl⟩)))))) (pss_one (ps_ret pe_bl)) pss_nil)
      (pss_one (ps_ret (pe_allG (own := [("letter", 2)]) (gt := gName 2) (te := tCall (spIsLetter PL) [] E0 (tCons (tVar 2) tNil)) rfl nd hr (by rfl) ma TB rfl (pi_tup (pv 0)) (blkOk_by (own := [("letter", 2)]) (N := nIsPart) (sc := defScope sIsPart) (by decide +kernel)) (by decide +kernel) rfl (fun _ _ _ _ _ _ _ => pg_name (i := 2) nd rfl (.inl rfl)) (fun _ _ _ _ _ _ _ hr2 => pe_call GIL hr2 (by rfl) gIL FIL.kp bIL .nil pass0 (pa_cons (pv 2) pa_nil))))), ?_⟩
    refine isi_tup rfl hT ⟨_, rfl, ?_⟩
    cases hT with
    | @tup a xs ds ha hall =>
      refine iteF ?_
      have e0 := hall.len
      have hn : ds.length ≤ 16 ∧ ∀ d ∈ ds, ∃ g, Gd g d := by
        cases hg with
        | tup n h => exact ⟨n, fun d hd => ⟨_, h d hd⟩⟩
      have l16 : (xs.length : Int) < 2 ^ 63 := by
        have := hn.1
        omega
      refine ⟨_, rfl, _, rfl, _, _, rfl, .inr (st_of ha), _, _, rfl, rfl, _, rfl, ?_⟩
      have eD : isPartD m (.tuple ds) = ((decide (m ≤ ds.length) && decide (ds.length ≤ 4)) && ds.all isLetterD) := rfl
      rw [eD] at q
      rw [e0]
      by_cases h1 : m ≤ ds.length
      · rw [decide_eq_true (show ((m : Nat) : Int) ≤ ((ds.length : Nat) : Int) by omega)]
        refine ⟨_, _, rfl, rfl, _, rfl, ?_⟩
        rw [decide_eq_true h1] at q
        by_cases h4 : ds.length ≤ 4
        · rw [decide_eq_true (show ((ds.length : Nat) : Int) ≤ 4 by omega)]
          rw [decide_eq_true h4] at q
          refine iteF ?_
          refine ⟨_, rfl, a, rfl, ?_⟩
          refine ⟨⟨xs, st_of ha⟩, gx_tup (K := K) (xs := xs) tP (fun i H' => ET H H' ∧ (ds.take i).all isLetterD = true) (fun H2 t => ⟨ET.grown tP t, rfl⟩) (fun i H' h => st_of (h.1.tup ha)) ?_ ?_⟩
          · rintro i x H' N2 hN hx ⟨eH, hall2⟩
            obtain ⟨d, hd, hTd⟩ := hall.get hx
            refine ⟨rfl, _, rfl, N, x, d, rfl, hTd.et eH, hn.2 d (List.mem_of_getElem? hd), eH.tab _ tL, fun H3 e3 => ⟨_, rfl, ?_⟩⟩
            cases hb : isLetterD d with
            | true => exact ifN (hN _ ⟨eH.trans e3, all_take hall2 hd hb⟩)
            | false =>
              have := q H3 (eH.trans e3)
              rw [all_bad hd hb] at this
              exact ifY this
          · rintro H' ⟨eH, hall2⟩
            rw [e0, List.take_length] at hall2
            have := q H' eH
            rw [hall2] at this
            exact this
        · rw [decide_eq_false (show ¬ ((ds.length : Nat) : Int) ≤ 4 by omega)]
          rw [decide_eq_false h4] at q
          exact iteT (q H (ET.refl H))
      · rw [decide_eq_false (show ¬ ((m : Nat) : Int) ≤ ((ds.length : Nat) : Int) by omega)]
        rw [decide_eq_false h1] at q
        exact ⟨_, rfl, iteT (q H (ET.refl H))⟩
    | _ => exact iteT (q H (ET.refl H))
end
end Eh
set_option Elab.async false
set_option linter.all false
set_option maxRecDepth 100000
set_option maxHeartbeats 4000000
namespace Eh
open PySem PySem.Spec PyProof.Rows L2 Evl GxR Gx Sx
abbrev nIsSheet : List Str := ["thing", "opens", "plains", "closes", "letters"]
theorem scIsSheet : FnScope nIsSheet ["thing"] (defScope sIsSheet) := ⟨rfl, rfl, rfl, by decide +kernel, rfl, by decide +kernel, by decide +kernel⟩
/-- a part that is one: its letters -/
theorem part_strs {N : Addr} {H : Hp} {v : V} {d : PyData} {m : Nat} (h : Th N H v d) (p : isPartD m d = true) : ∃ (a : Addr) (xs : List Str), v = .ref a ∧ H a = some (.tup (xs.map V.str)) ∧ dItems d = xs.map PyData.str ∧ xs.length ≤ 4 := by
  cases h with
  | @tup a vs ds ha hall =>
    have p : ((decide (m ≤ ds.length) && decide (ds.length ≤ 4)) && ds.all isLetterD) = true := p
    rw [Bool.and_eq_true, Bool.and_eq_true, decide_eq_true_iff, decide_eq_true_iff, List.all_eq_true] at p
    obtain ⟨⟨_, p4⟩, pl⟩ := p
    have key : ∀ (vs : List V) (ds : List PyData), ThAll N H vs ds → (∀ d ∈ ds, isLetterD d = true) → ∃ xs : List Str, vs = xs.map V.str ∧ ds = xs.map PyData.str := by
      intro vs ds h
      induction ds generalizing vs with
      | nil =>
        cases h
        exact fun _ => ⟨[], rfl, rfl⟩
      | cons d r ih =>
        intro hl
        cases h with
        | cons hd hr =>
          obtain ⟨xs, e1, e2⟩ := ih _ hr fun x hx => hl x (.tail _ hx)
          have h0 := hl d (.head _)
          cases hd with
          | str x => exact ⟨x :: xs, by rw [e1]; rfl, by rw [e2]; rfl⟩
          | _ => cases h0
    obtain ⟨xs, rfl, rfl⟩ := key vs ds hall pl
    rw [List.length_map] at p4
    exact ⟨a, xs, rfl, ha, rfl, p4⟩
  | _ => cases p
theorem strOf_map (xs : List Str) : (xs.map PyData.str).map strOf = xs := by
  induction xs with
  | nil => rfl
  | cons x r ih =>
    show x :: (r.map PyData.str).map strOf = _
    rw [ih]
/-- t + u: a tuple of both, all else as it was -/
theorem cat_rd {K : PySem.W.Frag} {H : Hp} {a b : Addr} {xs ys : List V} {Q : VK} (ha : H a = some (.tup xs)) (hb : H b = some (.tup ys)) (hz : xs.length + ys.length ≤ 1000) (q : ∀ p H', Ex H H' → H' p = some (.tup (xs ++ ys)) → Q (.ref p) H') : rCatA K (.ref a) (.ref b) H Q := by
  refine ⟨a, b, xs, ys, rfl, rfl, st_of ha, st_of hb, ?_, fun e => ?_, fun _ e => ?_, fun _ _ p hp => ?_⟩
  · rw [sizeLine_eq]
    omega
  · subst e
    exact q b H (Ex.refl H) hb
  · subst e
    exact q a H (Ex.refl H) (by rw [List.append_nil]; exact ha)
  · exact q p _ (Ex.new hp) upd_same
theorem v_int (a b : Nat) : decide (V.int (a : Int) = V.int (b : Int)) = decide (a = b) := by
  by_cases h : a = b
  · subst h
    simp
  · rw [decide_eq_false h, decide_eq_false]
    intro e
    cases e
    exact h rfl
theorem isSheet_no {ds : List PyData} (h : ds.length ≠ 3) : isSheetD (.tuple ds) = false := by
  match ds, h with
  | [], _ => rfl
  | [_], _ => rfl
  | [_, _], _ => rfl
  | [_, _, _], h => exact absurd rfl h
  | _ :: _ :: _ :: _ :: _, _ => rfl
section
variable {P : Program} {w : World} {K : PySem.W.Frag} {mg : Str → Option Value} {base : Heap}
def spIsSheet (PL PP : Addr) : Sp := fun vs H Q _ => ∃ (N : Addr) (v : V) (d : PyData), vs = [v] ∧ Th N H v d ∧ (∃ g, Gd g d) ∧ TabG H PL ∧ TabG H PP ∧ ∀ H', ET H H' → Q (.bl (isSheetD d)) H'
theorem ok_isSheet {f PL PP fIP : Addr} {fd dIP : FuncData} {k : Nat} (F : Fun K "is_sheet" "is_sheet" sIsSheet f fd)
    (Fis_part : Fun K "is_part" "is_part" sIsPart fIP dIP) (Gis_part : FnOk P w K mg base CX0 k fIP dIP ["thing", "least"] (spIsPart PL PP)) (bis_part : Binds K dIP ["thing", "least"] []) (gis_part : mg "is_part" = some (.ref fIP))
    (misinstance : mg "isinstance" = none) (mtuple : mg "tuple" = none) (mlen : mg "len" = none) (mset : mg "set" = none) : FnOk P w K mg base CX0 (k + 1) f fd ["thing"] (spIsSheet PL PP) := by
  have nd := scIsSheet.nd
  refine F.ok scIsSheet (fun vs H Q E h => ?_) (fun c A outer s H vs Q E hr h => ?_)
  · obtain ⟨N, v, d, rfl, _⟩ := h
    rfl
  · obtain ⟨N, v, d, rfl, hT, ⟨g, hg⟩, tL, tP, q⟩ := h
    refine ⟨_, (pss_cons (ps_if (PW.pt (pw_or (pt_not (pt_val (pe_callB call_isi (by rfl) misinstance (by decide +kernel) (pa_cons (pv 0) (pa_cons (pe_bltn (v := .ty "tuple") (by rfl) mtuple (by decide +kernel) rfl) pa_nil))))) (pw_or1 (pt_cmpR op_ne (pe_callB call_len_seq (by rfl) mlen PySem.boot_len (pa_cons (pv 0) pa_nil)) pe_int (nomark _))))) (pss_one (ps_ret pe_bl)) pss_nil)
      (pss_cons (ps_asg (pv 0) (pg_tup rfl (pgs_cons (pg_name (i := 1) nd rfl (.inl rfl)) (pgs_cons (pg_name (i := 2) nd rfl (.inl rfl)) (pgs_cons (pg_name (i := 3) nd rfl (.inl rfl)) pgs_nil)))))
      (pss_cons (ps_if (pt_not (PW.pt (pw_and (pt_val (pe_call Gis_part hr (by rfl) gis_part Fis_part.kp bis_part .nil pass0 (pa_cons (pv 1) (pa_cons pe_int pa_nil)))) (pw_and (pt_val (pe_call Gis_part hr (by rfl) gis_part Fis_part.kp bis_part .nil pass0 (pa_cons (pv 2) (pa_cons pe_int pa_nil)))) (pw_and1 (pt_val (pe_call Gis_part hr (by rfl) gis_part Fis_part.kp bis_part .nil pass0 (pa_cons (pv 3) (pa_cons pe_int pa_nil))))))))) (pss_one (ps_ret pe_bl)) pss_nil)
      (pss_cons (ps_set (i := 4) nd rfl (.inl rfl) (pe_op op_catA (pe_op op_catA (pv 1) (pv 2)) (pv 3)))
      (pss_one (ps_ret (pe_cmpR op_eq (pe_lenS rfl (by rfl) mlen (by rfl) mset (pv 4)) (pe_callB call_len_seq (by rfl) mlen PySem.boot_len (pa_cons (pv 4) pa_nil)) (nomark _)))))))), ?_⟩
    refine isi_tup rfl hT ⟨_, rfl, ?_⟩
    cases hT with
    | @tup a xs ds ha hall =>
      refine iteF ?_
      have e0 := hall.len
      have hn : ∀ d ∈ ds, ∃ g, Gd g d := by
        cases hg with
        | tup n h => exact fun d hd => ⟨_, h d hd⟩
      refine ⟨_, rfl, _, _, rfl, .inr (st_of ha), ?_⟩
      rw [e0]
      refine ⟨rfl, _, rfl, ?_⟩
      rw [show decide (V.int ((ds.length : Nat) : Int) = V.int 3) = decide (ds.length = 3) from v_int ds.length 3]
      by_cases h3 : ds.length = 3
      · rw [decide_eq_true h3]
        refine iteF ?_
        match ds, h3, hall with
        | [o, p, c2], _, .cons (v := vo) ho (.cons (v := vp) hp (.cons (v := vc) hc .nil)) =>
          have eD : isSheetD (.tuple [o, p, c2]) = (((isPartD 1 o && isPartD 0 p) && isPartD 1 c2) && unlikeD o p c2) := rfl
          rw [eD] at q
          obtain ⟨g1, G1⟩ := hn o (by simp)
          obtain ⟨g2, G2⟩ := hn p (by simp)
          obtain ⟨g3, G3⟩ := hn c2 (by simp)
          refine ⟨_, rfl, _, _, rfl, st_of ha, rfl, ?_⟩
          refine ⟨_, _, rfl, _, _, rfl, _, _, rfl, rfl, ?_⟩
          refine ⟨_, rfl, N, vo, o, 1, rfl, ho, ⟨g1, G1⟩, tL, tP, fun H1 e1 => ⟨_, rfl, ?_⟩⟩
          cases b1 : isPartD 1 o with
          | false =>
            rw [b1] at q
            exact iteF (iteT (q H1 e1))
          | true =>
          refine iteT ⟨_, rfl, N, vp, p, 0, rfl, hp.et e1, ⟨g2, G2⟩, e1.tab _ tL, e1.tab _ tP, fun H2 e2 => ⟨_, rfl, ?_⟩⟩
          cases b2 : isPartD 0 p with
          | false =>
            rw [b1, b2] at q
            exact iteF (iteT (q H2 (e1.trans e2)))
          | true =>
          have e12 := e1.trans e2
          refine iteT ⟨_, rfl, N, vc, c2, 1, rfl, hc.et e12, ⟨g3, G3⟩, e12.tab _ tL, e12.tab _ tP, fun H3 e3 => ⟨_, rfl, ?_⟩⟩
          have e13 := e12.trans e3
          cases b3 : isPartD 1 c2 with
          | false =>
            rw [b1, b2, b3] at q
            exact iteT (q H3 e13)
          | true =>
          refine iteF ?_
          obtain ⟨ao, os, rfl, hao, io, lo⟩ := part_strs ho b1
          obtain ⟨ap, ps, rfl, hap, ip, lp⟩ := part_strs hp b2
          obtain ⟨ac, qs, rfl, hac, ic, lc⟩ := part_strs hc b3
          have eU : unlikeD o p c2 = decide ((os ++ ps ++ qs).Nodup) := by
            unfold unlikeD
            rw [io, ip, ic, List.map_append, List.map_append, strOf_map, strOf_map, strOf_map]
          rw [b1, b2, b3, eU] at q
          refine ⟨_, rfl, _, rfl, cat_rd (e13.tup hao) (e13.tup hap) (by rw [List.length_map, List.length_map]; omega) fun a4 H4 x4 h4 => ?_⟩
          refine ⟨_, rfl, cat_rd h4 (x4 _ _ (e13.tup hac)) (by rw [List.length_append, List.length_map, List.length_map, List.length_map]; omega) fun a5 H5 x5 h5 => ?_⟩
          rw [← List.map_append, ← List.map_append] at h5
          have hl : (os ++ ps ++ qs).length ≤ 12 := by
            rw [List.length_append, List.length_append]
            omega
          refine ⟨_, rfl, a5, _, rfl, st_of h5, by omega, fun n hn1 hn2 => ⟨_, rfl, a5, _, rfl, .inr (st_of h5), rfl, ?_⟩⟩
          rw [List.length_map, v_int, decide_eq_decide.mpr hn2]
          exact q H5 ((e13.trans (ET.of x4)).trans (ET.of x5))
      · rw [decide_eq_false h3]
        rw [isSheet_no h3] at q
        exact iteT (q H (ET.refl H))
    | _ => exact iteT (q H (ET.refl H))
end
end Eh
set_option Elab.async false
set_option linter.all false
set_option maxRecDepth 100000
set_option maxHeartbeats 4000000
namespace Eh
open PySem PySem.Spec PyProof.Rows L2 Evl GxR Gx Sx
theorem tw_len {p : Nat → Bool} : ∀ l : List Nat, (l.takeWhile p).length ≤ l.length ∧ ((l.takeWhile p).length = l.length ↔ l.all p = true)
  | [] => ⟨Nat.le_refl _, by simp⟩
  | c :: r => by
    obtain ⟨h1, h2⟩ := tw_len (p := p) r
    cases hc : p c with
    | true =>
      rw [List.takeWhile_cons, if_pos hc, List.all_cons, hc, Bool.true_and, ← h2]
      simp only [List.length_cons]
      omega
    | false =>
      rw [List.takeWhile_cons, if_neg (by rw [hc]; decide), List.all_cons, hc]
      simp
theorem str0 {x : Str} (h : x.length = 0) : x = ("" : Str) := by
  obtain ⟨a⟩ := x
  have : a = #[] := Array.eq_empty_of_size_eq_zero h
  subst this
  decide +kernel
theorem drop_all {p : Nat → Bool} : ∀ l : List Nat, (l.drop (l.takeWhile p).length).all p = l.all p
  | [] => rfl
  | c :: r => by
    cases hc : p c with
    | true =>
      rw [List.takeWhile_cons, if_pos hc, List.length_cons, List.drop_succ_cons, drop_all r, List.all_cons, hc, Bool.true_and]
    | false =>
      rw [List.takeWhile_cons, if_neg (by rw [hc]; decide)]
      rfl
theorem strip_none (x y : Str) : decide (Txt.stripChars x y = ("" : Str)) = x.cps.toList.all y.cps.contains := by
  unfold Txt.stripChars
  rw [PyProof.Rows.stripBy_eq]
  generalize hg : y.cps.contains = g
  have e0 : stripLo g true x = (x.cps.toList.takeWhile g).length := by
    unfold stripLo
    rw [if_pos rfl]
  have e1 : stripHi g true x (stripLo g true x) = x.length - (((x.cps.toList).drop (stripLo g true x)).reverse.takeWhile g).length := by
    unfold stripHi
    rw [if_pos rfl]
  have el : x.length = x.cps.toList.length := by simp [Str.length]
  obtain ⟨a1, a2⟩ := tw_len (p := g) x.cps.toList
  obtain ⟨b1, b2⟩ := tw_len (p := g) (((x.cps.toList).drop (stripLo g true x)).reverse)
  rw [List.length_reverse, List.length_drop] at b1 b2
  have hl := size_strSub x (stripLo g true x) (stripHi g true x (stripLo g true x)) (by rw [e1]; omega)
  have hz : (Builtin.Str.strSub x (stripLo g true x) (stripHi g true x (stripLo g true x)) = ("" : Str)) ↔ stripHi g true x (stripLo g true x) - stripLo g true x = 0 := by
    rw [← hl]
    constructor
    · intro e
      rw [e]
      rfl
    · intro e
      exact str0 e
  rw [e1, e0] at hz
  rw [e0] at b1 b2
  rw [e1, e0]
  cases ha : x.cps.toList.all g with
  | true =>
    have := a2.mpr ha
    exact decide_eq_true (hz.mpr (by omega))
  | false =>
    refine decide_eq_false fun z0 => ?_
    have z := hz.mp z0
    have n1 : ¬ (x.cps.toList.takeWhile g).length = x.cps.toList.length := fun e => by
      rw [a2.mp e] at ha
      cases ha
    have n2 := b2.mp (by omega)
    -- then all of the rest goes, so all of it
    have n3 : x.cps.toList.all g = true := by
      rw [List.all_reverse, drop_all] at n2
      exact n2
    rw [n3] at ha
    cases ha
theorem strip_alpha (x : Str) : decide (Txt.stripChars x alphaS = ("" : Str)) = (cs x).all azB := by
  rw [strip_none]
  have : alphaS.cps.contains = azB := by
    funext c
    rw [← alpha_mem c, Bool.eq_iff_iff, decide_eq_true_iff, Array.contains_iff_mem, Array.mem_toList_iff]
  rw [this]
theorem lower_az {x : Str} (h : (cs x).all azB = true) : Txt.lower x = x := by
  have hz : ∀ c ∈ x.cps.toList, 97 ≤ c ∧ c < 123 := fun c hc => by
    have := List.all_eq_true.mp h c hc
    unfold azB at this
    rw [Bool.and_eq_true, decide_eq_true_iff, decide_eq_true_iff] at this
    exact this
  rw [PyProof.Rows.lower_ascii fun c hc => by have := hz c hc; omega]
  obtain ⟨a⟩ := x
  congr 1
  apply Array.ext'
  rw [Array.toList_map]
  have : ∀ l : List Nat, (∀ c ∈ l, 97 ≤ c ∧ c < 123) → l.map lo1 = l := by
    intro l
    induction l with
    | nil => exact fun _ => rfl
    | cons c r ih =>
      intro hl
      rw [List.map_cons, ih fun x hx => hl x (.tail _ hx)]
      have := hl c (.head _)
      unfold lo1
      rw [if_neg (by omega)]
  exact this _ hz
theorem v_str (a b : Str) : decide (V.str a = V.str b) = decide (a = b) := by
  by_cases h : a = b
  · subst h
    simp
  · rw [decide_eq_false h, decide_eq_false]
    intro e
    cases e
    exact h rfl
abbrev nLIsLetter : List Str := ["thing"]
theorem scLIsLetter : FnScope nLIsLetter ["thing"] (defScope sLawIsLetter) := ⟨rfl, rfl, rfl, by decide +kernel, rfl, by decide +kernel, by decide +kernel⟩
section
variable {P : Program} {w : World} {K : PySem.W.Frag} {mg : Str → Option Value} {base : Heap}
def spLIsLetter : Sp := fun vs H Q _ => ∃ (N : Addr) (v : V) (d : PyData), vs = [v] ∧ Th N H v d ∧ (∃ g, Gd g d) ∧ Q (.bl (isLetterD d)) H
theorem ok_lIsLetter {f : Addr} {fd : FuncData} {k : Nat} (F : Fun K "_law_is_letter" "_law_is_letter" sLawIsLetter f fd) (misinstance : mg "isinstance" = none) (mstr : mg "str" = none) (mlen : mg "len" = none) : FnOk P w K mg base CX0 (k + 1) f fd ["thing"] spLIsLetter := by
  have nd := scLIsLetter.nd
  refine F.ok scLIsLetter (fun vs H Q E h => ?_) (fun c A outer s H vs Q E hr h => ?_)
  · obtain ⟨N, v, d, rfl, _⟩ := h
    rfl
  · obtain ⟨N, v, d, rfl, hT, ⟨g, hg⟩, q⟩ := h
    refine ⟨_, (pss_cons (ps_if (PW.pt (pw_or (pt_not (pt_val (pe_callB call_isi (by rfl) misinstance (by decide +kernel) (pa_cons (pv 0) (pa_cons (pe_bltn (v := .ty "str") (by rfl) mstr (by decide +kernel) rfl) pa_nil))))) (pw_or (pt_cmpR op_lt (pe_callB call_len_str (by rfl) mlen PySem.boot_len (pa_cons (pv 0) pa_nil)) pe_int (nomark _)) (pw_or1 (pt_cmpR op_gt (pe_callB call_len_str (by rfl) mlen PySem.boot_len (pa_cons (pv 0) pa_nil)) pe_int (nomark _)))))) (pss_one (ps_ret pe_bl)) pss_nil)
      (pss_one (ps_ret (pe_and (pe_cmpR op_eq (pe_m1 PySem.F.slot_str_strip PySem.F.type_str_strip mt_stripChars (pv 0) pe_str) pe_str (nomark _)) (pe_one (pe_cmpR op_eq (pe_lower (pv 0)) (pv 0) (nomark _))))))), ?_⟩
    refine isi_str rfl hT ⟨_, rfl, ?_⟩
    cases hT with
    | str x =>
      refine iteF ?_
      have hx : x.length ≤ 40 := by
        cases hg with
        | str h _ => exact h
      have hs : x.length ≤ sizeLine := by
        rw [sizeLine_eq]
        omega
      have e0 : isLetterD (.str x) = ltrB x := rfl
      rw [e0] at q
      refine ⟨_, rfl, x, rfl, hs, _, _, rfl, rfl, _, rfl, ?_⟩
      by_cases h1 : x.length < 1
      · rw [decide_eq_true (show ((x.length : Nat) : Int) < 1 by omega)]
        have : ltrB x = false := by
          unfold ltrB
          rw [decide_eq_false (by omega), Bool.false_and, Bool.false_and]
        rw [this] at q
        exact iteT (iteT q)
      · rw [decide_eq_false (show ¬ ((x.length : Nat) : Int) < 1 by omega)]
        refine iteF ⟨_, rfl, x, rfl, hs, _, _, rfl, rfl, _, rfl, ?_⟩
        by_cases h8 : x.length ≤ 8
        · rw [decide_eq_false (show ¬ ((x.length : Nat) : Int) > 8 by omega)]
          have e1 : ltrB x = (cs x).all azB := by
            unfold ltrB
            rw [decide_eq_true (by omega), decide_eq_true h8]
            rfl
          rw [e1] at q
          refine iteF ⟨_, rfl, ⟨x, rfl⟩, x, alphaS, rfl, rfl, hs, rfl, _, rfl, ?_⟩
          rw [v_str, strip_alpha]
          cases hb : (cs x).all azB with
          | false =>
            rw [hb] at q
            exact iteF q
          | true =>
            refine iteT ⟨_, rfl, ⟨x, rfl⟩, x, rfl, rfl, by omega, _, rfl, rfl, ?_⟩
            rw [lower_az hb, decide_eq_true rfl]
            rw [hb] at q
            exact q
        · rw [decide_eq_true (show ((x.length : Nat) : Int) > 8 by omega)]
          have : ltrB x = false := by
            unfold ltrB
            rw [decide_eq_false h8, Bool.and_false, Bool.false_and]
          rw [this] at q
          exact iteT q
    | _ => exact iteT q
end
end Eh
set_option Elab.async false
set_option linter.all false
set_option maxRecDepth 100000
set_option maxHeartbeats 4000000
namespace Eh
open PySem PySem.Spec PyProof.Rows L2 Evl GxR Gx Sx
/-! when it is no sheet -/
def allIt (ds : List PyData) : List PyData := (ds.map dItems).flatten
theorem allIt_at {ds : List PyData} {k : Nat} {d : PyData} (h : ds[k]? = some d) : allIt ds = allIt (ds.take k) ++ (dItems d ++ allIt (ds.drop (k + 1))) := by
  obtain ⟨hk, rfl⟩ := List.getElem?_eq_some_iff.mp h
  have e : ds = ds.take k ++ (ds[k] :: ds.drop (k + 1)) := by
    rw [← List.drop_eq_getElem_cons hk, List.take_append_drop]
  conv => lhs; rw [e]
  unfold allIt
  rw [List.map_append, List.flatten_append, List.map_cons, List.flatten_cons]
theorem allIt_succ {ds : List PyData} {k : Nat} {d : PyData} (h : ds[k]? = some d) : allIt (ds.take (k + 1)) = allIt (ds.take k) ++ dItems d := by
  unfold allIt
  rw [List.take_add_one, h, List.map_append, List.flatten_append]
  simp
theorem sheet3 {ds : List PyData} (h3 : ds.length = 3) : ∃ o p c, ds = [o, p, c] ∧ isSheetD (.tuple ds) = (((isPartD 1 o && isPartD 0 p) && isPartD 1 c) && decide (((allIt ds).map strOf).Nodup)) := by
  match ds, h3 with
  | [o, p, c], _ =>
    refine ⟨o, p, c, rfl, ?_⟩
    show (((isPartD 1 o && isPartD 0 p) && isPartD 1 c) && unlikeD o p c) = _
    unfold unlikeD allIt
    simp [List.append_assoc]
theorem sheet_part {ds : List PyData} (h3 : ds.length = 3) {d : PyData} (hd : d ∈ ds) (hb : ∀ m, isPartD m d = false) : isSheetD (.tuple ds) = false := by
  obtain ⟨o, p, c, rfl, e⟩ := sheet3 h3
  rw [e]
  simp only [List.mem_cons, List.not_mem_nil, or_false] at hd
  rcases hd with rfl | rfl | rfl
  · rw [hb 1]
    rfl
  · rw [hb 0, Bool.and_false]
    rfl
  · rw [hb 1, Bool.and_false]
    rfl
theorem sheet_twice {ds : List PyData} (h3 : ds.length = 3) (hb : ¬ ((allIt ds).map strOf).Nodup) : isSheetD (.tuple ds) = false := by
  obtain ⟨o, p, c, rfl, e⟩ := sheet3 h3
  rw [e, decide_eq_false hb, Bool.and_false]
theorem part_no {d : PyData} (h : isTu d = false) (m : Nat) : isPartD m d = false := by
  cases d <;> first | rfl | cases h
theorem part_long {es : List PyData} (h : 4 < es.length) (m : Nat) : isPartD m (.tuple es) = false := by
  show ((decide (m ≤ es.length) && decide (es.length ≤ 4)) && es.all isLetterD) = false
  rw [decide_eq_false (by omega : ¬ es.length ≤ 4), Bool.and_false, Bool.false_and]
theorem part_item {es : List PyData} {j : Nat} {e : PyData} (he : es[j]? = some e) (hb : isLetterD e = false) (m : Nat) : isPartD m (.tuple es) = false := by
  show ((decide (m ≤ es.length) && decide (es.length ≤ 4)) && es.all isLetterD) = false
  rw [all_bad he hb, Bool.and_false]
/-- all parts are letters' tuples -/
structure GoodP (ds : List PyData) (xs : List Str) : Prop where
  it : allIt ds = xs.map PyData.str
  nd : xs.Nodup
  lt : ∀ x ∈ xs, ltrB x = true
  tu : ∀ d ∈ ds, ∃ es, d = .tuple es ∧ es.length ≤ 4
theorem allIt_len : ∀ ds : List PyData, (∀ d ∈ ds, ∃ es, d = .tuple es ∧ es.length ≤ 4) → (allIt ds).length ≤ 4 * ds.length
  | [], _ => Nat.le_refl _
  | d :: r, h => by
    have ih := allIt_len r fun x hx => h x (.tail _ hx)
    obtain ⟨es, rfl, l⟩ := h d (.head _)
    have e : allIt (.tuple es :: r) = es ++ allIt r := rfl
    rw [e, List.length_append, List.length_cons]
    omega
theorem GoodP.len {ds : List PyData} {xs : List Str} (G : GoodP ds xs) : xs.length ≤ 4 * ds.length := by
  have h := allIt_len ds G.tu
  rw [G.it, List.length_map] at h
  exact h
theorem ltr_ok {x : Str} (h : ltrB x = true) : PyData.strOk x = true := by
  unfold ltrB at h
  rw [Bool.and_eq_true] at h
  unfold PyData.strOk
  rw [← Array.all_toList, List.all_eq_true]
  intro c hc
  have := List.all_eq_true.mp h.2 c hc
  unfold azB at this
  rw [Bool.and_eq_true, decide_eq_true_iff, decide_eq_true_iff] at this
  exact decide_eq_true (by omega)
theorem strs_lay : ∀ z : List Str, (∀ x ∈ z, ltrB x = true) → PyData.canLayAll0 (z.map PyData.str) = true
  | [], _ => rfl
  | x :: r, h => by
    rw [List.map_cons, PyData.canLayAll0, strs_lay r fun y hy => h y (.tail _ hy), PyData.canLay0, ltr_ok (h x (.head _))]
    rfl
theorem strs_dep : ∀ z : List Str, PyData.depthAll (z.map PyData.str) = 0
  | [] => rfl
  | x :: r => by
    rw [List.map_cons, PyData.depthAll, strs_dep r]
    rfl
theorem strs_shaped (z : List Str) (h : ∀ x ∈ z, ltrB x = true) : SeqAt.shaped (.tuple (z.map PyData.str)) = true := by
  unfold SeqAt.shaped
  rw [Bool.and_eq_true]
  refine ⟨strs_lay z h, decide_eq_true ?_⟩
  show PyData.depthAll (z.map PyData.str) + 1 ≤ 64
  rw [strs_dep]
  decide
theorem good_sheet {ds : List PyData} (h3 : ds.length = 3) {xs : List Str} (G : GoodP ds xs) : ∃ o p c : List Str, ds = [.tuple (o.map PyData.str), .tuple (p.map PyData.str), .tuple (c.map PyData.str)] ∧ (∀ x ∈ o, ltrB x = true) ∧ (∀ x ∈ c, ltrB x = true) ∧ isSheetD (.tuple ds) = (!decide (o = []) && !decide (c = [])) := by
  obtain ⟨o, p, c, rfl, e⟩ := sheet3 h3
  obtain ⟨eo, rfl, lo⟩ := G.tu o (by simp)
  obtain ⟨ep, rfl, lp⟩ := G.tu p (by simp)
  obtain ⟨ec, rfl, lc⟩ := G.tu c (by simp)
  have hi : eo ++ (ep ++ ec) = xs.map PyData.str := by
    have := G.it
    unfold allIt at this
    simpa [dItems] using this
  have st : ∀ l : List PyData, (∀ d ∈ l, d ∈ xs.map PyData.str) → ∃ ys : List Str, l = ys.map PyData.str ∧ l.all isLetterD = true := by
    intro l
    induction l with
    | nil => exact fun _ => ⟨[], rfl, rfl⟩
    | cons d r ih =>
      intro hl
      obtain ⟨ys, e1, e2⟩ := ih fun x hx => hl x (.tail _ hx)
      obtain ⟨x, hx, rfl⟩ := List.mem_map.mp (hl d (.head _))
      refine ⟨x :: ys, by rw [e1]; rfl, ?_⟩
      rw [List.all_cons, e2, Bool.and_true]
      exact G.lt x hx
  obtain ⟨o, rfl, ao⟩ := st eo fun d hd => by rw [← hi]; simp [hd]
  obtain ⟨p, rfl, ap⟩ := st ep fun d hd => by rw [← hi]; simp [hd]
  obtain ⟨c, rfl, ac⟩ := st ec fun d hd => by rw [← hi]; simp [hd]
  rw [List.length_map] at lo lp lc
  have bk : ∀ z : List Str, (z.map PyData.str).all isLetterD = true → ∀ x ∈ z, ltrB x = true := fun z hz x hx => List.all_eq_true.mp hz (.str x) (List.mem_map.mpr ⟨x, hx, rfl⟩)
  refine ⟨o, p, c, rfl, bk o ao, bk c ac, ?_⟩
  have pt : ∀ (m : Nat) (z : List Str), z.length ≤ 4 → (z.map PyData.str).all isLetterD = true → isPartD m (.tuple (z.map PyData.str)) = decide (m ≤ z.length) := fun m z h1 h2 => by
    show ((decide (m ≤ (z.map PyData.str).length) && decide ((z.map PyData.str).length ≤ 4)) && (z.map PyData.str).all isLetterD) = _
    rw [h2, List.length_map, decide_eq_true h1, Bool.and_true, Bool.and_true]
  have ez : ∀ z : List Str, decide (1 ≤ z.length) = !decide (z = []) := fun z => by
    cases z with
    | nil => rfl
    | cons _ _ => rfl
  rw [e, G.it, strOf_map, decide_eq_true G.nd, pt 1 o lo ao, pt 0 p lp ap, pt 1 c lc ac, decide_eq_true (Nat.zero_le _), Bool.and_true, Bool.and_true, ez, ez]
theorem inV_st (x : Str) : ∀ os : List Str, inV (.str x) (os.map V.str) = decide (x ∈ os)
  | [] => rfl
  | y :: r => by
    show (eqV (.str y) (.str x) || inV (.str x) (r.map V.str)) = _
    rw [inV_st x r, show eqV (.str y) (.str x) = (y == x) from rfl]
    by_cases h : y = x
    · subst h
      simp
    · rw [beq_eq_false_iff_ne.mpr h, Bool.false_or, decide_eq_decide, List.mem_cons]
      exact ⟨.inr, fun z => z.resolve_left fun e => h e.symm⟩
abbrev nLIsSheet : List Str := ["thing", "seen", "part", "one"]
theorem scLIsSheet : FnScope nLIsSheet ["thing"] (defScope sLawIsSheet) := ⟨rfl, rfl, rfl, by decide +kernel, rfl, by decide +kernel, by decide +kernel⟩
section
variable {P : Program} {w : World} {K : PySem.W.Frag} {mg : Str → Option Value} {base : Heap}
def spLIsSheet : Sp := fun vs H Q _ => ∃ (N : Addr) (v : V) (d : PyData), vs = [v] ∧ Th N H v d ∧ (∃ g, Gd g d) ∧ ∀ H', Ex H H' → Q (.bl (isSheetD d)) H'
theorem ok_lIsSheet {f fL : Addr} {fd dL : FuncData} {k : Nat} (F : Fun K "_law_is_sheet" "_law_is_sheet" sLawIsSheet f fd)
    (FL : Fun K "_law_is_letter" "_law_is_letter" sLawIsLetter fL dL) (GL : FnOk P w K mg base CX0 k fL dL ["thing"] spLIsLetter) (bL : Binds K dL ["thing"] []) (gL : mg "_law_is_letter" = some (.ref fL))
    (misinstance : mg "isinstance" = none) (mtuple : mg "tuple" = none) (mlen : mg "len" = none) : FnOk P w K mg base CX0 (k + 1) f fd ["thing"] spLIsSheet := by
  have nd := scLIsSheet.nd
  refine F.ok scLIsSheet (fun vs H Q E h => ?_) (fun c A outer s H vs Q E hr h => ?_)
  · obtain ⟨N, v, d, rfl, _⟩ := h
    rfl
  · obtain ⟨N, v, d, rfl, hT, ⟨g, hg⟩, q⟩ := h
    refine ⟨_, (pss_cons (ps_if (PW.pt (pw_or (pt_not (pt_val (pe_callB call_isi (by rfl) misinstance (by decide +kernel) (pa_cons (pv 0) (pa_cons (pe_bltn (v := .ty "tuple") (by rfl) mtuple (by decide +kernel) rfl) pa_nil))))) (pw_or1 (pt_cmpR op_ne (pe_callB call_len_seq (by rfl) mlen PySem.boot_len (pa_cons (pv 0) pa_nil)) pe_int (nomark _))))) (pss_one (ps_ret pe_bl)) pss_nil)
      (pss_cons (ps_set (i := 1) nd rfl (.inl rfl) (pe_lst pa_nil))
      (pss_cons (ps_for PassesOwn.never rfl (pi_tup (pv 0)) (pg_name (i := 2) nd rfl (.inl rfl)) (pss_cons (ps_if (PW.pt (pw_or (pt_not (pt_val (pe_callB call_isi (by rfl) misinstance (by decide +kernel) (pa_cons (pv 2) (pa_cons (pe_bltn (v := .ty "tuple") (by rfl) mtuple (by decide +kernel) rfl) pa_nil))))) (pw_or1 (pt_cmpR op_gt (pe_callB call_len_seq (by rfl) mlen PySem.boot_len (pa_cons (pv 2) pa_nil)) pe_int (nomark _))))) (pss_one (ps_ret pe_bl)) pss_nil)
      (pss_one (ps_for PassesOwn.never rfl (pi_tup (pv 2)) (pg_name (i := 3) nd rfl (.inl rfl)) (pss_cons (ps_if (PW.pt (pw_or (pt_not (pt_val (pe_call GL hr (by rfl) gL FL.kp bL .nil pass0 (pa_cons (pv 3) pa_nil)))) (pw_or1 (pt_cmpR op_in_seq (pv 3) (pv 1) (by rfl))))) (pss_one (ps_ret pe_bl)) pss_nil)
      (pss_one (ps_expr (pe_bm PySem.F.plainAttrs_list PySem.F.slot_list_append PySem.F.type_list_append mt_append (pv 1) (pa_cons (pv 3) pa_nil)))))))))
      (pss_one (ps_ret (pe_and (pe_cmpR (op_neD hr.units) (pe_ix ix_tup (pv 0) pe_int (fun _ _ => rfl)) (pe_tup pa_nil) (nomark _)) (pe_one (pe_cmpR (op_neD hr.units) (pe_ix ix_tup (pv 0) pe_int (fun _ _ => rfl)) (pe_tup pa_nil) (nomark _))))))))), ?_⟩
    refine isi_tup rfl hT ⟨_, rfl, ?_⟩
    cases hT with
    | @tup a vs ds ha hall =>
      refine iteF ?_
      have e0 := hall.len
      have hn : ∀ d ∈ ds, ∃ g, Gd g d := by
        cases hg with
        | tup n h => exact fun d hd => ⟨_, h d hd⟩
      refine ⟨_, rfl, _, _, rfl, .inr (st_of ha), ?_⟩
      rw [e0]
      refine ⟨rfl, _, rfl, ?_⟩
      rw [show decide (V.int ((ds.length : Nat) : Int) = V.int 3) = decide (ds.length = 3) from v_int ds.length 3]
      by_cases h3 : ds.length = 3
      · rw [decide_eq_true h3]
        refine iteF ?_
        refine ⟨by decide, fun L hL => ?_⟩
        have xL : Ex H (upd H L (.lst [])) := Ex.new hL
        refine ⟨_, rfl, a, rfl, ⟨_, st_of (xL _ _ ha)⟩, for_tup (K := K) (xs := vs) (fun i σ H' => ∃ (xs : List Str) (y2 y3 : Option V), σ = [some (.ref a), some (.ref L), y2, y3] ∧ Ex H H' ∧ H' L = some (.lst (xs.map V.str)) ∧ GoodP (ds.take i) xs) ⟨[], none, none, rfl, xL, upd_same, ⟨rfl, .nil, fun _ z => by simp at z, fun _ z => by simp at z⟩⟩ (fun i σ H' _ hh => ?_) ?_ ?_⟩
        · obtain ⟨xs, y2, y3, _, eH, _⟩ := hh
          exact st_of (eH _ _ ha)
        · rintro i x σ H' hx ⟨xs, y2, y3, rfl, eH, hLs, G⟩
          obtain ⟨d, hd, hTd⟩ := hall.get hx
          obtain ⟨gd, hgd⟩ := hn d (List.mem_of_getElem? hd)
          refine isi_tup rfl (hTd.et (ET.of eH)) ⟨_, rfl, ?_⟩
          cases hTd with
          | @tup b us es hb hus =>
            have hb' := eH _ _ hb
            have l0 := hus.len
            have hne : ∀ d ∈ es, ∃ g, Gd g d := by
              cases hgd with
              | tup n h => exact fun d hd => ⟨_, h d hd⟩
            have hnl : es.length ≤ 16 := by
              cases hgd with
              | tup n h => exact n
            refine iteF ⟨_, rfl, _, _, rfl, .inr (st_of hb'), ?_⟩
            rw [l0]
            refine ⟨_, _, rfl, rfl, _, rfl, ?_⟩
            by_cases h4 : es.length ≤ 4
            · rw [decide_eq_false (show ¬ ((es.length : Nat) : Int) > 4 by omega)]
              refine iteF ?_
              have nL : ∀ b o, H b = some o → b ≠ L := fun b o z => ne_of_none z hL
              refine ⟨_, rfl, b, rfl, ⟨_, st_of hb'⟩, for_tup (K := K) (xs := us) (fun j σ H2 => ∃ (zs : List Str) (y3 : Option V), σ = [some (.ref a), some (.ref L), some (.ref b), y3] ∧ Ex H H2 ∧ H2 L = some (.lst ((xs ++ zs).map V.str)) ∧ es.take j = zs.map PyData.str ∧ (xs ++ zs).Nodup ∧ ∀ z ∈ zs, ltrB z = true) ⟨[], y3, rfl, eH, by rw [List.append_nil]; exact hLs, rfl, by rw [List.append_nil]; exact G.nd, fun _ z => by simp at z⟩ (fun j σ H2 _ hh => ?_) ?_ ?_⟩
              · obtain ⟨zs, y3, _, e2, _⟩ := hh
                exact st_of (e2 _ _ hb)
              · rintro j x2 σ H2 hx2 ⟨zs, y3, rfl, e2, hL2, hz, hnd, hlt⟩
                obtain ⟨e, he, hTe⟩ := hus.get hx2
                refine ⟨_, rfl, N, x2, e, rfl, hTe.et (ET.of e2), hne e (List.mem_of_getElem? he), _, rfl, ?_⟩
                cases hb2 : isLetterD e with
                | false =>
                  rw [sheet_part h3 (List.mem_of_getElem? hd) (part_item he hb2)] at q
                  exact iteT (iteT (q H2 e2))
                | true =>
                  refine iteF ?_
                  cases hTe with
                  | str x =>
                    refine ⟨_, rfl, _, rfl, L, _, rfl, .inl (sq_of hL2), rfl, flat_strs _, _, rfl, ?_⟩
                    rw [if_neg (by decide), inV_st]
                    by_cases hm : x ∈ xs ++ zs
                    · rw [decide_eq_true hm]
                      refine iteT ?_
                      rw [sheet_twice h3 ?_] at q
                      · exact q H2 e2
                      · rw [allIt_at hd, G.it]
                        show ¬ ((xs.map PyData.str ++ (es ++ _)).map strOf).Nodup
                        have ees : es = zs.map PyData.str ++ (PyData.str x :: es.drop (j + 1)) := by
                          obtain ⟨hj, ej⟩ := List.getElem?_eq_some_iff.mp he
                          rw [← hz, ← ej, ← List.drop_eq_getElem_cons hj, List.take_append_drop]
                        rw [ees, List.map_append, List.map_append, List.map_append, strOf_map, strOf_map, List.map_cons]
                        show ¬ (xs ++ ((zs ++ x :: _) ++ _)).Nodup
                        rw [List.append_assoc zs, ← List.append_assoc xs, List.nodup_append]
                        rintro ⟨_, _, hh⟩
                        exact hh x hm x (by simp) rfl
                    · rw [decide_eq_false hm]
                      refine iteF ⟨_, rfl, .inl ⟨rfl, _, sq_of hL2⟩, _, rfl, L, _, _, rfl, rfl, hL2, ?_, zs ++ [x], _, rfl, fun b o z => ?_, ?_, ?_, ?_, ?_⟩
                      · have := congrArg List.length hz
                        rw [List.length_take, List.length_map] at this
                        have l1 := G.len
                        rw [List.length_take] at l1
                        rw [List.length_map, List.length_append, sizeLine_eq]
                        omega
                      · rw [upd_ne (nL b o z)]
                        exact e2 b o z
                      · rw [upd_same, ← List.append_assoc, List.map_append (l₂ := [x])]
                        rfl
                      · rw [List.take_add_one, he, hz, List.map_append]
                        rfl
                      · rw [← List.append_assoc, List.nodup_append]
                        refine ⟨hnd, by simp, fun y hy z hz2 e3 => ?_⟩
                        simp at hz2
                        rw [e3, hz2] at hy
                        exact hm hy
                      · intro z hz2
                        rcases List.mem_append.mp hz2 with c1 | c1
                        · exact hlt z c1
                        · simp at c1
                          rw [c1]
                          exact hb2
                  | _ => cases hb2
              · rintro σ H2 ⟨zs, y3, rfl, e2, hL2, hz, hnd, hlt⟩
                rw [l0, List.take_length] at hz
                refine ⟨xs ++ zs, _, _, rfl, e2, hL2, ?_, hnd, fun z hz2 => (List.mem_append.mp hz2).elim (G.lt z) (hlt z), fun d2 hd2 => ?_⟩
                · rw [allIt_succ hd, G.it, List.map_append, ← hz]
                  rfl
                · rw [List.take_add_one, hd] at hd2
                  rcases List.mem_append.mp hd2 with c1 | c1
                  · exact G.tu d2 c1
                  · simp at c1
                    exact ⟨es, c1, h4⟩
            · rw [decide_eq_true (show ((es.length : Nat) : Int) > 4 by omega)]
              refine iteT ?_
              rw [sheet_part h3 (List.mem_of_getElem? hd) (part_long (by omega))] at q
              exact q H' eH
          | _ =>
            rw [sheet_part h3 (List.mem_of_getElem? hd) (part_no rfl)] at q
            exact iteT (q H' eH)
        · rintro σ H' ⟨xs, y2, y3, rfl, eH, hLs, G⟩
          rw [e0, List.take_length] at G
          obtain ⟨o, p, c2, rfl, lo, lc, eD⟩ := good_sheet h3 G
          rw [eD] at q
          match vs, hall with
          | [vo, vp, vc], .cons ho (.cons hp (.cons hc .nil)) =>
            have sh0 : SeqAt.shaped (.tuple []) = true := by decide +kernel
            have eqz : ∀ z : List Str, PyData.eqv (.tuple (z.map PyData.str)) (.tuple []) = decide (z = []) := fun z => by
              cases z <;> rfl
            refine ⟨_, rfl, a, _, 0, vo, rfl, rfl, st_of (eH _ _ ha), rfl, by decide, fun T1 hT1 => ?_⟩
            have x1 : Ex H' (upd H' T1 (.tup [])) := Ex.new hT1
            refine ⟨_, _, (ho.et (ET.of (eH.trans x1))).dp, .tup (st_of upd_same) .nil, strs_shaped o lo, sh0, _, rfl, ?_⟩
            rw [eqz]
            by_cases c1 : o = []
            · rw [decide_eq_true c1] at q ⊢
              exact iteF (q _ (eH.trans x1))
            · rw [decide_eq_false c1] at q ⊢
              refine iteT ⟨_, rfl, a, _, 2, vc, rfl, rfl, st_of ((eH.trans x1) _ _ ha), rfl, by decide, fun T2 hT2 => ?_⟩
              have x2 : Ex (upd H' T1 (.tup [])) (upd (upd H' T1 (.tup [])) T2 (.tup [])) := Ex.new hT2
              refine ⟨_, _, (hc.et (ET.of ((eH.trans x1).trans x2))).dp, .tup (st_of upd_same) .nil, strs_shaped c2 lc, sh0, ?_⟩
              rw [eqz]
              exact q _ ((eH.trans x1).trans x2)
      · rw [decide_eq_false h3]
        rw [isSheet_no h3] at q
        exact iteT (q H (Ex.refl H))
    | _ => exact iteT (q H (Ex.refl H))
end
end Eh
set_option Elab.async false
set_option linter.all false
set_option maxRecDepth 100000
set_option maxHeartbeats 4000000
namespace Eh
open PySem PySem.Spec PyProof.Rows L2 Evl GxR Gx Sx
abbrev nText : List Str := ["pot", "small", "text", "at", "signs", "odd", "k"]
theorem scText : FnScope nText ["pot"] (defScope sLawText) := ⟨rfl, rfl, rfl, by decide +kernel, rfl, by decide +kernel, by decide +kernel⟩
abbrev signsS : Str := " !\"#$&'()*+,-./0123456789:;<=>?@ABCDEFGHIJKLMNOPQRSTUVWXYZ[\\]^_`{|}~\n"
theorem signs_len : signsS.length = 69 := by decide +kernel
theorem signs_asc : ∀ c ∈ cs signsS, c < 128 := by decide +kernel
/-- a short text of plain signs -/
structure Txt12 (x : Str) : Prop where
  len : (cs x).length ≤ 12
  asc : ∀ c ∈ cs x, c < 128
section
variable {P : Program} {w : World} {K : PySem.W.Frag} {mg : Str → Option Value} {base : Heap}
def spText : Sp := fun vs H Q _ => ∃ (p c : Addr) (ns : List Int), vs = [.ref p] ∧ Pot p c ns H ∧ ∀ (x : Str) H', Txt12 x → Keep p H H' → Pot p c ns H' → Q (.str x) H'
theorem ok_text {f fP : Addr} {fd fdP : FuncData} {k : Nat} (F : Fun K "_law_text" "_law_text" sLawText f fd) (FP : Fun K "_law_pick" "_law_pick" sPick fP fdP) (GP : FnOk P w K mg base CX0 (k + 1) fP fdP ["pot", "many"] spPick) (bP : Binds K fdP ["pot", "many"] []) (gP : mg "_law_pick" = some (.ref fP)) (mlen : mg "len" = none) (mrange : mg "range" = none) :
    FnOk P w K mg base CX0 (k + 2) f fd ["pot"] spText := by
  have nd := scText.nd
  refine F.ok scText (fun vs H Q E h => ?_) (fun cdv A outer s H vs Q E hr h => ?_)
  · obtain ⟨p, c, ns, rfl, _⟩ := h
    rfl
  · obtain ⟨p, c, ns, rfl, hP, q⟩ := h
    refine ⟨_, (pss_cons (ps_set (i := 1) nd rfl (.inr rfl) pe_str)
      (pss_cons (ps_set (i := 2) nd rfl (.inl rfl) (pe_join pe_str (pe_lc (own := [("k", 6)]) (g := gName 6) (tt := tYes) (te := tOp rIxS (tVar 1) (tCall spPick [] E0 (tCons (tVar 0) (tCons (tC (.int 26)) tNil)))) rfl nd (pi_range1 (by rfl) mrange (pa_cons (pe_call GP hr (by rfl) gP FP.kp bP .nil pass0 (pa_cons (pv 0) (pa_cons pe_int pa_nil))) pa_nil)) (blkOk_by (own := [("k", 6)]) (N := nText) (sc := defScope sLawText) (by decide +kernel)) (fun _ _ _ _ _ => pg_name (i := 6) nd rfl (.inl rfl)) (fun _ _ _ _ _ => pts_nil) (fun _ _ _ _ _ => (pe_ix ix_str (pv 1) (pe_call GP hr (by rfl) gP FP.kp bP .nil pass0 (pa_cons (pv 0) (pa_cons pe_int pa_nil))) (fun _ _ => rfl))))))
      (pss_cons (ps_set (i := 3) nd rfl (.inl rfl) (pe_call GP hr (by rfl) gP FP.kp bP .nil pass0 (pa_cons (pv 0) (pa_cons (pe_op op_add (pe_callB call_len_str (by rfl) mlen PySem.boot_len (pa_cons (pv 2) pa_nil)) pe_int) pa_nil))))
      (pss_cons (ps_set (i := 4) nd rfl (.inl rfl) pe_str)
      (pss_cons (ps_set (i := 5) nd rfl (.inl rfl) (pe_ix ix_list (pe_lst (pa_cons pe_str (pa_cons (pe_ix ix_str (pv 4) (pe_call GP hr (by rfl) gP FP.kp bP .nil pass0 (pa_cons (pv 0) (pa_cons (pe_callB call_len_str (by rfl) mlen PySem.boot_len (pa_cons (pv 4) pa_nil)) pa_nil))) (fun _ _ => rfl)) pa_nil))) (pe_call GP hr (by rfl) gP FP.kp bP .nil pass0 (pa_cons (pv 0) (pa_cons pe_int pa_nil))) (fun _ _ => rfl)))
      (pss_one (ps_ret (pe_op op_add_str (pe_op op_add_str (pe_slice sl_str (pv 2) po_none (po_some (pv 3))) (pv 5)) (pe_slice sl_str (pv 2) (po_some (pe_op op_add (pv 3) (pe_call GP hr (by rfl) gP FP.kp bP .nil pass0 (pa_cons (pv 0) (pa_cons pe_int pa_nil))))) po_none))))))))), ?_⟩
    refine ⟨⟨_, rfl⟩, _, rfl, p, c, ns, 11, rfl, by decide, by decide, hP, fun n H1 hn kp1 hP1 => ⟨_, rfl, by omega, by omega, fun D nD => ?_⟩⟩
    have hpD := hP1.ne_new nD
    refine lc_range (lo := 0) (n := ((n : Int)).toNat) (fun i H' => ∃ ds : List Nat, ds.length = i ∧ (∀ d ∈ ds, az d) ∧ H' D = some (.lst (ds.map fun d => .str ⟨#[d]⟩)) ∧ Keep p H1 H' ∧ Pot p c ns H') ?_ ?_ ?_
    · exact ⟨[], rfl, fun d hd => (List.not_mem_nil hd).elim, upd_same, (Keep.refl p H1).new nD, hP1.new hpD.1 hpD.2⟩
    · rintro i H' hi ⟨ds, hds, haz, hD, kp, hP'⟩
      refine ⟨rfl, yesT ?_⟩
      refine ⟨_, rfl, _, rfl, p, c, ns, 26, rfl, by decide, by decide, hP', fun v H2 hv kp2 hP2 => ?_⟩
      have hv' : v < 26 := by omega
      have hD2 : H2 D = some (.lst (ds.map fun d => .str ⟨#[d]⟩)) := kp2 _ _ hpD.1.symm hD
      refine ⟨_, _, 97 + v, rfl, rfl, by decide, alpha_at hv', _, hD2, ?_, ds ++ [97 + v], ?_, ?_, ?_, (kp.trans kp2).new nD, hP2.new hpD.1 hpD.2⟩
      · rw [List.length_map]
        exact sz_lt (by omega)
      · rw [List.length_append, hds]
        rfl
      · intro d hd
        rcases List.mem_append.mp hd with z | z
        · exact haz d z
        · rw [List.mem_singleton.mp z]
          unfold az
          omega
      · rw [upd_same, List.map_append]
        rfl
    · rintro H2 ⟨ds, hds, haz, hD, kp2, hP2⟩
      rw [Int.toNat_natCast] at hds
      have hlen : ((ds.map fun d => (⟨#[d]⟩ : Str)).map (·.length)).sum ≤ 100 := by
        have : ∀ l : List Nat, ((l.map fun d => (⟨#[d]⟩ : Str)).map (·.length)).sum = l.length := fun l => by
          induction l with
          | nil => rfl
          | cons x r ih =>
            rw [List.map_cons, List.map_cons, List.sum_cons, ih, List.length_cons, show (⟨#[x]⟩ : Str).length = 1 from rfl]
            omega
        rw [this]
        omega
      refine ⟨_, D, ds.map fun d => (⟨#[d]⟩ : Str), rfl, rfl, .inl (sq_of (by rw [List.map_map]; exact hD)), ?_, ?_⟩
      · rw [List.length_map, show (Str.ofString "").length = 0 from rfl]
        omega
      · generalize hR : Txt.join (Str.ofString "") (ds.map fun d => (⟨#[d]⟩ : Str)) = text
        have cR : cs text = ds := by
          rw [← hR]
          exact cs_join ds
        have lR : text.length = ds.length := by
          rw [len_cs, cR]
        refine ⟨_, rfl, _, rfl, text, rfl, sz_of (by omega), _, _, rfl, rfl, p, c, ns, _, rfl, by omega, by omega, hP2, fun at1 H3 h3 kp3 hP3 => ?_⟩
        have ls : ((signsS.length : Nat) : Int) = 69 := by rw [signs_len]; rfl
        refine ⟨_, rfl, _, rfl, _, rfl, signsS, rfl, sz_of (by rw [signs_len]; decide), p, c, ns, _, rfl, by omega, by omega, hP3, fun v H4 hv kp4 hP4 => ?_⟩
        have hv' : v < (cs signsS).length := by
          rw [← len_cs]
          omega
        refine ⟨_, _, (cs signsS)[v], rfl, rfl, sz_of (by rw [signs_len]; decide), atI_nat (List.getElem?_eq_getElem hv'), (by show 2 ≤ sizeLine; decide), fun t nt => ?_⟩
        have eT := Ex.new (o := .lst [.str "", .str ⟨#[(cs signsS)[v]]⟩]) nt
        refine ⟨_, rfl, p, c, ns, 2, rfl, by decide, by decide, hP4.ex eT, fun b H5 hb kp5 hP5 => ?_⟩
        have hpt := hP4.ne_new nt
        obtain ⟨odd, ho, lo, ao⟩ : ∃ odd : Str, ([.str "", .str ⟨#[(cs signsS)[v]]⟩] : List V)[b]? = some (.str odd) ∧ (cs odd).length ≤ 1 ∧ ∀ d ∈ cs odd, d < 128 := by
          rcases (show b = 0 ∨ b = 1 by omega) with rfl | rfl
          · exact ⟨"", rfl, by decide +kernel, by decide +kernel⟩
          · refine ⟨_, rfl, Nat.le_refl _, fun d hd => ?_⟩
            have : d = (cs signsS)[v] := List.mem_singleton.mp hd
            rw [this]
            exact signs_asc _ (List.getElem_mem hv')
        refine ⟨t, _, _, .str odd, rfl, rfl, sq_of (kp5 _ _ hpt.1.symm upd_same), atI_nat ho, ?_⟩
        have c1 := cs_cut0 text at1
        have k1 : (cutS text none (some (at1 : Int))).length ≤ 10 := by
          rw [len_cs, c1, List.length_take, cR]
          omega
        have lt : text.length ≤ sizeLine := sz_of (by omega)
        refine ⟨_, rfl, _, rfl, _, rfl, text, rfl, lt, _, rfl, _, _, rfl, rfl, ?_, _, rfl, _, rfl, _, rfl, p, c, ns, 2, rfl, by decide, by decide, hP5, fun g H6 hg kp6 hP6 => ?_⟩
        · rw [len_cs odd]
          exact sz_of (by omega)
        have eg : (at1 : Int) + (g : Int) = ((at1 + g : Nat) : Int) := by omega
        refine ⟨_, _, rfl, rfl, _, rfl, text, rfl, lt, _, _, rfl, rfl, ?_, ?_⟩
        · rw [eg, len_cs, len_cs, cs_app, List.length_append, c1, cs_cutF, List.length_take, List.length_drop, cR]
          exact sz_of (by omega)
        · rw [eg]
          refine q _ H6 ⟨?_, ?_⟩ ((((((kp1.trans kp2).trans kp3).trans kp4).trans (Keep.ofEx eT)).trans kp5).trans kp6) hP6
          · rw [cs_app, cs_app, List.length_append, List.length_append, c1, cs_cutF, List.length_take, List.length_drop, cR]
            omega
          · intro d hd
            rw [cs_app, cs_app, c1, cs_cutF, cR] at hd
            have az128 : ∀ d ∈ ds, d < 128 := fun d hd => by
              have := haz d hd
              unfold az at this
              omega
            rcases List.mem_append.mp hd with z | z
            · rcases List.mem_append.mp z with z | z
              · exact az128 d (List.mem_of_mem_take z)
              · exact ao d z
            · exact az128 d (List.mem_of_mem_drop z)
end
end Eh
set_option Elab.async false
set_option linter.all false
set_option maxRecDepth 100000
set_option maxHeartbeats 4000000
namespace Eh
open PySem PySem.Spec PyProof.Rows L2 Evl GxR Gx Sx
/-! things made of things -/
theorem ThAll.app {N : Addr} {H : Hp} : ∀ {vs us : List V} {ds es : List PyData}, ThAll N H vs ds → ThAll N H us es → ThAll N H (vs ++ us) (ds ++ es)
  | _, _, _, _, .nil, b => b
  | _, _, _, _, .cons a r, b => .cons a (ThAll.app r b)
theorem th_strs {N a : Addr} {H : Hp} {zs : List Str} (h : H a = some (.tup (zs.map V.str))) : Th N H (.ref a) (.tuple (zs.map PyData.str)) := .tup h (ThAll.strs zs)
theorem gd_lit {k : Nat} {x : Str} (h : (cs x).length ≤ 40) (h2 : ∀ c ∈ cs x, c < 128) : Gd k (.str x) := .str (by rw [len_cs]; exact h) fun c hc => Nat.lt_trans (h2 c hc) (by decide)
theorem gd_txt {k : Nat} {x : Str} (h : Txt12 x) : Gd k (.str x) := gd_lit (by have := h.len; omega) h.asc
theorem gd_ltr {k : Nat} {x : Str} (h : Ltr x) : Gd k (.str x) := gd_lit (by have := h.2.2; omega) fun c hc => by
  have := h.1 c hc
  unfold az at this
  omega
theorem gd_ltrs {k : Nat} {zs : List Str} (h : ∀ x ∈ zs, Ltr x) : ∀ d ∈ zs.map PyData.str, Gd k d := fun d hd => by
  obtain ⟨x, hx, rfl⟩ := List.mem_map.mp hd
  exact gd_ltr (h x hx)
theorem sl_rd {K : PySem.W.Frag} {H : Hp} {a : Addr} {xs : List V} {lo hi : Option Int} {Q : VK} (ha : H a = some (.tup xs)) (q : ∀ p H', Ex H H' → H' p = some (.tup (cutV xs lo hi)) → Q (.ref p) H') : rSlA K (.ref a) lo hi H Q := by
  refine ⟨a, xs, rfl, st_of ha, fun hw => ?_, fun _ p hp => q p _ (Ex.new hp) upd_same⟩
  refine q a H (Ex.refl H) ?_
  unfold cutV
  rw [hw.1, hw.2, List.drop_zero, Nat.sub_zero, List.take_length]
  exact ha
abbrev nOP : List Str := ["pot", "sheet", "part", "at", "some", "way", "odd"]
theorem scOP : FnScope nOP ["pot", "sheet", "part"] (defScope sLawOtherPart) := ⟨rfl, rfl, rfl, by decide +kernel, rfl, by decide +kernel, by decide +kernel⟩
section
variable {P : Program} {w : World} {K : PySem.W.Frag} {mg : Str → Option Value} {base : Heap}
def spOP : Sp := fun vs H Q _ => ∃ (p c s a : Addr) (ns : List Int) (os ps qs zs : List Str), vs = [.ref p, .ref s, .ref a] ∧ Pot p c ns H ∧ Sht os ps qs ∧ SheetAt H s os ps qs ∧ H a = some (.tup (zs.map V.str)) ∧ zs.length ≤ 4 ∧ (∀ x ∈ zs, Ltr x) ∧
  ∀ v d H', Th p H' v d → Gd 2 d → Keep p H H' → Pot p c ns H' → Q v H'
theorem ok_otherPart {f fP fT fL : Addr} {fd fdP fdT fdL : FuncData} {k : Nat} (F : Fun K "_law_other_part" "_law_other_part" sLawOtherPart f fd) (FP : Fun K "_law_pick" "_law_pick" sPick fP fdP) (GP : FnOk P w K mg base CX0 k fP fdP ["pot", "many"] spPick) (bP : Binds K fdP ["pot", "many"] []) (gP : mg "_law_pick" = some (.ref fP))
    (FT : Fun K "_law_text" "_law_text" sLawText fT fdT) (GT : FnOk P w K mg base CX0 k fT fdT ["pot"] spText) (bT : Binds K fdT ["pot"] []) (gT : mg "_law_text" = some (.ref fT))
    (FL : Fun K "_law_letters" "_law_letters" sLetters fL fdL) (GL : FnOk P w K mg base CX0 k fL fdL ["pot", "many"] spLetters) (bL : Binds K fdL ["pot", "many"] []) (gL : mg "_law_letters" = some (.ref fL)) (mlen : mg "len" = none) (mtuple : mg "tuple" = none) (mlist : mg "list" = none) :
    FnOk P w K mg base CX0 (k + 1) f fd ["pot", "sheet", "part"] spOP := by
  have nd := scOP.nd
  refine F.ok scOP (fun vs H Q E h => ?_) (fun cdv A outer s0 H vs Q E hr h => ?_)
  · obtain ⟨p, c, s, a, ns, os, ps, qs, zs, rfl, _⟩ := h
    rfl
  · obtain ⟨p, c, s, a, ns, os, ps, qs, zs, rfl, hP, hS, hs, ha, hz4, hzl, q⟩ := h
    refine ⟨_, (pss_cons (ps_set (i := 3) nd rfl (.inl rfl) (pe_call GP hr (by rfl) gP FP.kp bP .nil pass0 (pa_cons (pv 0) (pa_cons (pe_op op_add (pe_callB call_len_seq (by rfl) mlen PySem.boot_len (pa_cons (pv 2) pa_nil)) pe_int) pa_nil))))
      (pss_cons (ps_set (i := 4) nd rfl (.inl rfl) (pe_lst (pa_cons pe_str (pa_cons pe_str (pa_cons pe_str (pa_cons pe_str (pa_cons (pe_call GT hr (by rfl) gT FT.kp bT .nil pass0 (pa_cons (pv 0) pa_nil)) (pa_cons (pe_ix ix_tup (pe_ix ix_tup (pv 1) pe_int (fun _ _ => rfl)) pe_int (fun _ _ => rfl)) (pa_cons (pe_ix ix_tup (pe_ix ix_tup (pv 1) pe_int (fun _ _ => rfl)) (pe_un un_neg pe_int) (fun _ _ => rfl)) (pa_cons (pe_lst pa_nil) (pa_cons pe_int (pa_cons pe_non (pa_cons pe_bl (pa_cons (pe_tup (pa_cons pe_str pa_nil)) pa_nil))))))))))))))
      (pss_cons (ps_set (i := 5) nd rfl (.inl rfl) (pe_call GP hr (by rfl) gP FP.kp bP .nil pass0 (pa_cons (pv 0) (pa_cons pe_int pa_nil))))
      (pss_cons (ps_if (pt_cmpR op_lt (pv 5) pe_int (nomark _)) (pss_cons (ps_set (i := 6) nd rfl (.inl rfl) (pe_ix ix_list (pv 4) (pe_call GP hr (by rfl) gP FP.kp bP .nil pass0 (pa_cons (pv 0) (pa_cons pe_int pa_nil))) (fun _ _ => rfl)))
      (pss_one (ps_ret (pe_op op_catA (pe_op op_catA (pe_slice sl_tupA (pv 2) po_none (po_some (pv 3))) (pe_tup (pa_cons (pv 6) pa_nil))) (pe_slice sl_tupA (pv 2) (po_some (pe_op op_add (pv 3) (pe_call GP hr (by rfl) gP FP.kp bP .nil pass0 (pa_cons (pv 0) (pa_cons pe_int pa_nil))))) po_none))))) pss_nil)
      (pss_cons (ps_if (pt_cmpR op_eq (pv 5) pe_int (nomark _)) (pss_one (ps_ret (pe_callTy call_tuple_of (by rfl) mtuple (by decide +kernel) (pa_cons (pe_call GL hr (by rfl) gL FL.kp bL .nil pass0 (pa_cons (pv 0) (pa_cons pe_int pa_nil))) pa_nil)))) pss_nil)
      (pss_one (ps_ret (pe_ix ix_list (pe_lst (pa_cons (pe_tup pa_nil) (pa_cons (pe_callTy call_list_of (by rfl) mlist (by decide +kernel) (pa_cons (pv 2) pa_nil)) (pa_cons pe_str (pa_cons pe_non pa_nil))))) (pe_call GP hr (by rfl) gP FP.kp bP .nil pass0 (pa_cons (pv 0) (pa_cons pe_int pa_nil))) (fun _ _ => rfl))))))))), ?_⟩
    have no : ∀ {H' : Hp}, Pot p c ns H' → ∀ xs, H' p ≠ some (.tup xs) := fun h xs z => (h.ne_tup z) rfl
    refine ⟨_, rfl, _, rfl, a, _, rfl, .inr (st_of ha), _, _, rfl, rfl, p, c, ns, _, rfl, by rw [List.length_map]; omega, by rw [List.length_map]; omega, hP, fun at1 H1 h1 kp1 hP1 => ?_⟩
    have ha1 := kp1 _ _ (hP.ne_tup ha) ha
    have hs1 := hs.keep hP kp1
    refine ⟨_, rfl, p, c, ns, rfl, hP1, fun x H2 hx kp2 hP2 => ?_⟩
    have ha2 := kp2 _ _ (hP1.ne_tup ha1) ha1
    obtain ⟨ao, ap, ac, s0', so, sp, sc⟩ := hs1.keep hP1 kp2
    obtain ⟨o1, o2, rfl⟩ : ∃ o1 o2, os = o1 :: o2 := by
      cases os with
      | nil => exact absurd hS.o1 (by decide)
      | cons o1 o2 => exact ⟨o1, o2, rfl⟩
    obtain ⟨q1, q2, rfl⟩ : ∃ q1 q2, qs = q1 ++ [q2] := by
      rcases List.eq_nil_or_concat qs with e | ⟨q1, q2, e⟩
      · rw [e] at hS
        exact absurd hS.c1 (by decide)
      · exact ⟨q1, q2, by rw [e, List.concat_eq_append]⟩
    have lo1 : Ltr o1 := hS.lt o1 (by simp)
    have lq2 : Ltr q2 := hS.lt q2 (by simp)
    refine ⟨_, rfl, s, _, 0, .ref ao, rfl, rfl, st_of s0', rfl, ao, _, 0, .str o1, rfl, rfl, st_of so, atI_nat (j := 0) rfl, ?_⟩
    refine ⟨_, rfl, s, _, 2, .ref ac, rfl, rfl, st_of s0', rfl, ?_⟩
    refine ⟨_, rfl, ac, _, -1, .str q2, rfl, rfl, st_of sc, (by rw [List.map_append]; exact atI_last _ _), by decide, fun e1 ne1 => ⟨by decide, fun t1 nt1 => ⟨by show 12 ≤ sizeLine; decide, fun S nS => ?_⟩⟩⟩
    generalize h3 : upd H2 e1 (.lst []) = H3 at nt1 nS ⊢
    have x3 : Ex H2 H3 := h3 ▸ Ex.new ne1
    have he1 : H3 e1 = some (.lst []) := by rw [← h3, upd_same]
    generalize h4 : upd H3 t1 (.tup [.str "a"]) = H4 at nS ⊢
    have x4 : Ex H3 H4 := h4 ▸ Ex.new nt1
    have ht1 : H4 t1 = some (.tup [.str "a"]) := by rw [← h4, upd_same]
    generalize hxs : ([.str "", .str "abcdefghi", .str "Abc", .str "a1", .str x, .str o1, .str q2, .ref e1, .int 7, .non, .bl true, .ref t1] : List V) = xs
    generalize h5 : upd H4 S (.lst xs) = H5
    have x5 : Ex H4 H5 := h5 ▸ Ex.new nS
    have hS5 : H5 S = some (.lst xs) := by rw [← h5, upd_same]
    have x25 : Ex H2 H5 := (x3.trans x4).trans x5
    have hP5 := hP2.ex x25
    have e1p : e1 ≠ p := (hP2.ne_new ne1).1.symm
    have Sp : S ≠ p := (((hP2.ex x3).ex x4).ne_new nS).1.symm
    have all : ∃ ds : List PyData, ThAll p H5 xs ds ∧ ∀ d ∈ ds, Gd 1 d := by
      subst hxs
      have g0 : ∀ x : Str, ((cs x).length ≤ 40 ∧ ∀ c ∈ cs x, c < 128) → Gd 1 (.str x) := fun x h => gd_lit h.1 h.2
      refine ⟨_, .cons (.str _) (.cons (.str _) (.cons (.str _) (.cons (.str _) (.cons (.str x) (.cons (.str o1) (.cons (.str q2) (.cons (.lst e1p (x5 _ _ (x4 _ _ he1)) .nil) (.cons (.int 7) (.cons .non (.cons (.bl true) (.cons (.tup (x5 _ _ ht1) (.cons (.str _) .nil)) .nil))))))))))), ?_⟩
      intro d hd
      simp only [List.mem_cons, List.not_mem_nil, or_false] at hd
      rcases hd with rfl | rfl | rfl | rfl | rfl | rfl | rfl | rfl | rfl | rfl | rfl | rfl
      · exact g0 _ (by decide +kernel)
      · exact g0 _ (by decide +kernel)
      · exact g0 _ (by decide +kernel)
      · exact g0 _ (by decide +kernel)
      · exact gd_txt hx
      · exact gd_ltr lo1
      · exact gd_ltr lq2
      · exact .lst (by decide) fun d hd => by cases hd
      · exact .int (by decide)
      · exact .non
      · exact .bl true
      · exact .tup (by decide) fun d hd => by
          rw [List.mem_singleton.mp hd]
          exact gd_lit (by decide +kernel) (by decide +kernel)
    have l12 : xs.length = 12 := by
      subst hxs
      rfl
    have ha5 := x25 _ _ ha2
    have kp5 : Keep p H H5 := (kp1.trans kp2).trans (Keep.ofEx x25)
    refine ⟨_, rfl, p, c, ns, 7, rfl, by decide, by decide, hP5, fun way H6 h6 kp6 hP6 => ?_⟩
    have ha6 := kp6 _ _ (hP5.ne_tup ha5) ha5
    have kp06 := kp5.trans kp6
    refine ⟨_, rfl, _, _, rfl, rfl, _, rfl, ?_⟩
    by_cases w3 : way < 3
    · rw [decide_eq_true (show ((way : Nat) : Int) < 3 by omega)]
      refine iteT ⟨_, rfl, _, rfl, p, c, ns, 12, rfl, by decide, by decide, hP6, fun j H7 h7 kp7 hP7 => ?_⟩
      obtain ⟨ds, hall, hgd⟩ := all
      have hS7 := kp7 _ _ Sp (kp6 _ _ Sp hS5)
      have hj : j < xs.length := by omega
      have hall7 := (hall.kp kp6 (no hP5)).kp kp7 (no hP6)
      obtain ⟨od, hod, hTo⟩ := hall7.get (List.getElem?_eq_getElem hj)
      have god := hgd od (List.mem_of_getElem? hod)
      refine ⟨S, _, _, xs[j], rfl, rfl, sq_of hS7, atI_nat (List.getElem?_eq_getElem hj), ?_⟩
      have ha7 := kp7 _ _ (hP6.ne_tup ha6) ha6
      generalize xs[j] = ov at hTo
      refine ⟨_, rfl, _, rfl, _, rfl, sl_rd ha7 fun r1 H8 x8 hr1 => ?_⟩
      rw [cut0, ← List.map_take] at hr1
      refine ⟨_, rfl, (by show 1 ≤ sizeLine; decide), fun r2 nr2 => ?_⟩
      have x9 := Ex.new (o := .tup [ov]) nr2
      refine cat_rd (x9 _ _ hr1) upd_same (by rw [List.length_map, List.length_take]; show _ + 1 ≤ 1000; omega) fun r3 H10 x10 hr3 => ?_
      have hP10 := ((hP7.ex x8).ex x9).ex x10
      refine ⟨_, rfl, _, rfl, _, rfl, p, c, ns, 2, rfl, by decide, by decide, hP10, fun g H11 hg kp11 hP11 => ?_⟩
      have x710 := (x8.trans x9).trans x10
      have ha11 := kp11 _ _ (hP10.ne_tup (x710 _ _ ha7)) (x710 _ _ ha7)
      have hr11 := kp11 _ _ (hP10.ne_tup hr3) hr3
      have eg : (at1 : Int) + (g : Int) = ((at1 + g : Nat) : Int) := by omega
      refine ⟨_, _, rfl, rfl, _, rfl, ?_⟩
      dsimp only [tNoPart]
      refine sl_rd ha11 fun r4 H12 x12 hr4 => ?_
      rw [eg, cutF, ← List.map_drop] at hr4
      refine cat_rd (x12 _ _ hr11) hr4 (by rw [List.length_append, List.length_map, List.length_map, List.length_take, List.length_drop]; show _ + 1 + _ ≤ 1000; omega) fun r5 H13 x13 hr5 => ?_
      have kp713 : Keep p H7 H13 := ((Keep.ofEx x710).trans kp11).trans (Keep.ofEx (x12.trans x13))
      refine q (.ref r5) (.tuple ((zs.take at1).map PyData.str ++ [od] ++ (zs.drop (at1 + g)).map PyData.str)) H13 (.tup hr5 (((ThAll.strs _).app (.cons (hTo.kp kp713 (no hP7)) .nil)).app (ThAll.strs _))) (.tup ?_ ?_) ((kp06.trans kp7).trans kp713) ((hP11.ex x12).ex x13)
      · rw [List.length_append, List.length_append, List.length_map, List.length_map, List.length_take, List.length_drop]
        show _ + 1 + _ ≤ 16
        omega
      · intro d hd
        rcases List.mem_append.mp hd with z | z
        · rcases List.mem_append.mp z with z | z
          · exact gd_ltrs (fun x hx => hzl x (List.mem_of_mem_take hx)) d z
          · rw [List.mem_singleton.mp z]
            exact god
        · exact gd_ltrs (fun x hx => hzl x (List.mem_of_mem_drop hx)) d z
    · rw [decide_eq_false (show ¬ ((way : Nat) : Int) < 3 by omega)]
      refine iteF ⟨_, rfl, rfl, _, rfl, ?_⟩
      rw [show decide (V.int ((way : Nat) : Int) = V.int 3) = decide (way = 3) from v_int way 3]
      by_cases w33 : way = 3
      · rw [decide_eq_true w33]
        refine iteT ⟨_, rfl, p, c, ns, 5, rfl, by decide, hP6, fun ws l H7 h7 _ hl kp7 hP7 _ hl7 => ⟨l, _, rfl, .inl ⟨sq_of hl7, fun t nt => ?_⟩⟩⟩
        refine q (.ref t) (.tuple (ws.map PyData.str)) _ (th_strs upd_same) (.tup (by rw [List.length_map, h7]; decide) (gd_ltrs hl)) ((kp06.trans kp7).trans (Keep.ofEx (Ex.new nt))) (hP7.ex (Ex.new nt))
      · rw [decide_eq_false w33]
        refine iteF ⟨by decide, fun t nt => ⟨_, rfl, a, _, rfl, .inr (st_of ((Ex.new nt) _ _ ha6)), fun l nl => ⟨by show 4 ≤ sizeLine; decide, fun M nM => ?_⟩⟩⟩
        generalize h7 : upd H6 t (.tup []) = H7 at nl nM ⊢
        have x7 : Ex H6 H7 := h7 ▸ Ex.new nt
        have ht7 : H7 t = some (.tup []) := by rw [← h7, upd_same]
        generalize h8 : upd H7 l (.lst (zs.map V.str)) = H8 at nM ⊢
        have x8 : Ex H7 H8 := h8 ▸ Ex.new nl
        have hl8 : H8 l = some (.lst (zs.map V.str)) := by rw [← h8, upd_same]
        have x9 := Ex.new (o := .lst [.ref t, .ref l, .str "abc", .non]) nM
        have hP9 := ((hP6.ex x7).ex x8).ex x9
        have lp : l ≠ p := ((hP6.ex x7).ne_new nl).1.symm
        have Mp : M ≠ p := (((hP6.ex x7).ex x8).ne_new nM).1.symm
        refine ⟨_, rfl, p, c, ns, 4, rfl, by decide, by decide, hP9, fun j H10 hj kp10 hP10 => ?_⟩
        have kp010 : Keep p H H10 := (kp06.trans (Keep.ofEx ((x7.trans x8).trans x9))).trans kp10
        have hM := kp10 _ _ Mp upd_same
        have ht := kp10 _ _ (hP9.ne_tup (x9 _ _ (x8 _ _ ht7))) (x9 _ _ (x8 _ _ ht7))
        have hl := kp10 _ _ lp (x9 _ _ hl8)
        rcases (show j = 0 ∨ j = 1 ∨ j = 2 ∨ j = 3 by omega) with rfl | rfl | rfl | rfl
        · exact ⟨M, _, _, _, rfl, rfl, sq_of hM, atI_nat (j := 0) rfl, q _ _ _ (.tup ht .nil) (.tup (by decide) fun d hd => by cases hd) kp010 hP10⟩
        · exact ⟨M, _, _, _, rfl, rfl, sq_of hM, atI_nat (j := 1) rfl, q _ _ _ (.lst lp hl (ThAll.strs zs)) (.lst (by rw [List.length_map]; omega) (gd_ltrs hzl)) kp010 hP10⟩
        · exact ⟨M, _, _, _, rfl, rfl, sq_of hM, atI_nat (j := 2) rfl, q _ _ _ (.str _) (gd_lit (by decide +kernel) (by decide +kernel)) kp010 hP10⟩
        · exact ⟨M, _, _, _, rfl, rfl, sq_of hM, atI_nat (j := 3) rfl, q _ _ _ .non .non kp010 hP10⟩
end
end Eh
set_option Elab.async false
set_option linter.all false
set_option maxRecDepth 100000
set_option maxHeartbeats 4000000
namespace Eh
open PySem PySem.Spec PyProof.Rows L2 Evl GxR Gx Sx
/-! the sheet as a thing -/
abbrev dS (zs : List Str) : PyData := .tuple (zs.map PyData.str)
theorem gd_dS {k : Nat} {zs : List Str} (h : ∀ x ∈ zs, Ltr x) (h4 : zs.length ≤ 4) : Gd (k + 1) (dS zs) := .tup (by rw [List.length_map]; omega) (gd_ltrs h)
theorem Sht.parts {os ps qs : List Str} (h : Sht os ps qs) : (∀ x ∈ os, Ltr x) ∧ (∀ x ∈ ps, Ltr x) ∧ ∀ x ∈ qs, Ltr x := ⟨fun x hx => h.lt x (by simp [hx]), fun x hx => h.lt x (by simp [hx]), fun x hx => h.lt x (by simp [hx])⟩
theorem sheet_th {N s : Addr} {H : Hp} {os ps qs : List Str} (h : SheetAt H s os ps qs) : ∃ vs, H s = some (.tup vs) ∧ ThAll N H vs [dS os, dS ps, dS qs] := by
  obtain ⟨ao, ap, ac, h0, h1, h2, h3⟩ := h
  exact ⟨_, h0, .cons (th_strs h1) (.cons (th_strs h2) (.cons (th_strs h3) .nil))⟩
theorem sheet_gd {k : Nat} {os ps qs : List Str} (h : Sht os ps qs) : ∀ d ∈ [dS os, dS ps, dS qs], Gd (k + 1) d := fun d hd => by
  obtain ⟨a, b, c⟩ := h.parts
  simp only [List.mem_cons, List.not_mem_nil, or_false] at hd
  rcases hd with rfl | rfl | rfl
  · exact gd_dS a h.o4
  · exact gd_dS b h.p4
  · exact gd_dS c h.c4
theorem ThAll.take {N : Addr} {H : Hp} : ∀ {vs : List V} {ds : List PyData} (n : Nat), ThAll N H vs ds → ThAll N H (vs.take n) (ds.take n)
  | _, _, 0, _ => .nil
  | _, _, n + 1, .nil => .nil
  | _, _, n + 1, .cons a b => .cons a (ThAll.take n b)
theorem ThAll.drop {N : Addr} {H : Hp} : ∀ {vs : List V} {ds : List PyData} (n : Nat), ThAll N H vs ds → ThAll N H (vs.drop n) (ds.drop n)
  | _, _, 0, h => h
  | _, _, n + 1, .nil => .nil
  | _, _, n + 1, .cons a b => ThAll.drop n b
abbrev nOT : List Str := ["pot", "sheet", "at", "way", "part"]
theorem scOT : FnScope nOT ["pot", "sheet"] (defScope sLawOther) := ⟨rfl, rfl, rfl, by decide +kernel, rfl, by decide +kernel, by decide +kernel⟩
section
variable {P : Program} {w : World} {K : PySem.W.Frag} {mg : Str → Option Value} {base : Heap}
def spOT : Sp := fun vs H Q _ => ∃ (p c s : Addr) (ns : List Int) (os ps qs : List Str), vs = [.ref p, .ref s] ∧ Pot p c ns H ∧ Sht os ps qs ∧ SheetAt H s os ps qs ∧
  ∀ v d H', Th p H' v d → Gd 3 d → Keep p H H' → Pot p c ns H' → Q v H'
theorem ok_other {f fP fO : Addr} {fd fdP fdO : FuncData} {k : Nat} (F : Fun K "_law_other" "_law_other" sLawOther f fd) (FP : Fun K "_law_pick" "_law_pick" sPick fP fdP) (GP : FnOk P w K mg base CX0 k fP fdP ["pot", "many"] spPick) (bP : Binds K fdP ["pot", "many"] []) (gP : mg "_law_pick" = some (.ref fP))
    (FO : Fun K "_law_other_part" "_law_other_part" sLawOtherPart fO fdO) (GO : FnOk P w K mg base CX0 k fO fdO ["pot", "sheet", "part"] spOP) (bO : Binds K fdO ["pot", "sheet", "part"] []) (gO : mg "_law_other_part" = some (.ref fO)) (mlist : mg "list" = none) :
    FnOk P w K mg base CX0 (k + 1) f fd ["pot", "sheet"] spOT := by
  have nd := scOT.nd
  refine F.ok scOT (fun vs H Q E h => ?_) (fun cdv A outer s0 H vs Q E hr h => ?_)
  · obtain ⟨p, c, s, ns, os, ps, qs, rfl, _⟩ := h
    rfl
  · obtain ⟨p, c, s, ns, os, ps, qs, rfl, hP, hS, hs, q⟩ := h
    refine ⟨_, (pss_cons (ps_set (i := 2) nd rfl (.inl rfl) (pe_call GP hr (by rfl) gP FP.kp bP .nil pass0 (pa_cons (pv 0) (pa_cons pe_int pa_nil))))
      (pss_cons (ps_set (i := 3) nd rfl (.inl rfl) (pe_call GP hr (by rfl) gP FP.kp bP .nil pass0 (pa_cons (pv 0) (pa_cons pe_int pa_nil))))
      (pss_cons (ps_if (pt_cmpR op_eq (pv 3) pe_int (nomark _)) (pss_one (ps_ret (pe_op op_catA (pv 1) (pe_tup (pa_cons (pe_tup pa_nil) pa_nil))))) pss_nil)
      (pss_cons (ps_if (pt_cmpR op_eq (pv 3) pe_int (nomark _)) (pss_one (ps_ret (pe_slice sl_tupA (pv 1) po_none (po_some pe_int)))) pss_nil)
      (pss_cons (ps_if (pt_cmpR op_eq (pv 3) pe_int (nomark _)) (pss_one (ps_ret (pe_callTy call_list_of (by rfl) mlist (by decide +kernel) (pa_cons (pv 1) pa_nil)))) pss_nil)
      (pss_cons (ps_set (i := 4) nd rfl (.inl rfl) (pe_call GO hr (by rfl) gO FO.kp bO .nil pass0 (pa_cons (pv 0) (pa_cons (pv 1) (pa_cons (pe_ix ix_tup (pv 1) (pv 2) (fun _ _ => rfl)) pa_nil)))))
      (pss_one (ps_ret (pe_op op_catA (pe_op op_catA (pe_slice sl_tupA (pv 1) po_none (po_some (pv 2))) (pe_tup (pa_cons (pv 4) pa_nil))) (pe_slice sl_tupA (pv 1) (po_some (pe_op op_add (pv 2) pe_int)) po_none)))))))))), ?_⟩
    have no : ∀ {H' : Hp}, Pot p c ns H' → ∀ xs, H' p ≠ some (.tup xs) := fun h xs z => (h.ne_tup z) rfl
    refine ⟨_, rfl, p, c, ns, 3, rfl, by decide, by decide, hP, fun at1 H1 h1 kp1 hP1 => ?_⟩
    refine ⟨_, rfl, p, c, ns, 8, rfl, by decide, by decide, hP1, fun way H2 h2 kp2 hP2 => ?_⟩
    have hs2 := (hs.keep hP kp1).keep hP1 kp2
    have kp02 := kp1.trans kp2
    obtain ⟨vs, hv, hall⟩ := sheet_th (N := p) hs2
    have l3 : vs.length = 3 := hall.len
    have gS : ∀ d ∈ [dS os, dS ps, dS qs], Gd 1 d := sheet_gd hS
    refine ⟨_, rfl, rfl, _, rfl, ?_⟩
    rw [show decide (V.int ((way : Nat) : Int) = V.int 0) = decide (way = 0) from v_int way 0]
    by_cases w0 : way = 0
    · rw [decide_eq_true w0]
      refine iteT ⟨_, rfl, by decide, fun t nt => ⟨(by show 1 ≤ sizeLine; decide), fun r nr => ?_⟩⟩
      have x3 := Ex.new (o := .tup []) nt
      have x4 := Ex.new (o := .tup [.ref t]) nr
      refine cat_rd (x4 _ _ (x3 _ _ hv)) upd_same (by rw [l3]; show 3 + 1 ≤ 1000; decide) fun r2 H5 x5 hr2 => ?_
      have x25 := (x3.trans x4).trans x5
      have ht := x5 _ _ (x4 _ _ (upd_same (H := H2) (a := t) (o := .tup [])))
      refine q (.ref r2) (.tuple ([dS os, dS ps, dS qs] ++ [.tuple []])) H5 (.tup hr2 ((hall.et (ET.of x25)).app (.cons (.tup ht .nil) .nil))) (.tup (by show 4 ≤ 16; decide) fun d hd => ?_) (kp02.trans (Keep.ofEx x25)) (hP2.ex x25)
      rcases List.mem_append.mp hd with z | z
      · exact (gS d z).mono (by decide)
      · rw [List.mem_singleton.mp z]
        exact .tup (by decide) fun d hd => by cases hd
    · rw [decide_eq_false w0]
      refine iteF ⟨_, rfl, rfl, _, rfl, ?_⟩
      rw [show decide (V.int ((way : Nat) : Int) = V.int 1) = decide (way = 1) from v_int way 1]
      by_cases w1 : way = 1
      · rw [decide_eq_true w1]
        refine iteT ⟨_, rfl, _, rfl, sl_rd hv fun r H3 x3 hr3 => ?_⟩
        rw [show ((2 : Int)) = ((2 : Nat) : Int) from rfl, cut0] at hr3
        refine q (.ref r) (.tuple ([dS os, dS ps, dS qs].take 2)) H3 (.tup hr3 ((hall.take 2).et (ET.of x3))) (.tup (by show 2 ≤ 16; decide) fun d hd => (gS d (List.mem_of_mem_take hd)).mono (by decide)) (kp02.trans (Keep.ofEx x3)) (hP2.ex x3)
      · rw [decide_eq_false w1]
        refine iteF ⟨_, rfl, rfl, _, rfl, ?_⟩
        rw [show decide (V.int ((way : Nat) : Int) = V.int 2) = decide (way = 2) from v_int way 2]
        by_cases w2 : way = 2
        · rw [decide_eq_true w2]
          refine iteT ⟨_, rfl, s, _, rfl, .inr (st_of hv), fun l nl => ?_⟩
          have x3 := Ex.new (o := .lst vs) nl
          exact q (.ref l) (.list [dS os, dS ps, dS qs]) _ (.lst (hP2.ne_new nl).1.symm upd_same (hall.et (ET.of x3))) (.lst (by show 3 ≤ 16; decide) fun d hd => (gS d hd).mono (by decide)) (kp02.trans (Keep.ofEx x3)) (hP2.ex x3)
        · rw [decide_eq_false w2]
          obtain ⟨ao, ap, ac, s0', so, sp, sc⟩ := id hs2
          obtain rfl : vs = [.ref ao, .ref ap, .ref ac] := by
            rw [s0'] at hv
            cases hv
            rfl
          obtain ⟨za, zs, hza, hz, z4, zl⟩ : ∃ (za : Addr) (zs : List Str), ([.ref ao, .ref ap, .ref ac] : List V)[at1]? = some (.ref za) ∧ H2 za = some (.tup (zs.map V.str)) ∧ zs.length ≤ 4 ∧ ∀ x ∈ zs, Ltr x := by
            obtain ⟨a1, a2, a3⟩ := hS.parts
            rcases (show at1 = 0 ∨ at1 = 1 ∨ at1 = 2 by omega) with rfl | rfl | rfl
            · exact ⟨ao, os, rfl, so, hS.o4, a1⟩
            · exact ⟨ap, ps, rfl, sp, hS.p4, a2⟩
            · exact ⟨ac, qs, rfl, sc, hS.c4, a3⟩
          refine iteF ⟨_, rfl, _, rfl, _, rfl, _, rfl, s, _, _, .ref za, rfl, rfl, st_of hv, atI_nat hza, p, c, s, za, ns, os, ps, qs, zs, rfl, hP2, hS, hs2, hz, z4, zl, fun v d H3 hT hg kp3 hP3 => ?_⟩
          have hv3 := kp3 _ _ (hP2.ne_tup hv) hv
          have hall3 := hall.kp kp3 (no hP2)
          refine ⟨_, rfl, _, rfl, _, rfl, sl_rd hv3 fun r1 H4 x4 hr1 => ?_⟩
          rw [cut0] at hr1
          refine ⟨_, rfl, (by show 1 ≤ sizeLine; decide), fun r2 nr2 => ?_⟩
          have x5 := Ex.new (o := .tup [v]) nr2
          refine cat_rd (x5 _ _ hr1) upd_same (by rw [List.length_take]; show _ + 1 ≤ 1000; omega) fun r3 H6 x6 hr3 => ?_
          have x36 := (x4.trans x5).trans x6
          have eg : (at1 : Int) + 1 = ((at1 + 1 : Nat) : Int) := by omega
          refine ⟨_, rfl, _, rfl, _, _, rfl, rfl, _, rfl, ?_⟩
          dsimp only [tNoPart]
          refine sl_rd (x36 _ _ hv3) fun r4 H7 x7 hr4 => ?_
          rw [eg, cutF] at hr4
          refine cat_rd (x7 _ _ hr3) hr4 (by rw [List.length_append, List.length_take, List.length_drop]; show _ + 1 + _ ≤ 1000; rw [l3]; omega) fun r5 H8 x8 hr5 => ?_
          have x38 := (x36.trans x7).trans x8
          refine q (.ref r5) (.tuple ([dS os, dS ps, dS qs].take at1 ++ [d] ++ [dS os, dS ps, dS qs].drop (at1 + 1))) H8 (.tup hr5 ((((hall3.take at1).et (ET.of x38)).app (.cons (hT.et (ET.of x38)) .nil)).app ((hall3.drop (at1 + 1)).et (ET.of x38)))) (.tup ?_ ?_) ((kp02.trans kp3).trans (Keep.ofEx x38)) (hP3.ex x38)
          · rw [List.length_append, List.length_append, List.length_take, List.length_drop]
            show _ + 1 + _ ≤ 16
            show min at1 3 + 1 + (3 - (at1 + 1)) ≤ 16
            omega
          · intro e he
            rcases List.mem_append.mp he with z | z
            · rcases List.mem_append.mp z with z | z
              · exact (gS e (List.mem_of_mem_take z)).mono (by decide)
              · rw [List.mem_singleton.mp z]
                exact hg
            · exact (gS e (List.mem_of_mem_drop z)).mono (by decide)
end
end Eh
set_option Elab.async false
set_option linter.all false
set_option maxRecDepth 100000
set_option maxHeartbeats 4000000
namespace Eh
open PySem PySem.Spec PyProof.Rows L2 Evl GxR Gx Sx
theorem Pot.et {p c : Addr} {ns : List Int} {H H' : Hp} (h : Pot p c ns H) (e : ET H H') : Pot p c ns H' := by
  obtain ⟨a, r, h0, h1, h2⟩ := h
  exact ⟨a, r, h0, e.lst h1, e.lst h2⟩
theorem tab_keep {p c P : Addr} {ns : List Int} {H H' : Hp} (h : Pot p c ns H) (k : Keep p H H') (t : TabG H P) : TabG H' P := by
  obtain ⟨ps, t1, t2⟩ := t
  refine ⟨ps, k _ _ (fun e => ?_) t1, t2⟩
  obtain ⟨_, _, _, h1, _⟩ := h
  rw [e, h1] at t1
  cases t1
theorem isi_bl {K : PySem.W.Frag} {H : Hp} {σ : L2.St} {Q : VK} {i : Nat} {b : Bool} (hi : σ[i]? = some (some (.bl b))) (q : Q (.bl true) H) : tCB (rIsi K) (tCons (tVar i) (tCons (tC (.ty "bool")) tNil)) σ H Q :=
  ⟨_, hi, .bl b, .ty "bool", .type "bool", .type "bool", true, rfl, .ty "bool", .base (.bl b), kit_ty (by decide +kernel), q⟩
abbrev nLaw : List Str := ["script", "pot", "turn", "sheet", "things", "thing", "shown", "letter", "whole"]
theorem scLaw : FnScope nLaw ["script"] (defScope sLaw) := ⟨rfl, rfl, rfl, by decide +kernel, rfl, by decide +kernel, by decide +kernel⟩
/-- a list of things -/
def Ths (p : Addr) (H : Hp) (L : Addr) (n : Nat) : Prop := ∃ (xs : List V) (ds : List PyData), H L = some (.lst xs) ∧ xs.length = n ∧ ThAll p H xs ds ∧ ∀ d ∈ ds, Gd 3 d
theorem Ths.ex {p L : Addr} {H H' : Hp} {n : Nat} (h : Ths p H L n) (e : Ex H H') : Ths p H' L n := by
  obtain ⟨xs, ds, h1, h2, h3, h4⟩ := h
  exact ⟨xs, ds, e _ _ h1, h2, h3.et (ET.of e), h4⟩
theorem Ths.kp {p L : Addr} {H H' : Hp} {n : Nat} (h : Ths p H L n) (k : Keep p H H') (no : ∀ xs, H p ≠ some (.tup xs)) (ne : L ≠ p) : Ths p H' L n := by
  obtain ⟨xs, ds, h1, h2, h3, h4⟩ := h
  exact ⟨xs, ds, k _ _ ne h1, h2, h3.kp k no, h4⟩
theorem cat_ths {p A B : Addr} {H : Hp} {n m : Nat} {Q : VK} (hA : Ths p H A n) (hB : Ths p H B m) (nm : n + m ≤ 1000) (q : ∀ C, H C = none → Ths p (upd H C (.lst (((H A).elim [] fun o => match o with | .lst xs => xs | _ => []) ++ ((H B).elim [] fun o => match o with | .lst xs => xs | _ => [])))) C (n + m) → Q (.ref C) (upd H C (.lst (((H A).elim [] fun o => match o with | .lst xs => xs | _ => []) ++ ((H B).elim [] fun o => match o with | .lst xs => xs | _ => []))))) : rCat (.ref A) (.ref B) H Q := by
  obtain ⟨xs, ds, h1, h2, h3, h4⟩ := hA
  obtain ⟨ys, es, k1, k2, k3, k4⟩ := hB
  refine ⟨A, B, xs, ys, rfl, rfl, h1, k1, ?_, fun C nC => ?_⟩
  · rw [h2, k2, sizeLine_eq]
    omega
  · have e := q C nC
    rw [h1, k1] at e
    refine e ⟨xs ++ ys, ds ++ es, upd_same, by rw [List.length_append, h2, k2], (h3.app k3).et (ET.of (Ex.new nC)), fun d hd => ?_⟩
    rcases List.mem_append.mp hd with z | z
    · exact h4 d z
    · exact k4 d z
section
variable {P : Program} {w : World} {K : PySem.W.Frag} {mg : Str → Option Value} {base : Heap}
theorem law_run {PL PP f fpot fsheet ftext fother fis_letter fis_sheet fLL fLH : Addr} {fd dpot dsheet dtext dother dis_letter dis_sheet dLL dLH : FuncData} {k : Nat} (F : Fun K "law" "law" sLaw f fd)
    (Fpot : Fun K "_law_pot" "_law_pot" sPot fpot dpot) (Gpot : FnOk P w K mg base CX0 k fpot dpot ["script"] (spPot K)) (bpot : Binds K dpot ["script"] []) (gpot : mg "_law_pot" = some (.ref fpot))
    (Fsheet : Fun K "_law_sheet" "_law_sheet" sSheet fsheet dsheet) (Gsheet : FnOk P w K mg base CX0 k fsheet dsheet ["pot", "most"] spSheet) (bsheet : Binds K dsheet ["pot", "most"] []) (gsheet : mg "_law_sheet" = some (.ref fsheet))
    (Ftext : Fun K "_law_text" "_law_text" sLawText ftext dtext) (Gtext : FnOk P w K mg base CX0 k ftext dtext ["pot"] spText) (btext : Binds K dtext ["pot"] []) (gtext : mg "_law_text" = some (.ref ftext))
    (Fother : Fun K "_law_other" "_law_other" sLawOther fother dother) (Gother : FnOk P w K mg base CX0 k fother dother ["pot", "sheet"] spOT) (bother : Binds K dother ["pot", "sheet"] []) (gother : mg "_law_other" = some (.ref fother))
    (Fis_letter : Fun K "is_letter" "is_letter" sIsLetter fis_letter dis_letter) (Gis_letter : FnOk P w K mg base CX0 k fis_letter dis_letter ["thing"] (spIsLetter PL)) (bis_letter : Binds K dis_letter ["thing"] []) (gis_letter : mg "is_letter" = some (.ref fis_letter))
    (Fis_sheet : Fun K "is_sheet" "is_sheet" sIsSheet fis_sheet dis_sheet) (Gis_sheet : FnOk P w K mg base CX0 k fis_sheet dis_sheet ["thing"] (spIsSheet PL PP)) (bis_sheet : Binds K dis_sheet ["thing"] []) (gis_sheet : mg "is_sheet" = some (.ref fis_sheet))
    (FLL : Fun K "_law_is_letter" "_law_is_letter" sLawIsLetter fLL dLL) (GLL : FnOk P w K mg base CX0 k fLL dLL ["thing"] spLIsLetter) (bLL : Binds K dLL ["thing"] []) (gLL : mg "_law_is_letter" = some (.ref fLL))
    (FLH : Fun K "_law_is_sheet" "_law_is_sheet" sLawIsSheet fLH dLH) (GLH : FnOk P w K mg base CX0 k fLH dLH ["thing"] spLIsSheet) (bLH : Binds K dLH ["thing"] []) (gLH : mg "_law_is_sheet" = some (.ref fLH))
    (misinstance : mg "isinstance" = none) (mbool : mg "bool" = none) (mrange : mg "range" = none) (mlist : mg "list" = none) (mrepr : mg "repr" = none) (hk : Room (k + 1) callerA)
    {z : Shared} {H : Hp} {a : Addr} {ns : List Int} (bi : ∀ (s : Shared) (u : Value), BindsTo s fd ⟨[u], []⟩ [("script", u)]) (e0 : Env0 P w K mg base callerA [] z H) (hA : SqL K H a (ns.map V.int)) (hns : ns.length ≤ 63) (tL : TabG H PL) (tP : TabG H PP) :
    codeAny (model P w) callerA (.call (.ref f) ⟨[.ref a], []⟩) (CR CX0 [] P w H z (fun v _ => v = .bl true) fun _ _ _ => False) z := by
  obtain ⟨oc, od, kV, doc, pm, an, cdv, ct, osl, rfl, h1, h2⟩ := F.ex
  have hr := hk.deeper (envOfC "law" (defScope sLaw) z.heap.objs.size f cdv)
  have nd := scLaw.nd
  have body : ∃ t, PSs (cxOf CX0 P w K mg base nLaw "law" (defScope sLaw) f cdv callerA [] z H fun _ _ _ => False).nox (defBody sLaw) t ∧ t { nx := fun _ H' => (fun (v : V) (_ : Hp) => v = .bl true) .non H', rt := fun v _ => v = .bl true } (start nLaw [.ref a]) H := by
    refine ⟨_, (pss_cons (ps_set (i := 1) nd rfl (.inl rfl) (pe_call Gpot hr (by rfl) gpot Fpot.kp bpot .nil pass0 (pa_cons (pv 0) pa_nil)))
      (pss_cons (ps_for PassesOwn.never rfl (pi_range1 (by rfl) mrange (pa_cons pe_int pa_nil)) (pg_name (i := 2) nd rfl (.inl rfl)) (pss_cons (ps_set (i := 3) nd rfl (.inl rfl) (pe_call Gsheet hr (by rfl) gsheet Fsheet.kp bsheet .nil pass0 (pa_cons (pv 1) (pa_cons pe_int pa_nil))))
      (pss_cons (ps_set (i := 4) nd rfl (.inl rfl) (pe_lst (pa_cons (pe_call Gtext hr (by rfl) gtext Ftext.kp btext .nil pass0 (pa_cons (pv 1) pa_nil)) (pa_cons (pe_call Gtext hr (by rfl) gtext Ftext.kp btext .nil pass0 (pa_cons (pv 1) pa_nil)) (pa_cons (pv 3) (pa_cons (pe_call Gother hr (by rfl) gother Fother.kp bother .nil pass0 (pa_cons (pv 1) (pa_cons (pv 3) pa_nil))) pa_nil))))))
      (pss_cons (ps_set (i := 4) nd rfl (.inl rfl) (pe_op op_cat (pv 4) (pe_lst (pa_cons (pe_call Gother hr (by rfl) gother Fother.kp bother .nil pass0 (pa_cons (pv 1) (pa_cons (pv 3) pa_nil))) (pa_cons (pe_callTy call_list_of (by rfl) mlist (by decide +kernel) (pa_cons (pe_ix ix_tup (pe_call Gsheet hr (by rfl) gsheet Fsheet.kp bsheet .nil pass0 (pa_cons (pv 1) (pa_cons pe_int pa_nil))) pe_int (fun _ _ => rfl)) pa_nil)) pa_nil)))))
      (pss_cons (ps_set (i := 4) nd rfl (.inl rfl) (pe_op op_cat (pv 4) (pe_lst (pa_cons pe_non (pa_cons pe_bl (pa_cons pe_int (pa_cons pe_str (pa_cons (pe_tup pa_nil) (pa_cons (pe_lst pa_nil) (pa_cons (pe_tup (pa_cons pe_str pa_nil)) (pa_cons (pe_tup (pa_cons (pe_tup pa_nil) (pa_cons (pe_tup pa_nil) (pa_cons (pe_tup pa_nil) pa_nil)))) pa_nil)))))))))))
      (pss_one (ps_for PassesOwn.never rfl (pi_list (pv 4)) (pg_name (i := 5) nd rfl (.inl rfl)) (pss_cons (ps_set (i := 6) nd rfl (.inl rfl) (pe_callB (call_repr hr rfl) (by rfl) mrepr (by decide +kernel) (pa_cons (pv 5) pa_nil)))
      (pss_cons (ps_set (i := 7) nd rfl (.inl rfl) (pe_call Gis_letter hr (by rfl) gis_letter Fis_letter.kp bis_letter .nil pass0 (pa_cons (pv 5) pa_nil)))
      (pss_cons (ps_set (i := 8) nd rfl (.inl rfl) (pe_call Gis_sheet hr (by rfl) gis_sheet Fis_sheet.kp bis_sheet .nil pass0 (pa_cons (pv 5) pa_nil)))
      (pss_cons (ps_if (PW.pt (pw_or (pt_not (pt_val (pe_callB call_isi (by rfl) misinstance (by decide +kernel) (pa_cons (pv 7) (pa_cons (pe_bltn (v := .ty "bool") (by rfl) mbool (by decide +kernel) rfl) pa_nil))))) (pw_or1 (pt_cmpR op_ne (pv 7) (pe_call GLL hr (by rfl) gLL FLL.kp bLL .nil pass0 (pa_cons (pv 5) pa_nil)) (nomark _))))) (pss_one (ps_ret pe_bl)) pss_nil)
      (pss_cons (ps_if (PW.pt (pw_or (pt_not (pt_val (pe_callB call_isi (by rfl) misinstance (by decide +kernel) (pa_cons (pv 8) (pa_cons (pe_bltn (v := .ty "bool") (by rfl) mbool (by decide +kernel) rfl) pa_nil))))) (pw_or1 (pt_cmpR op_ne (pv 8) (pe_call GLH hr (by rfl) gLH FLH.kp bLH .nil pass0 (pa_cons (pv 5) pa_nil)) (nomark _))))) (pss_one (ps_ret pe_bl)) pss_nil)
      (pss_one (ps_if (pt_cmpR op_ne (pe_callB (call_repr hr rfl) (by rfl) mrepr (by decide +kernel) (pa_cons (pv 5) pa_nil)) (pv 6) (nomark _)) (pss_one (ps_ret pe_bl)) pss_nil))))))))))))))
      (pss_one (ps_ret pe_bl)))), ?_⟩
    refine ⟨_, rfl, a, ns, rfl, hA, hns, fun p c ms H1 e1 hP1 np nc => ?_⟩
    have no : ∀ {H' : Hp}, Pot p c ms H' → ∀ xs, H' p ≠ some (.tup xs) := fun h xs z => (h.ne_tup z) rfl
    refine ⟨8, rfl, by decide, by decide, for_range (lo := 0) (n := 8) (fun i σ H' => (∃ y2 y3 y4 y5 y6 y7 y8, σ = [some (.ref a), some (.ref p), y2, y3, y4, y5, y6, y7, y8]) ∧ Pot p c ms H' ∧ TabG H' PL ∧ TabG H' PP) ⟨⟨_, _, _, _, _, _, _, rfl⟩, hP1, (ET.of e1).tab _ tL, (ET.of e1).tab _ tP⟩ ?_ ?_⟩
    · rintro i σ H2 hi ⟨⟨y2, y3, y4, y5, y6, y7, y8, rfl⟩, hP2, tL2, tP2⟩
      refine ⟨_, rfl, p, c, ms, 4, rfl, by decide, by decide, hP2, fun os ps qs sh H3 hS hs3 kp3 hP3 => ?_⟩
      refine ⟨_, rfl, p, c, ms, rfl, hP3, fun x1 H4 t1 kp4 hP4 => ⟨_, rfl, p, c, ms, rfl, hP4, fun x2 H5 t2 kp5 hP5 => ?_⟩⟩
      have hs5 := (hs3.keep hP3 kp4).keep hP4 kp5
      refine ⟨_, rfl, _, rfl, _, rfl, p, c, sh, ms, os, ps, qs, rfl, hP5, hS, hs5, fun v3 d3 H6 th3 g3 kp6 hP6 => ⟨(by show 4 ≤ sizeLine; decide), fun L1 nL1 => ?_⟩⟩
      have hs6 := hs5.keep hP5 kp6
      have T1 : Ths p (upd H6 L1 (.lst [.str x1, .str x2, .ref sh, v3])) L1 4 := by
        have x7 := Ex.new (o := .lst [.str x1, .str x2, .ref sh, v3]) nL1
        obtain ⟨vs, hv, hall⟩ := sheet_th (N := p) (hs6.ex x7)
        refine ⟨_, _, upd_same, rfl, .cons (.str x1) (.cons (.str x2) (.cons (.tup hv hall) (.cons (th3.et (ET.of x7)) .nil))), fun d hd => ?_⟩
        simp only [List.mem_cons, List.not_mem_nil, or_false] at hd
        rcases hd with rfl | rfl | rfl | rfl
        · exact gd_txt t1
        · exact gd_txt t2
        · exact .tup (by show 3 ≤ 16; decide) (sheet_gd hS)
        · exact g3
      have x67 := Ex.new (o := .lst [.str x1, .str x2, .ref sh, v3]) nL1
      have L1p := (hP6.ne_new nL1).1.symm
      generalize upd H6 L1 (.lst [.str x1, .str x2, .ref sh, v3]) = H7 at T1 x67 ⊢
      have hP7 := hP6.ex x67
      have hs7 := hs6.ex x67
      have kp27 : Keep p H2 H7 := (((kp3.trans kp4).trans kp5).trans kp6).trans (Keep.ofEx x67)
      refine ⟨_, rfl, _, rfl, _, rfl, p, c, sh, ms, os, ps, qs, rfl, hP7, hS, hs7, fun v4 d4 H8 th4 g4 kp8 hP8 => ?_⟩
      refine ⟨_, rfl, p, c, ms, 4, rfl, by decide, by decide, hP8, fun os2 ps2 qs2 s2 H9 hS2 hs9 kp9 hP9 => ?_⟩
      obtain ⟨ao, ap, ac, q0, q1, q2, q3⟩ := hs9
      refine ⟨s2, _, 0, .ref ao, rfl, rfl, st_of q0, rfl, ao, _, rfl, .inr (st_of q1), fun l2 nl2 => ⟨(by show 2 ≤ sizeLine; decide), fun L2 nL2 => ?_⟩⟩
      have T2 := (T1.kp kp8 (no hP7) L1p).kp kp9 (no hP8) L1p
      have x10 := Ex.new (o := .lst (os2.map V.str)) nl2
      have l2p := (hP9.ne_new nl2).1.symm
      have hl2 : upd H9 l2 (.lst (os2.map V.str)) l2 = some (.lst (os2.map V.str)) := upd_same
      generalize upd H9 l2 (.lst (os2.map V.str)) = H10 at x10 hl2 nL2 ⊢
      have x11 := Ex.new (o := .lst [v4, .ref l2]) nL2
      have T3 : Ths p (upd H10 L2 (.lst [v4, .ref l2])) L2 2 := by
        refine ⟨_, _, upd_same, rfl, .cons ((th4.kp kp9 (no hP8)).et (ET.of (x10.trans x11))) (.cons (.lst l2p (x11 _ _ hl2) (ThAll.strs os2)) .nil), fun d hd => ?_⟩
        simp only [List.mem_cons, List.not_mem_nil, or_false] at hd
        rcases hd with rfl | rfl
        · exact g4
        · exact .lst (by rw [List.length_map]; have := hS2.o4; omega) (gd_ltrs hS2.parts.1)
      generalize upd H10 L2 (.lst [v4, .ref l2]) = H11 at x11 T3 ⊢
      have x911 := x10.trans x11
      have T4 := T2.ex x911
      have hP11 := hP9.ex x911
      refine cat_ths T4 T3 (by decide) fun L3 nL3 T5 => ?_
      have x12 := Ex.new (o := .lst (((H11 L1).elim [] fun o => match o with | .lst xs => xs | _ => []) ++ ((H11 L2).elim [] fun o => match o with | .lst xs => xs | _ => []))) nL3
      generalize upd H11 L3 (.lst (((H11 L1).elim [] fun o => match o with | .lst xs => xs | _ => []) ++ ((H11 L2).elim [] fun o => match o with | .lst xs => xs | _ => []))) = H12 at x12 T5 ⊢
      have hP12 := hP11.ex x12
      have kp212 : Keep p H2 H12 := (((kp27.trans kp8).trans kp9).trans (Keep.ofEx x911)).trans (Keep.ofEx x12)
      refine ⟨_, rfl, by decide, fun a1 n1 => ⟨by decide, fun a2 n2 => ⟨(by show 1 ≤ sizeLine; decide), fun a3 n3 => ⟨by decide, fun a4 n4 => ⟨by decide, fun a5 n5 => ⟨by decide, fun a6 n6 => ⟨(by show 3 ≤ sizeLine; decide), fun a7 n7 => ⟨(by show 8 ≤ sizeLine; decide), fun L4 nL4 => ?_⟩⟩⟩⟩⟩⟩⟩⟩
      have z1 := Ex.new (o := .tup []) n1
      have s1 : upd H12 a1 (.tup []) a1 = some (.tup []) := upd_same
      generalize upd H12 a1 (.tup []) = J1 at z1 s1 n2 n3 n4 n5 n6 n7 nL4 ⊢
      have z2 := Ex.new (o := .lst []) n2
      have s2' : upd J1 a2 (.lst []) a2 = some (.lst []) := upd_same
      have a2p := ((hP12.ex z1).ne_new n2).1.symm
      generalize upd J1 a2 (.lst []) = J2 at z2 s2' n3 n4 n5 n6 n7 nL4 ⊢
      have z3 := Ex.new (o := .tup [.str "a"]) n3
      have s3 : upd J2 a3 (.tup [.str "a"]) a3 = some (.tup [.str "a"]) := upd_same
      generalize upd J2 a3 (.tup [.str "a"]) = J3 at z3 s3 n4 n5 n6 n7 nL4 ⊢
      have z4 := Ex.new (o := .tup []) n4
      have s4 : upd J3 a4 (.tup []) a4 = some (.tup []) := upd_same
      generalize upd J3 a4 (.tup []) = J4 at z4 s4 n5 n6 n7 nL4 ⊢
      have z5 := Ex.new (o := .tup []) n5
      have s5 : upd J4 a5 (.tup []) a5 = some (.tup []) := upd_same
      generalize upd J4 a5 (.tup []) = J5 at z5 s5 n6 n7 nL4 ⊢
      have z6 := Ex.new (o := .tup []) n6
      have s6 : upd J5 a6 (.tup []) a6 = some (.tup []) := upd_same
      generalize upd J5 a6 (.tup []) = J6 at z6 s6 n7 nL4 ⊢
      have z7 := Ex.new (o := .tup [.ref a4, .ref a5, .ref a6]) n7
      have s7 : upd J6 a7 (.tup [.ref a4, .ref a5, .ref a6]) a7 = some (.tup [.ref a4, .ref a5, .ref a6]) := upd_same
      generalize upd J6 a7 (.tup [.ref a4, .ref a5, .ref a6]) = J7 at z7 s7 nL4 ⊢
      have z8 := Ex.new (o := .lst [.non, .bl true, .int 0, .str "", .ref a1, .ref a2, .ref a3, .ref a7]) nL4
      have T6 : Ths p (upd J7 L4 (.lst [.non, .bl true, .int 0, .str "", .ref a1, .ref a2, .ref a3, .ref a7])) L4 8 := by
        have z38 := ((((z4.trans z5).trans z6).trans z7).trans z8)
        refine ⟨_, _, upd_same, rfl, .cons .non (.cons (.bl true) (.cons (.int 0) (.cons (.str _) (.cons (.tup (((z2.trans z3).trans z38) _ _ s1) .nil) (.cons (.lst a2p ((z3.trans z38) _ _ s2') .nil) (.cons (.tup (z38 _ _ s3) (.cons (.str _) .nil)) (.cons (.tup (z8 _ _ s7) (.cons (.tup ((((z5.trans z6).trans z7).trans z8) _ _ s4) .nil) (.cons (.tup (((z6.trans z7).trans z8) _ _ s5) .nil) (.cons (.tup ((z7.trans z8) _ _ s6) .nil) .nil)))) .nil))))))), fun d hd => ?_⟩
        have gl : ∀ {k : Nat} (x : Str), ((cs x).length ≤ 40 ∧ ∀ c ∈ cs x, c < 128) → Gd k (.str x) := fun x h => gd_lit h.1 h.2
        have gt : ∀ {k : Nat}, Gd (k + 1) (.tuple []) := fun {k} => .tup (by decide) fun d hd => by cases hd
        simp only [List.mem_cons, List.not_mem_nil, or_false] at hd
        rcases hd with rfl | rfl | rfl | rfl | rfl | rfl | rfl | rfl
        · exact .non
        · exact .bl true
        · exact .int (by decide)
        · exact gl _ (by decide +kernel)
        · exact gt
        · exact .lst (by decide) fun d hd => by cases hd
        · exact .tup (by decide) fun d hd => by
            rw [List.mem_singleton.mp hd]
            exact gl _ (by decide +kernel)
        · exact .tup (by decide) fun d hd => by
            simp only [List.mem_cons, List.not_mem_nil, or_false, or_self] at hd
            rw [hd]
            exact gt
      generalize upd J7 L4 (.lst [.non, .bl true, .int 0, .str "", .ref a1, .ref a2, .ref a3, .ref a7]) = H13 at z8 T6 ⊢
      have x13 : Ex H12 H13 := ((((((z1.trans z2).trans z3).trans z4).trans z5).trans z6).trans z7).trans z8
      refine cat_ths (T5.ex x13) T6 (by decide) fun L5 nL5 T7 => ?_
      have x14 := Ex.new (o := .lst (((H13 L3).elim [] fun o => match o with | .lst xs => xs | _ => []) ++ ((H13 L4).elim [] fun o => match o with | .lst xs => xs | _ => []))) nL5
      generalize upd H13 L5 (.lst (((H13 L3).elim [] fun o => match o with | .lst xs => xs | _ => []) ++ ((H13 L4).elim [] fun o => match o with | .lst xs => xs | _ => []))) = H14 at x14 T7 ⊢
      have kp214 : Keep p H2 H14 := kp212.trans (Keep.ofEx (x13.trans x14))
      have hP14 := (hP12.ex x13).ex x14
      have tL14 := tab_keep hP2 kp214 tL2
      have tP14 := tab_keep hP2 kp214 tP2
      obtain ⟨xs, ds, hL5, hlx, hall, hgd⟩ := T7
      refine ⟨_, rfl, L5, rfl, ⟨_, sq_of hL5⟩, for_list (K := K) (xs := xs) (fun j σ H' => (∃ y5 y6 y7 y8, σ = [some (.ref a), some (.ref p), some (.int (0 + (i : Int))), some (.ref sh), some (.ref L5), y5, y6, y7, y8]) ∧ ET H14 H') ⟨⟨_, _, _, _, rfl⟩, ET.refl _⟩ (fun j σ H' _ hh => sq_of (hh.2.lst hL5)) ?_ ?_⟩
      · rintro j x σ H' hx ⟨⟨y5, y6, y7, y8, rfl⟩, eH⟩
        obtain ⟨d, hd, hTd⟩ := hall.get hx
        have g := hgd d (List.mem_of_getElem? hd)
        refine repr_th (hTd.et eH) g rfl ?_
        refine ⟨_, rfl, p, x, d, rfl, hTd.et eH, ⟨3, g⟩, eH.tab _ tL14, fun J1 f1 => ?_⟩
        have e1' := eH.trans f1
        refine ⟨_, rfl, p, x, d, rfl, hTd.et e1', ⟨3, g⟩, e1'.tab _ tL14, e1'.tab _ tP14, fun J2 f2 => ?_⟩
        have e2' := e1'.trans f2
        refine isi_bl rfl ⟨_, rfl, iteF ⟨_, rfl, _, rfl, p, x, d, rfl, hTd.et e2', ⟨3, g⟩, rfl, _, rfl, ?_⟩⟩
        rw [decide_eq_true rfl]
        refine iteF (isi_bl rfl ⟨_, rfl, iteF ⟨_, rfl, _, rfl, p, x, d, rfl, hTd.et e2', ⟨3, g⟩, fun J3 f3 => ⟨rfl, _, rfl, ?_⟩⟩⟩)
        rw [decide_eq_true rfl]
        have e3' := e2'.trans (ET.of f3)
        refine iteF ?_
        refine repr_th (hTd.et e3') g rfl ⟨_, rfl, rfl, _, rfl, ?_⟩
        rw [decide_eq_true rfl]
        exact iteF ⟨⟨_, _, _, _, rfl⟩, e3'⟩
      · rintro σ H' ⟨⟨y5, y6, y7, y8, rfl⟩, eH⟩
        exact ⟨⟨_, _, _, _, _, _, _, rfl⟩, hP14.et eH, eH.tab _ tL14, eH.tab _ tP14⟩
    · rintro σ H' ⟨⟨y2, y3, y4, y5, y6, y7, y8, rfl⟩, _⟩
      exact rfl
  obtain ⟨t, ht, hq⟩ := body
  exact EndG.enter (us := [.ref a]) (vs := [.ref a]) h1 h2 scLaw hk e0 (bi z (.ref a)) (.cons rfl .nil) rfl ht.nox hq
end
end Eh
set_option Elab.async false
set_option linter.all false
set_option maxRecDepth 100000
set_option maxHeartbeats 4000000
namespace Eh
open PySem PySem.Spec PyProof.Rows L2 Evl GxR Gx Sx
theorem all_mk {l : PySem.W.OpenLaw} {w : World} {K : PySem.W.Frag} {h : Heap} {mg : Str → Option Value} {fa f0 f1 f2 f3 f4 f5 f6 f7 f8 f9 f10 f11 f12 f13 : Addr} (X : K.In h) (G : h.Ns mainGlobals mg) (hfa : mg "law" = some (.ref fa)) (own : EndG.Tabs ["is_letter", "is_part"] K mg h)
    {od0 an0 : Option Addr} {sl0 : Array (Option Value)} {oc0 kV0 dc0 pm0 ct0 : Value} {cc0 PT0 : Addr} {ce0 : Value} {cdd0 : Option Addr} {vsC0 : Array Value} {ccs0 : Array (Option Value)}
    {od1 an1 : Option Addr} {sl1 : Array (Option Value)} {oc1 kV1 dc1 pm1 ct1 : Value} {cd1 : Value}
    {od2 an2 : Option Addr} {sl2 : Array (Option Value)} {oc2 kV2 dc2 pm2 ct2 : Value} {cc2 PT2 : Addr} {ce2 : Value} {cdd2 : Option Addr} {vsC2 : Array Value} {ccs2 : Array (Option Value)}
    {od3 an3 : Option Addr} {sl3 : Array (Option Value)} {oc3 kV3 dc3 pm3 ct3 : Value} {cd3 : Value}
    {od4 an4 : Option Addr} {sl4 : Array (Option Value)} {oc4 kV4 dc4 pm4 ct4 : Value} {cd4 : Value}
    {od5 an5 : Option Addr} {sl5 : Array (Option Value)} {oc5 kV5 dc5 pm5 ct5 : Value} {cd5 : Value}
    {od6 an6 : Option Addr} {sl6 : Array (Option Value)} {oc6 kV6 dc6 pm6 ct6 : Value} {cd6 : Value}
    {od7 an7 : Option Addr} {sl7 : Array (Option Value)} {oc7 kV7 dc7 pm7 ct7 : Value} {cd7 : Value}
    {od8 an8 : Option Addr} {sl8 : Array (Option Value)} {oc8 kV8 dc8 pm8 ct8 : Value} {cd8 : Value}
    {od9 an9 : Option Addr} {sl9 : Array (Option Value)} {oc9 kV9 dc9 pm9 ct9 : Value} {cd9 : Value}
    {od10 an10 : Option Addr} {sl10 : Array (Option Value)} {oc10 kV10 dc10 pm10 ct10 : Value} {cd10 : Value}
    {od11 an11 : Option Addr} {sl11 : Array (Option Value)} {oc11 kV11 dc11 pm11 ct11 : Value} {cd11 : Value}
    {od12 an12 : Option Addr} {sl12 : Array (Option Value)} {oc12 kV12 dc12 pm12 ct12 : Value} {cd12 : Value}
    {od13 an13 : Option Addr} {sl13 : Array (Option Value)} {oc13 kV13 dc13 pm13 ct13 : Value} {cd13 : Value}
    {t1 t2 t3 : Tok}
    (a0 : PySem.W.nsIn K mainGlobals "is_letter" = some (some (.ref f0)))
    (l0 : K.lookup f0 = some ⟨oc0, od0, .func (PySem.W.fnOf "is_letter" "is_letter" (defArgs sIsLetter) (defBody sIsLetter) (defScope sIsLetter) .none kV0 dc0 pm0 an0 (.ref cc0) ct0), sl0⟩)
    (c0 : PySem.W.codeIn K (.ref cc0) "is_letter" = true)
    (k0 : PySem.W.keepIn K (.ref f0) = true)
    (co0 : K.lookup cc0 = some ⟨ce0, cdd0, .fields vsC0, ccs0⟩)
    (pt0 : vsC0[11]? = some (.ref PT0))
    (pn0 : K.lookup PT0 = none)
    (hd0 : PySem.W.codeHdIn K cc0 PT0 = true)
    (a1 : PySem.W.nsIn K mainGlobals "is_sheet" = some (some (.ref f1)))
    (l1 : K.lookup f1 = some ⟨oc1, od1, .func (PySem.W.fnOf "is_sheet" "is_sheet" (defArgs sIsSheet) (defBody sIsSheet) (defScope sIsSheet) .none kV1 dc1 pm1 an1 cd1 ct1), sl1⟩)
    (c1 : PySem.W.codeIn K cd1 "is_sheet" = true)
    (k1 : PySem.W.keepIn K (.ref f1) = true)
    (a2 : PySem.W.nsIn K mainGlobals "is_part" = some (some (.ref f2)))
    (l2 : K.lookup f2 = some ⟨oc2, od2, .func (PySem.W.fnOf "is_part" "is_part" (defArgs sIsPart) (defBody sIsPart) (defScope sIsPart) .none kV2 dc2 pm2 an2 (.ref cc2) ct2), sl2⟩)
    (c2 : PySem.W.codeIn K (.ref cc2) "is_part" = true)
    (k2 : PySem.W.keepIn K (.ref f2) = true)
    (co2 : K.lookup cc2 = some ⟨ce2, cdd2, .fields vsC2, ccs2⟩)
    (pt2 : vsC2[11]? = some (.ref PT2))
    (pn2 : K.lookup PT2 = none)
    (hd2 : PySem.W.codeHdIn K cc2 PT2 = true)
    (a3 : PySem.W.nsIn K mainGlobals "_law_blend" = some (some (.ref f3)))
    (l3 : K.lookup f3 = some ⟨oc3, od3, .func (PySem.W.fnOf "_law_blend" "_law_blend" (defArgs sBlend) (defBody sBlend) (defScope sBlend) .none kV3 dc3 pm3 an3 cd3 ct3), sl3⟩)
    (c3 : PySem.W.codeIn K cd3 "_law_blend" = true)
    (k3 : PySem.W.keepIn K (.ref f3) = true)
    (a4 : PySem.W.nsIn K mainGlobals "_law_pot" = some (some (.ref f4)))
    (l4 : K.lookup f4 = some ⟨oc4, od4, .func (PySem.W.fnOf "_law_pot" "_law_pot" (defArgs sPot) (defBody sPot) (defScope sPot) .none kV4 dc4 pm4 an4 cd4 ct4), sl4⟩)
    (c4 : PySem.W.codeIn K cd4 "_law_pot" = true)
    (k4 : PySem.W.keepIn K (.ref f4) = true)
    (a5 : PySem.W.nsIn K mainGlobals "_law_pick" = some (some (.ref f5)))
    (l5 : K.lookup f5 = some ⟨oc5, od5, .func (PySem.W.fnOf "_law_pick" "_law_pick" (defArgs sPick) (defBody sPick) (defScope sPick) .none kV5 dc5 pm5 an5 cd5 ct5), sl5⟩)
    (c5 : PySem.W.codeIn K cd5 "_law_pick" = true)
    (k5 : PySem.W.keepIn K (.ref f5) = true)
    (a6 : PySem.W.nsIn K mainGlobals "_law_letters" = some (some (.ref f6)))
    (l6 : K.lookup f6 = some ⟨oc6, od6, .func (PySem.W.fnOf "_law_letters" "_law_letters" (defArgs sLetters) (defBody sLetters) (defScope sLetters) .none kV6 dc6 pm6 an6 cd6 ct6), sl6⟩)
    (c6 : PySem.W.codeIn K cd6 "_law_letters" = true)
    (k6 : PySem.W.keepIn K (.ref f6) = true)
    (a7 : PySem.W.nsIn K mainGlobals "_law_sheet" = some (some (.ref f7)))
    (l7 : K.lookup f7 = some ⟨oc7, od7, .func (PySem.W.fnOf "_law_sheet" "_law_sheet" (defArgs sSheet) (defBody sSheet) (defScope sSheet) .none kV7 dc7 pm7 an7 cd7 ct7), sl7⟩)
    (c7 : PySem.W.codeIn K cd7 "_law_sheet" = true)
    (k7 : PySem.W.keepIn K (.ref f7) = true)
    (a8 : PySem.W.nsIn K mainGlobals "_law_is_letter" = some (some (.ref f8)))
    (l8 : K.lookup f8 = some ⟨oc8, od8, .func (PySem.W.fnOf "_law_is_letter" "_law_is_letter" (defArgs sLawIsLetter) (defBody sLawIsLetter) (defScope sLawIsLetter) .none kV8 dc8 pm8 an8 cd8 ct8), sl8⟩)
    (c8 : PySem.W.codeIn K cd8 "_law_is_letter" = true)
    (k8 : PySem.W.keepIn K (.ref f8) = true)
    (a9 : PySem.W.nsIn K mainGlobals "_law_is_sheet" = some (some (.ref f9)))
    (l9 : K.lookup f9 = some ⟨oc9, od9, .func (PySem.W.fnOf "_law_is_sheet" "_law_is_sheet" (defArgs sLawIsSheet) (defBody sLawIsSheet) (defScope sLawIsSheet) .none kV9 dc9 pm9 an9 cd9 ct9), sl9⟩)
    (c9 : PySem.W.codeIn K cd9 "_law_is_sheet" = true)
    (k9 : PySem.W.keepIn K (.ref f9) = true)
    (a10 : PySem.W.nsIn K mainGlobals "_law_text" = some (some (.ref f10)))
    (l10 : K.lookup f10 = some ⟨oc10, od10, .func (PySem.W.fnOf "_law_text" "_law_text" (defArgs sLawText) (defBody sLawText) (defScope sLawText) .none kV10 dc10 pm10 an10 cd10 ct10), sl10⟩)
    (c10 : PySem.W.codeIn K cd10 "_law_text" = true)
    (k10 : PySem.W.keepIn K (.ref f10) = true)
    (a11 : PySem.W.nsIn K mainGlobals "_law_other_part" = some (some (.ref f11)))
    (l11 : K.lookup f11 = some ⟨oc11, od11, .func (PySem.W.fnOf "_law_other_part" "_law_other_part" (defArgs sLawOtherPart) (defBody sLawOtherPart) (defScope sLawOtherPart) .none kV11 dc11 pm11 an11 cd11 ct11), sl11⟩)
    (c11 : PySem.W.codeIn K cd11 "_law_other_part" = true)
    (k11 : PySem.W.keepIn K (.ref f11) = true)
    (a12 : PySem.W.nsIn K mainGlobals "_law_other" = some (some (.ref f12)))
    (l12 : K.lookup f12 = some ⟨oc12, od12, .func (PySem.W.fnOf "_law_other" "_law_other" (defArgs sLawOther) (defBody sLawOther) (defScope sLawOther) .none kV12 dc12 pm12 an12 cd12 ct12), sl12⟩)
    (c12 : PySem.W.codeIn K cd12 "_law_other" = true)
    (k12 : PySem.W.keepIn K (.ref f12) = true)
    (a13 : PySem.W.nsIn K mainGlobals "law" = some (some (.ref f13)))
    (l13 : K.lookup f13 = some ⟨oc13, od13, .func (PySem.W.fnOf "law" "law" (defArgs sLaw) (defBody sLaw) (defScope sLaw) .none kV13 dc13 pm13 an13 cd13 ct13), sl13⟩)
    (c13 : PySem.W.codeIn K cd13 "law" = true)
    (k13 : PySem.W.keepIn K (.ref f13) = true)
    (z0 : PySem.W.nsIn K mainGlobals "isinstance" = some none)
    (z1 : PySem.W.nsIn K mainGlobals "str" = some none)
    (z2 : PySem.W.nsIn K mainGlobals "len" = some none)
    (z3 : PySem.W.nsIn K mainGlobals "all" = some none)
    (z4 : PySem.W.nsIn K mainGlobals "tuple" = some none)
    (z5 : PySem.W.nsIn K mainGlobals "set" = some none)
    (z6 : PySem.W.nsIn K mainGlobals "list" = some none)
    (z7 : PySem.W.nsIn K mainGlobals "enumerate" = some none)
    (z8 : PySem.W.nsIn K mainGlobals "range" = some none)
    (z9 : PySem.W.nsIn K mainGlobals "min" = some none)
    (z10 : PySem.W.nsIn K mainGlobals "bool" = some none)
    (z11 : PySem.W.nsIn K mainGlobals "repr" = some none)
    (gS : PySem.W.nsIn K mainGlobals "SMALL" = some (some (.str alphaS t1)))
    (gM : PySem.W.nsIn K mainGlobals "MOST_SIGNS" = some (some (.int 8 t2)))
    (gO : PySem.W.nsIn K mainGlobals "MOST_OF_A_PART" = some (some (.int 4 t3)))
    : EndG.LawAtG l w K CX0 63 mg fa h := by
  have e := hfa.symm.trans (PySem.W.mg_of X G a13)
  cases e
  have C0 : FunC K "is_letter" "is_letter" sIsLetter f0 _ cc0 := ⟨⟨_, _, _, _, _, _, _, _, rfl, l0, c0⟩, k0⟩
  have F0 := C0.toFun
  have g0 := PySem.W.mg_of X G a0
  have b0 := F0.binds (ps := ["thing"]) fun _ _ _ _ _ _ us hl => match us, hl with | [_], _ => rfl
  have F1 := fun_mk (st := sIsSheet) l1 c1 k1
  have g1 := PySem.W.mg_of X G a1
  have b1 := F1.binds (ps := ["thing"]) fun _ _ _ _ _ _ us hl => match us, hl with | [_], _ => rfl
  have C2 : FunC K "is_part" "is_part" sIsPart f2 _ cc2 := ⟨⟨_, _, _, _, _, _, _, _, rfl, l2, c2⟩, k2⟩
  have F2 := C2.toFun
  have g2 := PySem.W.mg_of X G a2
  have b2 := F2.binds (ps := ["thing", "least"]) fun _ _ _ _ _ _ us hl => match us, hl with | [_, _], _ => rfl
  have F3 := fun_mk (st := sBlend) l3 c3 k3
  have g3 := PySem.W.mg_of X G a3
  have b3 := F3.binds (ps := ["cell", "at"]) fun _ _ _ _ _ _ us hl => match us, hl with | [_, _], _ => rfl
  have F4 := fun_mk (st := sPot) l4 c4 k4
  have g4 := PySem.W.mg_of X G a4
  have b4 := F4.binds (ps := ["script"]) fun _ _ _ _ _ _ us hl => match us, hl with | [_], _ => rfl
  have F5 := fun_mk (st := sPick) l5 c5 k5
  have g5 := PySem.W.mg_of X G a5
  have b5 := F5.binds (ps := ["pot", "many"]) fun _ _ _ _ _ _ us hl => match us, hl with | [_, _], _ => rfl
  have F6 := fun_mk (st := sLetters) l6 c6 k6
  have g6 := PySem.W.mg_of X G a6
  have b6 := F6.binds (ps := ["pot", "many"]) fun _ _ _ _ _ _ us hl => match us, hl with | [_, _], _ => rfl
  have F7 := fun_mk (st := sSheet) l7 c7 k7
  have g7 := PySem.W.mg_of X G a7
  have b7 := F7.binds (ps := ["pot", "most"]) fun _ _ _ _ _ _ us hl => match us, hl with | [_, _], _ => rfl
  have F8 := fun_mk (st := sLawIsLetter) l8 c8 k8
  have g8 := PySem.W.mg_of X G a8
  have b8 := F8.binds (ps := ["thing"]) fun _ _ _ _ _ _ us hl => match us, hl with | [_], _ => rfl
  have F9 := fun_mk (st := sLawIsSheet) l9 c9 k9
  have g9 := PySem.W.mg_of X G a9
  have b9 := F9.binds (ps := ["thing"]) fun _ _ _ _ _ _ us hl => match us, hl with | [_], _ => rfl
  have F10 := fun_mk (st := sLawText) l10 c10 k10
  have g10 := PySem.W.mg_of X G a10
  have b10 := F10.binds (ps := ["pot"]) fun _ _ _ _ _ _ us hl => match us, hl with | [_], _ => rfl
  have F11 := fun_mk (st := sLawOtherPart) l11 c11 k11
  have g11 := PySem.W.mg_of X G a11
  have b11 := F11.binds (ps := ["pot", "sheet", "part"]) fun _ _ _ _ _ _ us hl => match us, hl with | [_, _, _], _ => rfl
  have F12 := fun_mk (st := sLawOther) l12 c12 k12
  have g12 := PySem.W.mg_of X G a12
  have b12 := F12.binds (ps := ["pot", "sheet"]) fun _ _ _ _ _ _ us hl => match us, hl with | [_, _], _ => rfl
  have F13 := fun_mk (st := sLaw) l13 c13 k13
  have g13 := PySem.W.mg_of X G a13
  have b13 := F13.binds (ps := ["script"]) fun _ _ _ _ _ _ us hl => match us, hl with | [_], _ => rfl
  have misinstance := PySem.W.mg_none_of X G z0
  have mstr := PySem.W.mg_none_of X G z1
  have mlen := PySem.W.mg_none_of X G z2
  have mall := PySem.W.mg_none_of X G z3
  have mtuple := PySem.W.mg_none_of X G z4
  have mset := PySem.W.mg_none_of X G z5
  have mlist := PySem.W.mg_none_of X G z6
  have menumerate := PySem.W.mg_none_of X G z7
  have mrange := PySem.W.mg_none_of X G z8
  have mmin := PySem.W.mg_none_of X G z9
  have mbool := PySem.W.mg_none_of X G z10
  have mrepr := PySem.W.mg_none_of X G z11
  have mS := PySem.W.mg_of X G gS
  have mM := PySem.W.mg_of X G gM
  have mO := PySem.W.mg_of X G gO
  have tb0 := own "is_letter" (by decide) f0 g0 cc0 PT0 _ _ _ _ _ _ l0 rfl rfl co0 pt0
  have tb2 := own "is_part" (by decide) f2 g2 cc2 PT2 _ _ _ _ _ _ l2 rfl rfl co2 pt2
  have two : ∀ {φ : Addr × Addr → Prop}, φ (cc0, PT0) → φ (cc2, PT2) → ∀ p ∈ [(cc0, PT0), (cc2, PT2)], φ p := fun h1 h2 p hp => by
    simp only [List.mem_cons, List.not_mem_nil, or_false] at hp
    rcases hp with rfl | rfl
    · exact h1
    · exact h2
  refine ⟨[(cc0, PT0), (cc2, PT2)], two tb0 tb2, two pn0 pn2, two (PySem.W.codeHd_of_K X hd0) (PySem.W.codeHd_of_K X hd2), ?_⟩
  intro base H z a ns kb nb TB hH hS hlen hbits e0
  have TB0 := TB (cc0, PT0) (by simp)
  have TB2 := TB (cc2, PT2) (by simp)
  have tG : ∀ {Q : Addr}, H Q = some (.tbl #[]) → TabG H Q := fun h => ⟨#[], h, by exact trivial⟩
  have tL := tG (hH (cc0, PT0) (by simp))
  have tP := tG (hH (cc2, PT2) (by simp))
  have PK : ∀ k, FnOk l.prog w K mg base CX0 (k + 2) _ _ _ spPick := fun k => ok_pick (k := k) F5 F3 b3 g3 mlen
  have GI : ∀ k, FnOk l.prog w K mg base CX0 (k + 2) _ _ _ (spIsLetter PT0) := fun k => ok_isLetter (k := k) C0 TB0 misinstance mstr mlen mall mS mM
  have GQ : FnOk l.prog w K mg base CX0 10 _ _ _ (spIsPart PT0 PT2) := ok_isPart (k := 8) C2 TB2 F0 (GI 6) b0 g0 misinstance mtuple mlen mall mO
  have GS : FnOk l.prog w K mg base CX0 11 _ _ _ (spIsSheet PT0 PT2) := ok_isSheet (k := 10) F1 F2 GQ b2 g2 misinstance mtuple mlen mset
  have LL : ∀ k, FnOk l.prog w K mg base CX0 (k + 1) _ _ _ spLIsLetter := fun k => ok_lIsLetter (k := k) F8 misinstance mstr mlen
  have LS : FnOk l.prog w K mg base CX0 11 _ _ _ spLIsSheet := ok_lIsSheet (k := 10) F9 F8 (LL 9) b8 g8 misinstance mtuple mlen
  have GT : ∀ k, FnOk l.prog w K mg base CX0 (k + 3) _ _ _ spText := fun k => ok_text (k := k + 1) F10 F5 (PK k) b5 g5 mlen mrange
  have GL : ∀ k, FnOk l.prog w K mg base CX0 (k + 3) _ _ _ spLetters := fun k => ok_letters (k := k + 1) F6 F5 (PK k) b5 g5 mlen mrange
  have GO : FnOk l.prog w K mg base CX0 10 _ _ _ spOP := ok_otherPart (k := 9) F11 F5 (PK 7) b5 g5 F10 (GT 6) b10 g10 F6 (GL 6) b6 g6 mlen mtuple mlist
  have GR : FnOk l.prog w K mg base CX0 11 _ _ _ spOT := ok_other (k := 10) F12 F5 (PK 8) b5 g5 F11 GO b11 g11 mlist
  have G1 : FnOk l.prog w K mg base CX0 11 _ _ _ (spPot K) := ok_pot (k := 10) F4 mlist menumerate
  have G2 : FnOk l.prog w K mg base CX0 11 _ _ _ spSheet := ok_sheet (k := 8) F7 F5 (PK 7) b5 g5 F6 (GL 7) b6 g6 mmin mtuple
  exact law_run (k := 11) F13 F4 G1 b4 g4 F7 G2 b7 g7 F10 (GT 8) b10 g10 F12 GR b12 g12 F0 (GI 9) b0 g0 F1 GS b1 g1 F8 (LL 10) b8 g8 F9 LS b9 g9 misinstance mbool mrange mlist mrepr ⟨rfl, by decide, by decide⟩ (fun s v => .of_eq rfl) e0 hS hlen tL tP
end Eh
open PySem PySem.W PyProof.Rows
set_option maxHeartbeats 0 in
theorem PySem.Challenge.cw_echohall_k01_letters_and_sheets_holds : PySem.Challenge.rw_echohall_k01_letters_and_sheets.Holds := by
  w_on; o_law; k_head; (case hw => w_witness2)
  k_fill
  refine EndG.walkG (l := PySem.Challenge.rw_echohall_k01_letters_and_sheets) (n := 63) (CX := fun _ => L2.CX0) ["is_letter", "is_part"] rfl (by decide) rfl (by decide +kernel) (fun w h Y => PySem.W.kIn_of Y) ?F (fun _ _ _ _ _ h => h)
  case F =>
    intro w mg fa h _ KX G hmg own
    refine' Eh.all_mk KX G hmg own ?a0 ?l0 ?c0 ?k0 ?co0 ?pt0 ?pn0 ?hd0 ?a1 ?l1 ?c1 ?k1 ?a2 ?l2 ?c2 ?k2 ?co2 ?pt2 ?pn2 ?hd2 ?a3 ?l3 ?c3 ?k3 ?a4 ?l4 ?c4 ?k4 ?a5 ?l5 ?c5 ?k5 ?a6 ?l6 ?c6 ?k6 ?a7 ?l7 ?c7 ?k7 ?a8 ?l8 ?c8 ?k8 ?a9 ?l9 ?c9 ?k9 ?a10 ?l10 ?c10 ?k10 ?a11 ?l11 ?c11 ?k11 ?a12 ?l12 ?c12 ?k12 ?a13 ?l13 ?c13 ?k13 ?z0 ?z1 ?z2 ?z3 ?z4 ?z5 ?z6 ?z7 ?z8 ?z9 ?z10 ?z11 ?gS ?gM ?gO
    (case a0 => k_is)
    (case l0 => k_is)
    (case c0 => k_is)
    (case k0 => k_is)
    (case co0 => k_is)
    (case pt0 => rfl)
    (case pn0 => first | k_is | rfl | decide +kernel)
    (case hd0 => first | k_is | rfl | decide +kernel)
    (case a1 => k_is)
    (case l1 => k_is)
    (case c1 => k_is)
    (case k1 => k_is)
    (case a2 => k_is)
    (case l2 => k_is)
    (case c2 => k_is)
    (case k2 => k_is)
    (case co2 => k_is)
    (case pt2 => rfl)
    (case pn2 => first | k_is | rfl | decide +kernel)
    (case hd2 => first | k_is | rfl | decide +kernel)
    (case a3 => k_is)
    (case l3 => k_is)
    (case c3 => k_is)
    (case k3 => k_is)
    (case a4 => k_is)
    (case l4 => k_is)
    (case c4 => k_is)
    (case k4 => k_is)
    (case a5 => k_is)
    (case l5 => k_is)
    (case c5 => k_is)
    (case k5 => k_is)
    (case a6 => k_is)
    (case l6 => k_is)
    (case c6 => k_is)
    (case k6 => k_is)
    (case a7 => k_is)
    (case l7 => k_is)
    (case c7 => k_is)
    (case k7 => k_is)
    (case a8 => k_is)
    (case l8 => k_is)
    (case c8 => k_is)
    (case k8 => k_is)
    (case a9 => k_is)
    (case l9 => k_is)
    (case c9 => k_is)
    (case k9 => k_is)
    (case a10 => k_is)
    (case l10 => k_is)
    (case c10 => k_is)
    (case k10 => k_is)
    (case a11 => k_is)
    (case l11 => k_is)
    (case c11 => k_is)
    (case k11 => k_is)
    (case a12 => k_is)
    (case l12 => k_is)
    (case c12 => k_is)
    (case k12 => k_is)
    (case a13 => k_is)
    (case l13 => k_is)
    (case c13 => k_is)
    (case k13 => k_is)
    (case z0 => k_is)
    (case z1 => k_is)
    (case z2 => k_is)
    (case z3 => k_is)
    (case z4 => k_is)
    (case z5 => k_is)
    (case z6 => k_is)
    (case z7 => k_is)
    (case z8 => k_is)
    (case z9 => k_is)
    (case z10 => k_is)
    (case z11 => k_is)
    (case gS => k_is)
    (case gM => k_is)
    (case gO => k_is)
