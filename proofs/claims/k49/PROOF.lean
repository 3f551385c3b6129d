import PyProof.Rows.All
import Wide.All
import OpenK.AllK
import Wide.FinOn
import HandS.ForMost
import HandS.Evl
import KE.GoesEnum
import HandS.DictComp
import HandS.Flow
import HandS.Wide
import HandS.IsInst
import HandS.Zip
import KE.KExcSuper
import HandS.Exc
import HandS.ExcInit
import HandS.FStr
import HandS.Nested
import KE.KIsAll
import KE.KTryMore
import KE.KExcIs
import HandS.ExcIs
import HandS.ExcField
import HandS.ExcValue
import HandS.WordsExc
import HandS.RaiseMore
import PySem.Challenge.RW_echohall_k49_written
set_option Elab.async false
set_option linter.all false
set_option maxRecDepth 100000
set_option maxHeartbeats 4000000
namespace Eh
open PySem PySem.Spec PyProof.Rows L2 Evl
def topS (i : Nat) : Stmt := PySem.Challenge.pw_echohall_k49_written.main.body.getD i (.Pass ⟨0, 0, 0, 0⟩)
abbrev sPartsIn : Stmt := topS 15
abbrev sLengthOf : Stmt := topS 16
abbrev sWritten : Stmt := topS 17
abbrev sLettersOf : Stmt := topS 18
abbrev sBlend : Stmt := topS 20
abbrev sPot : Stmt := topS 21
abbrev sPick : Stmt := topS 22
abbrev sLetters : Stmt := topS 23
abbrev sSheet : Stmt := topS 24
abbrev sShut : Stmt := topS 25
abbrev sSame : Stmt := topS 26
abbrev sKind : Stmt := topS 27
abbrev sLawCount : Stmt := topS 28
abbrev sLawGreat : Stmt := topS 29
abbrev sSize : Stmt := topS 30
abbrev sLawWrite : Stmt := topS 31
abbrev sLawNamed : Stmt := topS 32
abbrev sTold : Stmt := topS 33
abbrev sLawNearBound : Stmt := topS 34
abbrev sLawOfNothing : Stmt := topS 35
abbrev sLaw : Stmt := topS 36
theorem scBlend : FnScope ["cell", "at", "one", "two", "three"] ["cell", "at"] (defScope sBlend) := ⟨rfl, rfl, rfl, by decide +kernel, rfl, by decide +kernel, by decide +kernel⟩
theorem scPot : FnScope ["script", "cells", "k", "cell"] ["script"] (defScope sPot) := ⟨rfl, rfl, rfl, by decide +kernel, rfl, by decide +kernel, by decide +kernel⟩
theorem scPick : FnScope ["pot", "many", "at", "cell", "found"] ["pot", "many"] (defScope sPick) := ⟨rfl, rfl, rfl, by decide +kernel, rfl, by decide +kernel, by decide +kernel⟩
theorem scLetters : FnScope ["pot", "many", "small", "k", "rest", "spot", "turn", "size", "found", "part", "at"] ["pot", "many"] (defScope sLetters) := ⟨rfl, rfl, rfl, by decide +kernel, rfl, by decide +kernel, by decide +kernel⟩
theorem scSheet : FnScope ["pot", "most", "letters", "turn", "opens", "plains", "closes"] ["pot", "most"] (defScope sSheet) := ⟨rfl, rfl, rfl, by decide +kernel, rfl, by decide +kernel, by decide +kernel⟩
end Eh
set_option Elab.async false
set_option linter.all false
set_option maxRecDepth 100000
set_option maxHeartbeats 4000000
namespace Eh
open PySem PySem.Spec PyProof.Rows L2 Evl
/-! heaps -/
def Keep (p : Addr) (H H' : Hp) : Prop := ∀ b o, b ≠ p → H b = some o → H' b = some o
theorem Keep.refl (p : Addr) (H : Hp) : Keep p H H := fun _ _ _ h => h
theorem Keep.trans {p : Addr} {H H1 H2 : Hp} (a : Keep p H H1) (b : Keep p H1 H2) : Keep p H H2 := fun x o n h => b x o n (a x o n h)
theorem Keep.ofEx {p : Addr} {H H' : Hp} (e : Ex H H') : Keep p H H' := fun b o _ h => e b o h
theorem Keep.new {p q : Addr} {H H' : Hp} {o : HO} (k : Keep p H H') (h : H q = none) : Keep p H (upd H' q o) := fun b u n e => by
  rw [upd_ne (ne_of_none e h)]
  exact k b u n e
theorem Keep.at {p : Addr} {H H' : Hp} {o : HO} (k : Keep p H H') : Keep p H (upd H' p o) := fun b u n e => by
  rw [upd_ne n]
  exact k b u n e
/-- the drawing pot: its cells stand still, how many were drawn and the rest change -/
def Pot (p c : Addr) (ns : List Int) (H : Hp) : Prop := ∃ a r : Int, 0 ≤ a ∧ H p = some (.lst [.ref c, .int a, .int r]) ∧ H c = some (.lst (ns.map V.int))
theorem Pot.ne {p c : Addr} {ns : List Int} {H : Hp} (h : Pot p c ns H) : c ≠ p := by
  obtain ⟨a, r, _, h1, h2⟩ := h
  intro e
  subst e
  have q : [V.ref c, .int a, .int r] = ns.map V.int := by
    have := h1.symm.trans h2
    injection this with this
    injection this
  cases ns with
  | nil => cases q
  | cons x t => cases q
theorem Pot.ex {p c : Addr} {ns : List Int} {H H' : Hp} (h : Pot p c ns H) (e : Ex H H') : Pot p c ns H' := by
  obtain ⟨a, r, h0, h1, h2⟩ := h
  exact ⟨a, r, h0, e _ _ h1, e _ _ h2⟩
theorem Pot.new {p c q : Addr} {ns : List Int} {H : Hp} {o : HO} (h : Pot p c ns H) (hp : p ≠ q) (hc : c ≠ q) : Pot p c ns (upd H q o) := by
  obtain ⟨a, r, h0, h1, h2⟩ := h
  exact ⟨a, r, h0, by rw [upd_ne hp]; exact h1, by rw [upd_ne hc]; exact h2⟩
section
variable {P : Program} {w : World} {K : PySem.W.Frag} {mg : Str → Option Value} {base : Heap}
def spBlend : Sp := fun vs H Q _ => ∃ x a : Int, vs = [.int x, .int a] ∧ ∀ v : Int, Q (.int v) H
theorem ok_blend {f : Addr} {fd : FuncData} {k : Nat} (F : Fun K "_law_blend" "_law_blend" sBlend f fd) : FnOk P w K mg base CX0 (k + 1) f fd ["cell", "at"] spBlend := by
  refine F.ok scBlend (fun vs H Q E h => ?_) (fun cdv A outer s H vs Q E hr h => ?_)
  · obtain ⟨x, a, rfl, _⟩ := h
    rfl
  · obtain ⟨x, a, rfl, q⟩ := h
    refine ⟨_, pss_cons (ps_if (pt_cmpR op_ge (pv 0) (pe_op op_pow pe_int pe_int) (nomark _)) (pss_one (ps_ret (pv 0))) pss_nil)
      (pss_cons (ps_set (i := 2) scBlend.nd rfl (.inl rfl) (pe_op op_mod (pe_op op_add (pe_op op_add (pe_op op_mul (pe_op op_mod (pv 0) pe_int) pe_int) (pe_op op_mul (pv 1) pe_int)) pe_int) pe_int))
      (pss_cons (ps_set (i := 3) scBlend.nd rfl (.inl rfl) (pe_op op_mod (pe_op op_add (pe_op op_add (pe_op op_mul (pv 2) (pv 2)) (pe_op op_mul (pv 1) pe_int)) (pe_op op_mod (pv 0) pe_int)) pe_int))
      (pss_cons (ps_set (i := 4) scBlend.nd rfl (.inl rfl) (pe_op op_mod (pe_op op_add (pe_op op_add (pe_op op_mul (pv 3) (pv 3)) (pe_op op_mul (pv 2) pe_int)) pe_int) pe_int))
      (pss_one (ps_ret (pe_op op_add (pe_op op_mul (pe_op op_add (pe_op op_mul (pv 2) pe_int) (pv 3)) pe_int) (pv 4))))))), ?_⟩
    refine ⟨_, rfl, 10, 18, rfl, rfl, ⟨by decide, by decide, by decide⟩, _, _, rfl, rfl, _, rfl, ite2 (fun e => ?_) (fun e => ?_)⟩
    · exact ⟨_, rfl, q _⟩
    · have big : ∀ j : Int, 0 < j → j < 4294967296 → ∀ y : Int, CMul (y % j) (y % j) := fun j h0 h1 y => .inl ⟨by have := Int.emod_nonneg y (show j ≠ 0 by omega); omega, by have := Int.emod_lt_of_pos y h0; omega⟩
      refine ⟨_, rfl, _, _, rfl, rfl, (by show (0 : Int) < _; decide), _, _, rfl, rfl, .inr ⟨by decide, by decide⟩, _, rfl, _, _, rfl, rfl, .inr ⟨by decide, by decide⟩, _, _, rfl, rfl, _, _, rfl, rfl, _, _, rfl, rfl, (by show (0 : Int) < _; decide), ?_⟩
      refine ⟨_, rfl, _, rfl, _, _, rfl, rfl, big _ (by decide) (by decide) _, _, rfl, _, _, rfl, rfl, .inr ⟨by decide, by decide⟩, _, _, rfl, rfl, _, rfl, _, _, rfl, rfl, (by show (0 : Int) < _; decide), _, _, rfl, rfl, _, _, rfl, rfl, (by show (0 : Int) < _; decide), ?_⟩
      refine ⟨_, rfl, _, rfl, _, _, rfl, rfl, big _ (by decide) (by decide) _, _, rfl, _, _, rfl, rfl, .inr ⟨by decide, by decide⟩, _, _, rfl, rfl, _, _, rfl, rfl, _, _, rfl, rfl, (by show (0 : Int) < _; decide), ?_⟩
      exact ⟨_, rfl, _, _, rfl, rfl, .inr ⟨by decide, by decide⟩, _, rfl, _, _, rfl, rfl, _, _, rfl, rfl, .inr ⟨by decide, by decide⟩, _, rfl, _, _, rfl, rfl, q _⟩
end
end Eh
set_option Elab.async false
set_option linter.all false
set_option maxRecDepth 100000
set_option maxHeartbeats 4000000
namespace Eh
open PySem PySem.Spec PyProof.Rows L2 Evl
theorem dpInts {K : PySem.W.Frag} {H : Hp} : ∀ ns : List Int, DpAll K H (ns.map V.int) (ns.map PyData.int)
  | [] => .nil
  | n :: r => .cons (.int n) (dpInts r)
theorem layInts : ∀ ns : List Int, PyData.canLayAll0 (ns.map PyData.int) = true
  | [] => rfl
  | n :: r => by
    show (true && PyData.canLayAll0 (r.map PyData.int)) = true
    rw [layInts r]
    rfl
theorem deepInts : ∀ ns : List Int, PyData.depthAll (ns.map PyData.int) = 0
  | [] => rfl
  | n :: r => by
    show max 0 (PyData.depthAll (r.map PyData.int)) = 0
    rw [deepInts r]
    rfl
theorem shapedInts (ns : List Int) : SeqAt.shaped (.list (ns.map PyData.int)) = true := by
  unfold SeqAt.shaped
  have h1 : PyData.canLay0 (.list (ns.map PyData.int)) = true := layInts ns
  have h2 : PyData.depth (.list (ns.map PyData.int)) = 1 := by
    show PyData.depthAll (ns.map PyData.int) + 1 = 1
    rw [deepInts]
  rw [h1, h2]
  rfl
theorem shapedNil : SeqAt.shaped (.list []) = true := by decide +kernel
section
variable {P : Program} {w : World} {K : PySem.W.Frag} {mg : Str → Option Value} {base : Heap}
def spPick : Sp := fun vs H Q _ => ∃ (p c : Addr) (ns : List Int) (m : Int), vs = [.ref p, .int m] ∧ 0 < m ∧ m < 1073741824 ∧ Pot p c ns H ∧ ∀ (v : Nat) H', (v : Int) < m → Keep p H H' → Pot p c ns H' → Q (.int v) H'
theorem ok_pick {f fB : Addr} {fd fdB : FuncData} {k : Nat} (F : Fun K "_law_pick" "_law_pick" sPick f fd) (FB : Fun K "_law_blend" "_law_blend" sBlend fB fdB) (bB : Binds K fdB ["cell", "at"] []) (gB : mg "_law_blend" = some (.ref fB)) (ml : mg "len" = none) :
    FnOk P w K mg base CX0 (k + 2) f fd ["pot", "many"] spPick := by
  have GB : FnOk P w K mg base CX0 (k + 1) fB fdB ["cell", "at"] spBlend := ok_blend FB
  have nd := scPick.nd
  refine F.ok scPick (fun vs H Q E h => ?_) (fun cdv A outer s H vs Q E hr h => ?_)
  · obtain ⟨p, c, ns, m, rfl, _⟩ := h
    rfl
  · obtain ⟨p, c, ns, m, rfl, m0, m1, hP, q⟩ := h
    refine ⟨_, pss_cut (ps_if (pt_cmpR op_lt (pe_ix ix_list (pv 0) pe_int (fun _ _ => rfl)) (pv 1) (nomark _))
       (pss_cons (ps_set (i := 2) nd rfl (.inl rfl) (pe_ix ix_list (pv 0) pe_int (fun _ _ => rfl)))
       (pss_cons (ps_set (i := 3) nd rfl (.inl rfl) (pe_op op_mul pe_int (pv 2)))
       (pss_cut (ps_if (pt_cmpR op_lt (pv 2) (pe_callB call_len_seq (by rfl) ml PySem.boot_len (pa_cons (pe_ix ix_list (pv 0) pe_int (fun _ _ => rfl)) pa_nil)) (nomark _))
            (pss_one (ps_set (i := 3) nd rfl (.inl rfl) (pe_ix ix_list (pe_ix ix_list (pv 0) pe_int (fun _ _ => rfl)) (pv 2) (fun _ _ => rfl))))
            (pss_one (ps_if (pt_cmpR (op_neD hr.units) (pe_ix ix_list (pv 0) pe_int (fun _ _ => rfl)) (pe_lst pa_nil) (nomark _))
              (pss_one (ps_set (i := 3) nd rfl (.inl rfl) (pe_op op_mod (pe_ix ix_list (pe_ix ix_list (pv 0) pe_int (fun _ _ => rfl)) (pe_op op_mod (pe_op op_add (pe_op op_mul (pv 2) pe_int) pe_int) (pe_callB call_len_seq (by rfl) ml PySem.boot_len (pa_cons (pe_ix ix_list (pv 0) pe_int (fun _ _ => rfl)) pa_nil))) (fun _ _ => rfl)) (pe_op op_add (pe_op op_pow pe_int pe_int) (pe_op op_mul pe_int (pv 2)))))) pss_nil)))
       (pss_cons (ps_asg (pe_op op_add (pv 2) pe_int) (pg_sub (pv 0) pe_int set_list))
       (pss_one (ps_asg (pe_call GB hr (by rfl) gB FB.kp bB .nil pass0 (pa_cons (pv 3) (pa_cons (pv 2) pa_nil))) (pg_sub (pv 0) pe_int set_list)))))))
       pss_nil)
      (pss_cons (ps_set (i := 4) nd rfl (.inl rfl) (pe_op op_mod (pe_ix ix_list (pv 0) pe_int (fun _ _ => rfl)) (pv 1)))
      (pss_cons (ps_asg (pe_op op_fdiv (pe_ix ix_list (pv 0) pe_int (fun _ _ => rfl)) (pv 1)) (pg_sub (pv 0) pe_int set_list))
      (pss_one (ps_ret (pv 4))))), ?_⟩
    have hne := hP.ne
    obtain ⟨a, r, a0, hp, hc⟩ := hP
    refine ⟨fun σ' H' => (∃ y2 y3, σ' = [some (.ref p), some (.int m), y2, y3, none]) ∧ Keep p H H' ∧ Pot p c ns H', ?_, ?_⟩
    · refine ⟨_, rfl, p, _, 2, .int r, rfl, rfl, sq_of hp, rfl, _, rfl, _, _, rfl, rfl, _, rfl, ite2 (fun e => ?_) (fun e => ?_)⟩
      · refine ⟨_, rfl, p, _, 1, .int a, rfl, rfl, sq_of hp, rfl, ?_⟩
        refine ⟨_, rfl, _, _, rfl, rfl, .inl ⟨by decide, by decide⟩, ?_⟩
        refine ⟨fun σ' H' => ∃ y3 : Int, σ' = [some (.ref p), some (.int m), some (.int a), some (.int y3), none] ∧ Ex H H', ?_, ?_⟩
        · refine ⟨_, rfl, _, rfl, p, _, 0, .ref c, rfl, rfl, sq_of hp, rfl, c, _, rfl, .inl (sq_of hc), _, _, rfl, rfl, _, rfl, ite2 (fun e => ?_) (fun e => ?_)⟩
          · have ha : a < (ns.map V.int).length := of_decide_eq_true e
            have hb : a.toNat < ns.length := by
              rw [List.length_map] at ha
              omega
            refine ⟨_, rfl, p, _, 0, .ref c, rfl, rfl, sq_of hp, rfl, _, rfl, c, _, a, .int ns[a.toNat], rfl, rfl, sq_of hc, at_of (j := a.toNat) (by omega) ?_, _, rfl, Ex.refl _⟩
            rw [List.getElem?_map, List.getElem?_eq_getElem hb]
            rfl
          · refine ⟨_, rfl, p, _, 0, .ref c, rfl, rfl, sq_of hp, rfl, Nat.zero_le _, fun u hu => ?_⟩
            have e1 : Ex H (upd H u (.lst [])) := Ex.new hu
            refine ⟨.list (ns.map PyData.int), .list [], .lst (sq_of (e1 _ _ hc)) (dpInts ns), .lst (sq_of upd_same) .nil, shapedInts ns, shapedNil, _, rfl, ite2 (fun e => ?_) (fun e => ?_)⟩
            · have h0 : 0 < ns.length := by
                cases ns with
                | nil => exact absurd e (by decide)
                | cons x t => exact Nat.succ_pos _
              have hl : (0 : Int) < ((ns.map V.int).length : Int) := by
                rw [List.length_map]
                omega
              have g0 := Int.emod_nonneg (a * 7 + 1) (show ((ns.map V.int).length : Int) ≠ 0 by omega)
              have g1 := Int.emod_lt_of_pos (a * 7 + 1) hl
              have hb : ((a * 7 + 1) % ((ns.map V.int).length : Int)).toNat < ns.length := by
                rw [List.length_map] at g0 g1 ⊢
                omega
              refine ⟨_, rfl, p, _, 0, .ref c, rfl, rfl, sq_of (e1 _ _ hp), rfl, _, rfl, _, _, rfl, rfl, .inr ⟨by decide, by decide⟩, _, _, rfl, rfl, _, rfl, p, _, 0, .ref c, rfl, rfl, sq_of (e1 _ _ hp), rfl, c, _, rfl, .inl (sq_of (e1 _ _ hc)), _, _, rfl, rfl, hl, c, _, _, .int ns[((a * 7 + 1) % ((ns.map V.int).length : Int)).toNat], rfl, rfl, sq_of (e1 _ _ hc), at_of (j := ((a * 7 + 1) % ((ns.map V.int).length : Int)).toNat) (by omega) ?_, _, _, rfl, rfl, ⟨by decide, by decide, by decide⟩, _, rfl, _, _, rfl, rfl, .inl ⟨by decide, by decide⟩, _, _, rfl, rfl, _, _, rfl, rfl, ?_, _, rfl, e1⟩
              · rw [List.getElem?_map, List.getElem?_eq_getElem hb]
                rfl
              · show (0 : Int) < 10 ^ (17 : Int).toNat + 3 * a
                have : (10 : Int) ^ (17 : Int).toNat = 100000000000000000 := by decide
                omega
            · exact ⟨_, rfl, e1⟩
        · rintro σ' H' ⟨y3, rfl, e1⟩
          refine ⟨_, rfl, _, _, rfl, rfl, _, rfl, p, _, 1, 1, rfl, rfl, e1 _ _ hp, rfl, ?_⟩
          refine ⟨_, rfl, _, rfl, _, _, rfl, fun v => ⟨_, rfl, p, _, 2, 2, rfl, rfl, upd_same, rfl, ⟨_, _, rfl⟩, ?_, a + 1, v, by omega, upd_same, ?_⟩⟩
          · exact ((Keep.ofEx e1).at).at
          · rw [upd_ne hne, upd_ne hne]
            exact e1 _ _ hc
      · exact ⟨⟨_, _, rfl⟩, Keep.refl _ _, a, r, a0, hp, hc⟩
    · rintro σ' H' ⟨⟨y2, y3, rfl⟩, kp, a', r', a0', hp', hc'⟩
      have g0 := Int.emod_nonneg r' (show m ≠ 0 by omega)
      have g1 := Int.emod_lt_of_pos r' m0
      refine ⟨_, rfl, p, _, 2, .int r', rfl, rfl, sq_of hp', rfl, _, rfl, _, _, rfl, rfl, m0, ?_⟩
      refine ⟨_, rfl, p, _, 2, .int r', rfl, rfl, sq_of hp', rfl, _, rfl, _, _, rfl, rfl, ⟨m0, m1⟩, _, rfl, p, _, 2, 2, rfl, rfl, hp', rfl, ?_⟩
      refine ⟨_, rfl, ?_⟩
      have e : r' % m = ((r' % m).toNat : Int) := by omega
      show Q (.int (r' % m)) _
      rw [e]
      refine q _ _ (by omega) kp.at ⟨a', r' / m, a0', upd_same, ?_⟩
      rw [upd_ne hne]
      exact hc'
end
end Eh
set_option Elab.async false
set_option linter.all false
set_option maxRecDepth 100000
set_option maxHeartbeats 4000000
namespace Eh
open PySem PySem.Spec PyProof.Rows L2 Evl
/-- for i, x in enumerate(list) -/
theorem for_enum {K : PySem.W.Frag} {a : Addr} {xs : List V} {tb : TS} {D : Ends} {σ : L2.St} {H : Hp} {i1 i2 : Nat} (Pv : Nat → L2.St → Hp → Prop) (h0 : Pv 0 σ H) (hl : ∀ i σ H, i ≤ xs.length → Pv i σ H → SqL K H a xs)
    (hs : ∀ i x σ H T, xs[i]? = some x → Pv i σ H → H T = none → tb { D with nx := Pv (i + 1), ct := Pv (i + 1), bk := D.nx } ((σ.set i1 (some (.int (i : Nat)))).set i2 (some x)) (upd H T (.tup [.int (i : Nat), x])))
    (hd : ∀ σ H, Pv xs.length σ H → D.nx σ H) :
    ∃ W : Nat → Nat → L2.St → Hp → Prop, (∃ m, W 0 m σ H) ∧ ∀ i m σ H, W i m σ H →
      ((Ite K a).stop i H ∧ D.nx σ H) ∨ ((Ite K a).go i H ∧ ∃ N : L2.St → Hp → Prop, (∀ σ' H', N σ' H' → ∃ m', m' < m ∧ W (i + 1) m' σ' H') ∧ ∀ x H', (Ite K a).yld i H x H' → gTup K 2 (gCons (gName i1) (gCons (gName i2) gNil)) x σ H' fun σ2 H2 => tb { D with nx := N, ct := N, bk := D.nx } σ2 H2) := by
  refine ⟨fun i m σ H => m = xs.length - i ∧ i ≤ xs.length ∧ Pv i σ H, ⟨xs.length, by omega, Nat.zero_le _, h0⟩, ?_⟩
  rintro i m σ H ⟨rfl, hi, p⟩
  have q := hl i σ H hi p
  by_cases hlt : i < xs.length
  · refine .inr ⟨⟨xs, xs[i], q, List.getElem?_eq_getElem hlt⟩, Pv (i + 1), fun σ' H' p' => ⟨xs.length - (i + 1), by omega, rfl, hlt, p'⟩, fun v H' y => ?_⟩
    obtain ⟨T, x, rfl, nT, rfl, f⟩ := y
    exact ⟨T, [.int (i : Nat), x], rfl, st_of upd_same, rfl, _, _, rfl, _, _, rfl, rfl, hs i x σ H T (f xs q) p nT⟩
  · have e : i = xs.length := by omega
    subst e
    exact .inl ⟨⟨xs, q, Nat.le_refl _⟩, hd σ H p⟩
theorem cut0 (xs : List V) (n : Nat) : cutV xs none (some (n : Int)) = xs.take n := by
  unfold cutV
  rw [HT.sIx_none, HT.sIx_nat, List.drop_zero, Nat.sub_zero]
  rw [List.take_eq_take_iff]
  omega
theorem cutF (xs : List V) (n : Nat) : cutV xs (some (n : Int)) none = xs.drop n := by
  unfold cutV
  rw [HT.sIx_none, HT.sIx_nat]
  by_cases h : n ≤ xs.length
  · rw [Nat.min_eq_left h]
    exact List.take_of_length_le (by rw [List.length_drop]; exact Nat.le_refl _)
  · rw [Nat.min_eq_right (by omega), List.drop_of_length_le (Nat.le_refl _), List.drop_of_length_le (by omega)]
    exact List.take_nil
theorem cutLH (xs : List V) (n m : Nat) : cutV xs (some (n : Int)) (some (m : Int)) = (xs.take m).drop n := by
  unfold cutV
  rw [HT.sIx_nat, HT.sIx_nat, List.drop_take]
  by_cases h : n ≤ xs.length
  · rw [Nat.min_eq_left h, List.take_eq_take_iff, List.length_drop]
    omega
  · rw [Nat.min_eq_right (show xs.length ≤ n by omega), List.drop_of_length_le (Nat.le_refl _), List.drop_of_length_le (show xs.length ≤ n by omega), List.take_nil, List.take_nil]
section
variable {P : Program} {w : World} {K : PySem.W.Frag} {mg : Str → Option Value} {base : Heap}
def spPot (K : PySem.W.Frag) : Sp := fun vs H Q _ => ∃ (a : Addr) (ns : List Int), vs = [.ref a] ∧ SqL K H a (ns.map V.int) ∧ ns.length ≤ 63 ∧ ∀ (p c : Addr) (ms : List Int) H', Ex H H' → Pot p c ms H' → H p = none → H c = none → Q (.ref p) H'
theorem ok_pot {f : Addr} {fd : FuncData} {k : Nat} (F : Fun K "_law_pot" "_law_pot" sPot f fd) (ml : mg "list" = none) (me : mg "enumerate" = none) :
    FnOk P w K mg base CX0 (k + 1) f fd ["script"] (spPot K) := by
  have nd := scPot.nd
  refine F.ok scPot (fun vs H Q E h => ?_) (fun cdv A outer s H vs Q E hr h => ?_)
  · obtain ⟨a, ns, rfl, _⟩ := h
    rfl
  · obtain ⟨a, ns, rfl, hS, hl, q⟩ := h
    refine ⟨_, pss_cons (ps_set (i := 1) nd rfl (.inl rfl) (pe_callTy call_list_of (by rfl) ml (by decide +kernel) (pa_cons (pe_slice sl_list (pv 0) po_none (po_some pe_int)) pa_nil)))
      (pss_cons (ps_for PassesOwn.never rfl (pi_enum (by rfl) me (pa_cons (pe_slice sl_list (pv 0) (po_some pe_int) (po_some pe_int)) pa_nil)) (pg_tup rfl (pgs_cons (pg_name (i := 2) nd rfl (.inl rfl)) (pgs_cons (pg_name (i := 3) nd rfl (.inl rfl)) pgs_nil)))
         (pss_one (ps_asg (pe_op op_add (pe_ix ix_list (pv 1) (pe_op op_mod (pv 2) pe_int) (fun _ _ => rfl)) (pv 3)) (pg_sub (pv 1) (pe_op op_mod (pv 2) pe_int) set_list))))
      (pss_one (ps_ret (pe_lst (pa_cons (pv 1) (pa_cons pe_int (pa_cons pe_int pa_nil))))))), ?_⟩
    refine ⟨_, rfl, 12, rfl, a, _, rfl, hS, fun u hu => ⟨u, _, rfl, .inl (sq_of upd_same), fun c hc => ?_⟩⟩
    have hcu : c ≠ u := fun e => by
      rw [e, upd_same] at hc
      cases hc
    have hcH : H c = none := by rw [← hc, upd_ne hcu]
    have e1 : Ex H (upd (upd H u (.lst (cutV (ns.map V.int) none (some 12)))) c (.lst (cutV (ns.map V.int) none (some 12)))) := (Ex.new hu).trans (Ex.new hc)
    have ec : cutV (ns.map V.int) none (some 12) = (ns.take 12).map V.int := by
      rw [show (some 12 : Option Int) = some ((12 : Nat) : Int) from rfl, cut0, List.map_take]
    rw [ec] at e1
    rw [ec]
    generalize hH1 : upd (upd H u (.lst ((ns.take 12).map V.int))) c (.lst ((ns.take 12).map V.int)) = H1 at e1 ⊢
    have hc1 : H1 c = some (.lst ((ns.take 12).map V.int)) := by
      rw [← hH1]
      exact upd_same
    refine ⟨_, rfl, 12, rfl, 63, rfl, a, _, rfl, ex_l e1 hS, fun l nl => ?_⟩
    have es : cutV (ns.map V.int) (some 12) (some 63) = ((ns.take 63).drop 12).map V.int := by
      rw [show (some 12 : Option Int) = some ((12 : Nat) : Int) from rfl, show (some 63 : Option Int) = some ((63 : Nat) : Int) from rfl, cutLH, List.map_drop, List.map_take]
    rw [es]
    have nlc : l ≠ c := fun e => by
      rw [e, hc1] at nl
      cases nl
    refine ⟨l, _, rfl, sq_of upd_same, for_enum (xs := ((ns.take 63).drop 12).map V.int) (fun i σ H' => (∃ y2 y3, σ = [some (.ref a), some (.ref c), y2, y3]) ∧ Ex H H' ∧ H' l = some (.lst (((ns.take 63).drop 12).map V.int)) ∧ ∃ ms : List Int, ms.length = min 12 ns.length ∧ H' c = some (.lst (ms.map V.int))) ?_ ?_ ?_ ?_⟩
    · refine ⟨⟨_, _, rfl⟩, e1.trans (Ex.new nl), upd_same, ns.take 12, ?_, ?_⟩
      · rw [List.length_take]
      · rw [upd_ne nlc.symm]
        exact hc1
    · rintro i σ H' _ ⟨_, _, h, _⟩
      exact sq_of h
    · rintro i x σ H' T hx ⟨⟨y2, y3, rfl⟩, eH, hl', ms, hms, hc'⟩ nT
      have ex : ∃ z : Int, x = .int z := by
        rw [List.getElem?_map] at hx
        obtain ⟨z, _, e⟩ := Option.map_eq_some_iff.mp hx
        exact ⟨z, e.symm⟩
      obtain ⟨z, rfl⟩ := ex
      have hi : 12 < ns.length := by
        have := (List.getElem?_eq_some_iff.mp hx).1
        rw [List.length_map, List.length_drop, List.length_take] at this
        omega
      have g0 : ((i : Int) % 12) = ((i % 12 : Nat) : Int) := by omega
      have hj : i % 12 < ms.length := by
        rw [hms]
        have := Nat.mod_lt i (show 0 < 12 by decide)
        omega
      have eT : Ex H' (upd H' T (.tup [.int (i : Nat), .int z])) := Ex.new nT
      have ix : (ms.map V.int)[i % 12]? = some (.int ms[i % 12]) := by
        rw [List.getElem?_map, List.getElem?_eq_getElem hj]
        rfl
      refine ⟨_, rfl, _, rfl, _, _, rfl, rfl, (by show (0 : Int) < _; decide), c, _, _, _, rfl, rfl, sq_of (eT _ _ hc'), at_of (j := i % 12) g0 ix, _, rfl, _, _, rfl, rfl, _, rfl, _, rfl, _, _, rfl, rfl, (by show (0 : Int) < _; decide), c, _, _, i % 12, rfl, rfl, eT _ _ hc', ?_, ⟨_, _, rfl⟩, ?_, ?_, ms.set (i % 12) (ms[i % 12] + z), ?_, ?_⟩
      · show ixN _ ((i : Int) % 12) = _
        rw [g0]
        exact ixN_nat (by rw [List.length_map]; exact hj)
      · exact Ex.mut (eH.trans eT) hcH
      · rw [upd_ne nlc]
        exact eT _ _ hl'
      · rw [List.length_set]
        exact hms
      · rw [upd_same, List.map_set]
    · rintro σ H' ⟨⟨y2, y3, rfl⟩, eH, hl', ms, hms, hc'⟩
      refine ⟨_, rfl, (by show 3 ≤ sizeLine; decide), fun p np => q p c ms _ (eH.trans (Ex.new np)) ⟨0, 0, by decide, upd_same, ?_⟩ (fresh_back eH np) hcH⟩
      have : c ≠ p := fun e => by
        rw [← e, hc'] at np
        cases np
      rw [upd_ne this]
      exact hc'
end
end Eh
set_option Elab.async false
set_option linter.all false
set_option maxRecDepth 100000
set_option maxHeartbeats 4000000
namespace Eh
open PySem PySem.Spec PyProof.Rows L2 Evl TL
/-! texts as lists of codes -/
abbrev cs (w : Str) : List Nat := w.cps.toList
theorem cs_ext {x y : Str} (h : cs x = cs y) : x = y := by
  cases x with | mk a => cases y with | mk b =>
  have : a = b := by
    apply Array.ext'
    exact h
  rw [this]
def az (c : Nat) : Prop := 97 ≤ c ∧ c < 123
/-- what is drawn as a letter -/
def Ltr (w : Str) : Prop := (∀ c ∈ cs w, az c) ∧ 1 ≤ (cs w).length ∧ (cs w).length ≤ 8
def spotAt (spot n : Nat) : Nat := if spot = 0 then 0 else if spot = 1 then n else n / 2
def mkL (rest : List Nat) (spot turn size k : Nat) : List Nat :=
  (rest.take ((size + k * (spot % 2)) % 8)).take (spotAt spot (rest.take ((size + k * (spot % 2)) % 8)).length) ++ ([97 + (turn + 5 * k) % 26] ++ (rest.take ((size + k * (spot % 2)) % 8)).drop (spotAt spot (rest.take ((size + k * (spot % 2)) % 8)).length))
theorem mkL_inj {rest : List Nat} {spot turn size k1 k2 : Nat} (hs : spot < 3) (h1 : k1 < 26) (h2 : k2 < 26) (h : mkL rest spot turn size k1 = mkL rest spot turn size k2) : k1 = k2 := by
  have key : 97 + (turn + 5 * k1) % 26 = 97 + (turn + 5 * k2) % 26 → k1 = k2 := fun e => by omega
  apply key
  unfold mkL at h
  have cases3 : spot = 0 ∨ spot = 1 ∨ spot = 2 := by omega
  rcases cases3 with rfl | rfl | rfl
  · simp only [spotAt, if_true, List.take_zero, List.nil_append, List.cons_append] at h
    exact (List.cons.inj h).1
  · have n1 : ∀ l : List Nat, spotAt 1 l.length = l.length := fun l => rfl
    rw [n1, n1, List.take_length, List.take_length, List.drop_length, List.drop_length, List.append_nil, List.append_nil] at h
    exact (List.cons.inj (List.append_inj' h rfl).2).1
  · rw [show k1 * (2 % 2) = 0 from Nat.mul_zero _, show k2 * (2 % 2) = 0 from Nat.mul_zero _] at h
    have := List.append_cancel_left h
    exact (List.cons.inj this).1
theorem mkL_len {rest : List Nat} {spot turn size k : Nat} : (mkL rest spot turn size k).length = (rest.take ((size + k * (spot % 2)) % 8)).length + 1 := by
  unfold mkL
  generalize rest.take ((size + k * (spot % 2)) % 8) = l
  rw [List.length_append, List.length_append, List.length_take, List.length_drop, List.length_singleton]
  omega
theorem mkL_az {rest : List Nat} {spot turn size k : Nat} (h : ∀ c ∈ rest, az c) : ∀ c ∈ mkL rest spot turn size k, az c := by
  intro c hc
  unfold mkL at hc
  rcases List.mem_append.mp hc with q | q
  · exact h c (List.mem_of_mem_take (List.mem_of_mem_take q))
  · rcases List.mem_append.mp q with q | q
    · rw [List.mem_singleton.mp q]
      unfold az
      omega
    · exact h c (List.mem_of_mem_take (List.mem_of_mem_drop q))
def mkS (rest : List Nat) (spot turn size k : Nat) : Str := ⟨(mkL rest spot turn size k).toArray⟩
theorem cs_mkS {rest : List Nat} {spot turn size k : Nat} : cs (mkS rest spot turn size k) = mkL rest spot turn size k := rfl
def mkAll (rest : List Nat) (spot turn size n : Nat) : List Str := (List.range n).map (mkS rest spot turn size)
theorem mkAll_nodup {rest : List Nat} {spot turn size n : Nat} (hs : spot < 3) (hn : n ≤ 26) : (mkAll rest spot turn size n).Nodup := by
  unfold mkAll
  rw [List.Nodup, List.pairwise_map]
  refine List.Pairwise.imp_of_mem (fun {a b} ha hb hab e => hab ?_) (List.nodup_range (n := n))
  have ha' := List.mem_range.mp ha
  have hb' := List.mem_range.mp hb
  exact mkL_inj hs (by omega) (by omega) (by
    have := congrArg cs e
    exact this)
theorem mkAll_ltr {rest : List Nat} {spot turn size n : Nat} (h : ∀ c ∈ rest, az c) : ∀ w ∈ mkAll rest spot turn size n, Ltr w := by
  intro w hw
  obtain ⟨k, _, rfl⟩ := List.mem_map.mp hw
  refine ⟨fun c hc => mkL_az h c hc, ?_, ?_⟩
  · rw [cs_mkS, mkL_len]
    omega
  · rw [cs_mkS, mkL_len, List.length_take]
    omega
theorem joinL_nil : ∀ ls : List (List Nat), joinL [] ls = ls.flatten
  | [] => rfl
  | [p] => by simp [joinL]
  | p :: q :: r => by
    show p ++ ([] ++ joinL [] (q :: r)) = (p :: q :: r).flatten
    rw [joinL_nil (q :: r), List.nil_append]
    rfl
theorem flat_one : ∀ ds : List Nat, (ds.map fun c => [c]).flatten = ds
  | [] => rfl
  | d :: r => by
    show [d] ++ (r.map fun c => [c]).flatten = d :: r
    rw [flat_one r]
    rfl
theorem cs_join (ds : List Nat) : cs (Txt.join (Str.ofString "") (ds.map fun c => (⟨#[c]⟩ : Str))) = ds := by
  have h := tl_join (Str.ofString "") (ds.map fun c => (⟨#[c]⟩ : Str))
  rw [← join_eq, show tl (Str.ofString "") = [] from rfl, joinL_nil, List.map_map] at h
  exact h.trans (flat_one ds)
abbrev alpha : Str := Str.ofString "abcdefghijklmnopqrstuvwxyz"
theorem cs_alpha : cs alpha = (List.range 26).map (97 + ·) := by decide +kernel
theorem alpha_at {v : Nat} (h : v < 26) : atI (cs alpha) (v : Int) = some (97 + v) := by
  refine atI_nat ?_
  rw [cs_alpha, List.getElem?_map, List.getElem?_range h]
  rfl
theorem cs_app (x y : Str) : cs (x ++ y) = cs x ++ cs y := tl_append x y
theorem len_cs (x : Str) : x.length = (cs x).length := by simp [Str.length]
theorem cs_cut0 (x : Str) (n : Nat) : cs (cutS x none (some (n : Int))) = (cs x).take n := by
  unfold cutS
  rw [HT.sIx_none, HT.sIx_nat]
  show ((cs x).drop 0).take _ = _
  rw [List.drop_zero, Nat.sub_zero, List.take_eq_take_iff, len_cs]
  omega
theorem cs_cutF (x : Str) (n : Nat) : cs (cutS x (some (n : Int)) none) = (cs x).drop n := by
  unfold cutS
  rw [HT.sIx_none, HT.sIx_nat, len_cs]
  show ((cs x).drop _).take _ = _
  by_cases h : n ≤ (cs x).length
  · rw [Nat.min_eq_left h]
    exact List.take_of_length_le (by rw [List.length_drop]; exact Nat.le_refl _)
  · rw [Nat.min_eq_right (show (cs x).length ≤ n by omega), List.drop_of_length_le (Nat.le_refl _), List.drop_of_length_le (show (cs x).length ≤ n by omega), List.take_nil]
end Eh
set_option Elab.async false
set_option linter.all false
set_option maxRecDepth 100000
set_option maxHeartbeats 4000000
namespace Eh
open PySem PySem.Spec PyProof.Rows L2 Evl
abbrev lS (ws : List Str) : HO := .lst (ws.map V.str)
abbrev nLetters : List Str := ["pot", "many", "small", "k", "rest", "spot", "turn", "size", "found", "part", "at"]
theorem yesT {σ : L2.St} {H : Hp} {A B : Hp → Prop} (h : A H) : tYes σ H (fun b H3 => if b = true then A H3 else B H3) := by
  show if true = true then A H else B H
  exact iteT h
theorem Pot.ne_new {p c q : Addr} {ns : List Int} {H : Hp} (h : Pot p c ns H) (hq : H q = none) : p ≠ q ∧ c ≠ q := by
  obtain ⟨a, r, h0, h1, h2⟩ := h
  exact ⟨ne_of_none h1 hq, ne_of_none h2 hq⟩
section
variable {P : Program} {w : World} {K : PySem.W.Frag} {mg : Str → Option Value} {base : Heap}
def spLetters : Sp := fun vs H Q _ => ∃ (p c : Addr) (ns : List Int) (m : Nat), vs = [.ref p, .int (m : Int)] ∧ m ≤ 26 ∧ Pot p c ns H ∧
  ∀ (ws : List Str) l H', ws.length = m → ws.Nodup → (∀ x ∈ ws, Ltr x) → Keep p H H' → Pot p c ns H' → H l = none → H' l = some (lS ws) → Q (.ref l) H'
theorem ok_letters {f fP : Addr} {fd fdP : FuncData} {k : Nat} (F : Fun K "_law_letters" "_law_letters" sLetters f fd) (FP : Fun K "_law_pick" "_law_pick" sPick fP fdP) (GP : FnOk P w K mg base CX0 (k + 1) fP fdP ["pot", "many"] spPick) (bP : Binds K fdP ["pot", "many"] []) (gP : mg "_law_pick" = some (.ref fP)) (ml : mg "len" = none) (mr : mg "range" = none) :
    FnOk P w K mg base CX0 (k + 2) f fd ["pot", "many"] spLetters := by
  have nd := scLetters.nd
  refine F.ok scLetters (fun vs H Q E h => ?_) (fun cdv A outer s H vs Q E hr h => ?_)
  · obtain ⟨p, c, ns, m, rfl, _⟩ := h
    rfl
  · obtain ⟨p, c, ns, m, rfl, m1, hP, q⟩ := h
    refine ⟨_, pss_cons (ps_set (i := 2) nd rfl (.inr rfl) pe_str)
      (pss_cons (ps_set (i := 4) nd rfl (.inl rfl) (pe_join pe_str (pe_lc (own := [("k", 3)]) (g := gName 3) (tt := tYes) (by rfl) nd (pi_range1 (by rfl) mr (pa_cons pe_int pa_nil)) (blkOk_by (own := [("k", 3)]) (N := nLetters) (sc := defScope sLetters) (by decide +kernel)) (fun _ _ _ _ _ => pg_name (i := 3) nd rfl (Or.inl rfl)) (fun _ _ _ _ _ => pts_nil)
          (fun _ _ _ _ _ => pe_ix ix_str (pv 2) (pe_call GP hr (by rfl) gP FP.kp bP .nil pass0 (pa_cons (pv 0) (pa_cons pe_int pa_nil))) (fun _ _ => rfl)))))
      (pss_cons (ps_set (i := 5) nd rfl (.inl rfl) (pe_call GP hr (by rfl) gP FP.kp bP .nil pass0 (pa_cons (pv 0) (pa_cons pe_int pa_nil))))
      (pss_cons (ps_set (i := 6) nd rfl (.inl rfl) (pe_call GP hr (by rfl) gP FP.kp bP .nil pass0 (pa_cons (pv 0) (pa_cons pe_int pa_nil))))
      (pss_cons (ps_set (i := 7) nd rfl (.inl rfl) (pe_call GP hr (by rfl) gP FP.kp bP .nil pass0 (pa_cons (pv 0) (pa_cons pe_int pa_nil))))
      (pss_cons (ps_set (i := 8) nd rfl (.inl rfl) (pe_lst pa_nil))
      (pss_cons (ps_for PassesOwn.never rfl (pi_range1 (by rfl) mr (pa_cons (pv 1) pa_nil)) (pg_name (i := 3) nd rfl (.inl rfl))
        (pss_cons (ps_set (i := 9) nd rfl (.inl rfl) (pe_slice sl_str (pv 4) po_none (po_some (pe_op op_mod (pe_op op_add (pv 7) (pe_op op_mul (pv 3) (pe_op op_mod (pv 5) pe_int))) pe_int))))
        (pss_cons (ps_set (i := 10) nd rfl (.inl rfl) (pe_ix ix_list (pe_lst (pa_cons pe_int (pa_cons (pe_callB call_len_str (by rfl) ml PySem.boot_len (pa_cons (pv 9) pa_nil)) (pa_cons (pe_op op_fdiv (pe_callB call_len_str (by rfl) ml PySem.boot_len (pa_cons (pv 9) pa_nil)) pe_int) pa_nil)))) (pv 5) (fun _ _ => rfl)))
        (pss_one (ps_expr (pe_bm PySem.F.plainAttrs_list PySem.F.slot_list_append PySem.F.type_list_append mt_append (pv 8) (pa_cons (pe_op op_add_str (pe_op op_add_str (pe_slice sl_str (pv 9) po_none (po_some (pv 10))) (pe_ix ix_str (pv 2) (pe_op op_mod (pe_op op_add (pv 6) (pe_op op_mul pe_int (pv 3))) pe_int) (fun _ _ => rfl))) (pe_slice sl_str (pv 9) (po_some (pv 10)) po_none)) pa_nil)))))))
      (pss_one (ps_ret (pv 8))))))))), ?_⟩
    -- rest
    refine ⟨⟨_, rfl⟩, 7, rfl, by decide, by decide, fun D nD => ?_⟩
    refine lc_range (lo := 0) (n := 7) (fun i H' => ∃ ds : List Nat, ds.length = i ∧ (∀ d ∈ ds, az d) ∧ H' D = some (.lst (ds.map fun d => .str ⟨#[d]⟩)) ∧ Keep p H H' ∧ Pot p c ns H') ?_ ?_ ?_
    · exact ⟨[], rfl, fun d hd => (List.not_mem_nil hd).elim, upd_same, (Keep.refl p H).new nD, hP.new (hP.ne_new nD).1 (hP.ne_new nD).2⟩
    · rintro i H' hi ⟨ds, hds, haz, hD, kp, hP'⟩
      refine ⟨rfl, ?_⟩
      refine yesT ?_
      refine ⟨_, rfl, _, rfl, p, c, ns, 26, rfl, by decide, by decide, hP', fun v H2 hv kp2 hP2 => ?_⟩
      have hv' : v < 26 := by omega
      have hpD := (hP.ne_new nD).1
      have hD2 : H2 D = some (.lst (ds.map fun d => .str ⟨#[d]⟩)) := kp2 _ _ hpD.symm hD
      refine ⟨_, _, 97 + v, rfl, rfl, by decide, alpha_at hv', _, hD2, ?_, ds ++ [97 + v], ?_, ?_, ?_, ?_, ?_⟩
      · rw [List.length_map]
        exact sz_lt (by omega)
      · rw [List.length_append, hds]
        rfl
      · intro d hd
        rcases List.mem_append.mp hd with z | z
        · exact haz d z
        · rw [List.mem_singleton.mp z]
          unfold az
          omega
      · rw [upd_same, List.map_append]
        rfl
      · exact (kp.trans kp2).new nD
      · exact hP2.new hpD (hP.ne_new nD).2
    · rintro H1 ⟨ds, hds, haz, hD, kp, hP1⟩
      have hlen : ((ds.map fun d => (⟨#[d]⟩ : Str)).map (·.length)).sum ≤ 100 := by
        have : ∀ l : List Nat, ((l.map fun d => (⟨#[d]⟩ : Str)).map (·.length)).sum = l.length := fun l => by
          induction l with
          | nil => rfl
          | cons x r ih =>
            rw [List.map_cons, List.map_cons, List.sum_cons, ih, List.length_cons, show (⟨#[x]⟩ : Str).length = 1 from rfl]
            omega
        rw [this]
        omega
      refine ⟨_, D, ds.map fun d => (⟨#[d]⟩ : Str), rfl, rfl, .inl (sq_of (by rw [List.map_map]; exact hD)), ?_, ?_⟩
      · rw [List.length_map, show (Str.ofString "").length = 0 from rfl]
        omega
      · generalize hR : Txt.join (Str.ofString "") (ds.map fun d => (⟨#[d]⟩ : Str)) = rest
        have cR : cs rest = ds := by
          rw [← hR]
          exact cs_join ds
        -- spot, turn, size
        refine ⟨_, rfl, p, c, ns, 3, rfl, by decide, by decide, hP1, fun spot H2 hspot kp2 hP2 => ?_⟩
        refine ⟨_, rfl, p, c, ns, 26, rfl, by decide, by decide, hP2, fun turn H3 hturn kp3 hP3 => ?_⟩
        refine ⟨_, rfl, p, c, ns, 8, rfl, by decide, by decide, hP3, fun size H4 hsize kp4 hP4 => ?_⟩
        have kp04 : Keep p H H4 := ((kp.trans kp2).trans kp3).trans kp4
        refine ⟨Nat.zero_le _, fun l nl => ?_⟩
        have hpl := hP4.ne_new nl
        have nlH : H l = none := by
          cases e : H l with
          | none => rfl
          | some o =>
            by_cases z : l = p
            · exact absurd z.symm hpl.1
            · rw [kp04 l o z e] at nl
              cases nl
        refine ⟨_, rfl, m, rfl, by omega, by omega, for_range (lo := 0) (n := ((m : Int)).toNat) (fun i σ H' => (∃ y3 y9 y10, σ = [some (.ref p), some (.int (m : Int)), some (.str alpha), y3, some (.str rest), some (.int (spot : Int)), some (.int (turn : Int)), some (.int (size : Int)), some (.ref l), y9, y10]) ∧ Keep p H H' ∧ Pot p c ns H' ∧ H' l = some (lS (mkAll (cs rest) spot turn size i))) ?_ ?_ ?_⟩
        · exact ⟨⟨_, _, _, rfl⟩, kp04.new nlH, hP4.new hpl.1 hpl.2, upd_same⟩
        · rintro i σ H' hi ⟨⟨y3, y9, y10, rfl⟩, kp', hP', hl'⟩
          have hi' : i < m := by omega
          have e0 : (0 : Int) + (i : Int) = (i : Int) := Int.zero_add _
          rw [e0]
          have e1 : ((size : Int) + (i : Int) * ((spot : Int) % 2)) % 8 = (((size + i * (spot % 2)) % 8 : Nat) : Int) := by
            rw [show ((spot : Int) % 2) = ((spot % 2 : Nat) : Int) by omega, ← Int.natCast_mul]
            generalize i * (spot % 2) = z
            omega
          have lenR : rest.length ≤ sizeLine := sz_of (by rw [len_cs, cR]; omega)
          refine ⟨_, rfl, _, rfl, _, rfl, _, rfl, _, _, rfl, rfl, (by show (0 : Int) < _; decide), _, _, rfl, rfl, .inr (by rcases (show spot % 2 = 0 ∨ spot % 2 = 1 by omega) with z | z <;> exact ⟨by show -(2 ^ 64) < (spot : Int) % 2; omega, by show (spot : Int) % 2 < 2 ^ 64; omega⟩), _, _, rfl, rfl, _, _, rfl, rfl, (by show (0 : Int) < _; decide), _, rfl, rest, rfl, lenR, ?_⟩
          show tSeq _ _ _ [some (.ref p), some (.int (m : Int)), some (.str alpha), some (.int (i : Int)), some (.str rest), some (.int (spot : Int)), some (.int (turn : Int)), some (.int (size : Int)), some (.ref l), some (.str (cutS rest none (some (((size : Int) + (i : Int) * ((spot : Int) % 2)) % 8)))), y10] H'
          rw [e1]
          have cP := cs_cut0 rest ((size + i * (spot % 2)) % 8)
          generalize cutS rest none (some (((size + i * (spot % 2)) % 8 : Nat) : Int)) = part at cP
          have lp : part.length ≤ 8 := by
            rw [len_cs, cP, List.length_take, cR]
            omega
          have lpS : part.length ≤ sizeLine := sz_of (by omega)
          -- at
          refine ⟨_, rfl, part, rfl, lpS, _, rfl, part, rfl, lpS, _, _, rfl, rfl, ⟨by decide, by decide⟩, (by show 3 ≤ sizeLine; decide), fun t nt => ?_⟩
          have eT : Ex H' (upd H' t (.lst [.int 0, .int (part.length : Int), .int ((part.length : Int) / 2)])) := Ex.new nt
          refine ⟨_, rfl, t, _, _, .int (spotAt spot part.length : Nat), rfl, rfl, sq_of upd_same, at_of (j := spot) rfl ?_, ?_⟩
          · rcases (show spot = 0 ∨ spot = 1 ∨ spot = 2 by omega) with rfl | rfl | rfl
            · rfl
            · rfl
            · show some (V.int ((part.length : Int) / 2)) = some (V.int ((part.length / 2 : Nat) : Int))
              rw [show ((part.length / 2 : Nat) : Int) = (part.length : Int) / 2 by omega]
          -- append
          · have e2 : ((turn : Int) + 5 * (i : Int)) % 26 = (((turn + 5 * i) % 26 : Nat) : Int) := by omega
            have hlt : (turn + 5 * i) % 26 < 26 := Nat.mod_lt _ (by decide)
            have hat : atI (cs alpha) (((turn : Int) + 5 * (i : Int)) % 26) = some (97 + (turn + 5 * i) % 26) := by
              rw [e2]
              exact alpha_at hlt
            have hl2 := eT _ _ hl'
            have c1 := cs_cut0 part (spotAt spot part.length)
            have c2 := cs_cutF part (spotAt spot part.length)
            have k1 : (cutS part none (some ((spotAt spot part.length : Nat) : Int))).length ≤ 8 := by
              rw [len_cs, c1, List.length_take, ← len_cs]
              omega
            have k2 : (cutS part (some ((spotAt spot part.length : Nat) : Int)) none).length ≤ 8 := by
              rw [len_cs, c2, List.length_drop, ← len_cs]
              omega
            refine ⟨_, rfl, .inl ⟨rfl, _, sq_of hl2⟩, _, rfl, _, rfl, _, rfl, part, rfl, lpS, _, rfl, _, rfl, _, rfl, _, _, rfl, rfl, .inl ⟨by decide, by decide⟩, _, _, rfl, rfl, _, _, rfl, rfl, (by show (0 : Int) < _; decide), _, _, _, rfl, rfl, by decide, hat, _, _, rfl, rfl, ?_, _, rfl, _, rfl, _, rfl, part, rfl, lpS, _, _, rfl, rfl, ?_, l, _, _, rfl, rfl, hl2, ?_, ⟨_, _, _, rfl⟩, ?_, ?_, ?_⟩
            · exact sz_of (by
                have : (⟨#[97 + (turn + 5 * i) % 26]⟩ : Str).length = 1 := rfl
                omega)
            · exact sz_of (by
                rw [len_cs, cs_app, List.length_append, ← len_cs, ← len_cs]
                have : (⟨#[97 + (turn + 5 * i) % 26]⟩ : Str).length = 1 := rfl
                omega)
            · rw [List.length_map]
              exact sz_lt (by unfold mkAll; rw [List.length_map, List.length_range]; omega)
            · exact (kp'.trans (Keep.ofEx eT)).new nlH
            · exact (hP'.ex eT).new hpl.1 hpl.2
            · rw [upd_same]
              have e3 : cutS part none (some ((spotAt spot part.length : Nat) : Int)) ++ (⟨#[97 + (turn + 5 * i) % 26]⟩ : Str) ++ cutS part (some ((spotAt spot part.length : Nat) : Int)) none = mkS (cs rest) spot turn size i := by
                apply cs_ext
                rw [cs_app, cs_app, c1, c2, cs_mkS, len_cs, cP, List.append_assoc]
                rfl
              rw [e3]
              unfold lS mkAll
              rw [List.range_succ, List.map_append, List.map_append]
              rfl
        · rintro σ H' ⟨⟨y3, y9, y10, rfl⟩, kp', hP', hl'⟩
          refine ⟨_, rfl, q (mkAll (cs rest) spot turn size m) l H' ?_ (mkAll_nodup (by omega) m1) (mkAll_ltr (by rw [cR]; exact haz)) kp' hP' nlH ?_⟩
          · unfold mkAll
            rw [List.length_map, List.length_range]
          · rw [Int.toNat_natCast] at hl'
            exact hl'
end
end Eh
set_option Elab.async false
set_option linter.all false
set_option maxRecDepth 100000
set_option maxHeartbeats 4000000
namespace Eh
open PySem PySem.Spec PyProof.Rows L2 Evl
/-- a sheet: its opens, plains, closes -/
structure Sht (os ps qs : List Str) : Prop where
  nd : (os ++ ps ++ qs).Nodup
  lt : ∀ x ∈ os ++ ps ++ qs, Ltr x
  o1 : 1 ≤ os.length
  o4 : os.length ≤ 4
  p4 : ps.length ≤ 4
  c1 : 1 ≤ qs.length
  c4 : qs.length ≤ 4
def SheetAt (H : Hp) (s : Addr) (os ps qs : List Str) : Prop := ∃ ao ap ac, H s = some (.tup [.ref ao, .ref ap, .ref ac]) ∧ H ao = some (.tup (os.map V.str)) ∧ H ap = some (.tup (ps.map V.str)) ∧ H ac = some (.tup (qs.map V.str))
theorem Pot.ne_tup {p c a : Addr} {ns : List Int} {H : Hp} {xs : List V} (h : Pot p c ns H) (ha : H a = some (.tup xs)) : a ≠ p := fun e => by
  obtain ⟨_, _, _, h1, _⟩ := h
  rw [e, h1] at ha
  cases ha
theorem SheetAt.ex {H H' : Hp} {s : Addr} {os ps qs : List Str} (h : SheetAt H s os ps qs) (e : Ex H H') : SheetAt H' s os ps qs := by
  obtain ⟨ao, ap, ac, h0, h1, h2, h3⟩ := h
  exact ⟨ao, ap, ac, e _ _ h0, e _ _ h1, e _ _ h2, e _ _ h3⟩
theorem SheetAt.keep {H H' : Hp} {s p c : Addr} {ns : List Int} {os ps qs : List Str} (h : SheetAt H s os ps qs) (hP : Pot p c ns H) (k : Keep p H H') : SheetAt H' s os ps qs := by
  obtain ⟨ao, ap, ac, h0, h1, h2, h3⟩ := h
  exact ⟨ao, ap, ac, k _ _ (hP.ne_tup h0) h0, k _ _ (hP.ne_tup h1) h1, k _ _ (hP.ne_tup h2) h2, k _ _ (hP.ne_tup h3) h3⟩
theorem rot_nodup {L : List Str} (t : Nat) (h : L.Nodup) : (L.drop t ++ L.take t).Nodup := by
  refine (List.perm_append_comm.nodup_iff).mp ?_
  rw [List.take_append_drop]
  exact h
theorem rot_mem {L : List Str} {t : Nat} {x : Str} (h : x ∈ L.drop t ++ L.take t) : x ∈ L := by
  rcases List.mem_append.mp h with q | q
  · exact List.mem_of_mem_drop q
  · exact List.mem_of_mem_take q
theorem sub12 {L : List Str} {a b d : Nat} (ha : a ≤ 4) (hb : b ≤ 4) : ((L.take a) ++ (L.take (4 + b)).drop 4 ++ (L.take (8 + d)).drop 8).Sublist L := by
  have e : L = L.take 4 ++ (L.take 8).drop 4 ++ L.drop 8 := by
    have e1 : L.take 4 ++ (L.take 8).drop 4 = L.take 8 := by
      have := List.take_append_drop 4 (L.take 8)
      rw [List.take_take] at this
      exact this
    rw [e1, List.take_append_drop]
  have s1 : (L.take a).Sublist (L.take 4) := by
    have : L.take a = (L.take 4).take a := by rw [List.take_take, Nat.min_eq_left ha]
    rw [this]
    exact List.take_sublist _ _
  have s2 : ((L.take (4 + b)).drop 4).Sublist ((L.take 8).drop 4) := by
    refine List.Sublist.drop ?_ 4
    have : L.take (4 + b) = (L.take 8).take (4 + b) := by rw [List.take_take, Nat.min_eq_left (by omega)]
    rw [this]
    exact List.take_sublist _ _
  have s3 : ((L.take (8 + d)).drop 8).Sublist (L.drop 8) := List.Sublist.drop (List.take_sublist _ _) 8
  have := (s1.append s2).append s3
  rw [← e] at this
  exact this
theorem sht_of {L : List Str} (hn : L.Nodup) (hl : ∀ x ∈ L, Ltr x) (h12 : L.length = 12) {a b d : Nat} (a1 : 1 ≤ a) (a4 : a ≤ 4) (b4 : b ≤ 4) (d1 : 1 ≤ d) (d4 : d ≤ 4) : Sht (L.take a) ((L.take (4 + b)).drop 4) ((L.take (8 + d)).drop 8) := by
  refine ⟨(sub12 a4 b4).nodup hn, fun x hx => hl x ((sub12 a4 b4).subset hx), ?_, ?_, ?_, ?_, ?_⟩ <;> simp only [List.length_take, List.length_drop, h12] <;> omega
theorem menu1 {v : Nat} (h : v < 5) : ∃ x : Nat, ([.int 1, .int 1, .int 2, .int 2, .int 4] : List V)[v]? = some (.int (x : Int)) ∧ 1 ≤ x ∧ x ≤ 4 := by
  rcases (show v = 0 ∨ v = 1 ∨ v = 2 ∨ v = 3 ∨ v = 4 by omega) with rfl | rfl | rfl | rfl | rfl
  · exact ⟨1, rfl, by omega⟩
  · exact ⟨1, rfl, by omega⟩
  · exact ⟨2, rfl, by omega⟩
  · exact ⟨2, rfl, by omega⟩
  · exact ⟨4, rfl, by omega⟩
theorem menu0 {v : Nat} (h : v < 5) : ∃ x : Nat, ([.int 0, .int 1, .int 1, .int 2, .int 4] : List V)[v]? = some (.int (x : Int)) ∧ x ≤ 4 := by
  rcases (show v = 0 ∨ v = 1 ∨ v = 2 ∨ v = 3 ∨ v = 4 by omega) with rfl | rfl | rfl | rfl | rfl
  · exact ⟨0, rfl, by omega⟩
  · exact ⟨1, rfl, by omega⟩
  · exact ⟨1, rfl, by omega⟩
  · exact ⟨2, rfl, by omega⟩
  · exact ⟨4, rfl, by omega⟩
theorem minI (m x : Nat) : (if (x : Int) < (m : Int) then (x : Int) else (m : Int)) = ((min m x : Nat) : Int) := by
  split <;> omega
theorem map_cut0 (L : List Str) (n : Nat) : cutV (L.map V.str) none (some (n : Int)) = (L.take n).map V.str := by rw [cut0, List.map_take]
theorem map_cutF (L : List Str) (n : Nat) : cutV (L.map V.str) (some (n : Int)) none = (L.drop n).map V.str := by rw [cutF, List.map_drop]
theorem map_cutLH (L : List Str) (n m : Nat) : cutV (L.map V.str) (some (n : Int)) (some (m : Int)) = ((L.take m).drop n).map V.str := by rw [cutLH, List.map_drop, List.map_take]
theorem lS_ne {p c l : Addr} {ns : List Int} {H : Hp} {ws : List Str} (h : Pot p c ns H) (hl : H l = some (lS ws)) : l ≠ p := fun e => by
  obtain ⟨_, _, _, h1, _⟩ := h
  rw [e, h1] at hl
  injection hl with hl
  injection hl with hl
  cases ws <;> cases hl
theorem menu_rd {K : PySem.W.Frag} {p c : Addr} {ns : List Int} {H : Hp} {σ : L2.St} {xs : List V} {Q : VK} {ta : TA} {n : Int} (hP : Pot p c ns H) (hσ : σ[0]? = some (some (.ref p))) (n0 : 0 < n) (n1 : n < 1073741824) (hta : ∀ Q : List V → Hp → Prop, Q xs H → ta σ H Q) (hxs : xs.length ≤ 1000)
    (k : ∀ (v : Nat) H', (v : Int) < n → Keep p H H' → Pot p c ns H' → ∃ z, xs[v]? = some z ∧ Q z H') : tOp (rIxL K) (tLst ta) (tCall spPick [] E0 (tCons (tVar 0) (tCons (tC (.int n)) tNil))) σ H Q := by
  refine hta _ ⟨sz_of (by omega), fun t nt => ⟨_, hσ, p, c, ns, n, rfl, n0, n1, hP.ex (Ex.new nt), fun v H5 hv kp5 hP5 => ?_⟩⟩
  obtain ⟨z, hz, q⟩ := k v H5 hv ((Keep.ofEx (Ex.new nt)).trans kp5) hP5
  exact ⟨t, xs, (v : Int), z, rfl, rfl, sq_of (kp5 _ _ (hP.ne_new nt).1.symm upd_same), atI_nat hz, q⟩
section
variable {P : Program} {w : World} {K : PySem.W.Frag} {mg : Str → Option Value} {base : Heap}
def spSheet : Sp := fun vs H Q _ => ∃ (p c : Addr) (ns : List Int) (m : Nat), vs = [.ref p, .int (m : Int)] ∧ 1 ≤ m ∧ m ≤ 4 ∧ Pot p c ns H ∧
  ∀ (os ps qs : List Str) s H', Sht os ps qs → SheetAt H' s os ps qs → Keep p H H' → Pot p c ns H' → Q (.ref s) H'
theorem ok_sheet {f fP fL : Addr} {fd fdP fdL : FuncData} {k : Nat} (F : Fun K "_law_sheet" "_law_sheet" sSheet f fd) (FP : Fun K "_law_pick" "_law_pick" sPick fP fdP) (GP : FnOk P w K mg base CX0 (k + 1) fP fdP ["pot", "many"] spPick) (bP : Binds K fdP ["pot", "many"] []) (gP : mg "_law_pick" = some (.ref fP))
    (FL : Fun K "_law_letters" "_law_letters" sLetters fL fdL) (GL : FnOk P w K mg base CX0 (k + 2) fL fdL ["pot", "many"] spLetters) (bL : Binds K fdL ["pot", "many"] []) (gL : mg "_law_letters" = some (.ref fL)) (mm : mg "min" = none) (mt : mg "tuple" = none) :
    FnOk P w K mg base CX0 (k + 3) f fd ["pot", "most"] spSheet := by
  have nd := scSheet.nd
  refine F.ok scSheet (fun vs H Q E h => ?_) (fun cdv A outer s H vs Q E hr h => ?_)
  · obtain ⟨p, c, ns, m, rfl, _⟩ := h
    rfl
  · obtain ⟨p, c, ns, m, rfl, m1, m4, hP, q⟩ := h
    have hr1 : Room (k + 1) _ := hr.mono (Nat.le_succ _)
    refine ⟨_, pss_cons (ps_set (i := 2) nd rfl (.inl rfl) (pe_call GL hr (by rfl) gL FL.kp bL .nil pass0 (pa_cons (pv 0) (pa_cons pe_int pa_nil))))
      (pss_cons (ps_set (i := 3) nd rfl (.inl rfl) (pe_call GP hr1 (by rfl) gP FP.kp bP .nil pass0 (pa_cons (pv 0) (pa_cons pe_int pa_nil))))
      (pss_cons (ps_set (i := 2) nd rfl (.inl rfl) (pe_op op_cat (pe_slice sl_list (pv 2) (po_some (pv 3)) po_none) (pe_slice sl_list (pv 2) po_none (po_some (pv 3)))))
      (pss_cons (ps_set (i := 4) nd rfl (.inl rfl) (pe_slice sl_list (pv 2) po_none (po_some (pe_callB (call_min2 rfl) (by rfl) mm (by decide +kernel) (pa_cons (pv 1) (pa_cons (pe_ix ix_list (pe_lst (pa_cons pe_int (pa_cons pe_int (pa_cons pe_int (pa_cons pe_int (pa_cons pe_int pa_nil)))))) (pe_call GP hr1 (by rfl) gP FP.kp bP .nil pass0 (pa_cons (pv 0) (pa_cons pe_int pa_nil))) (fun _ _ => rfl)) pa_nil))))))
      (pss_cons (ps_set (i := 5) nd rfl (.inl rfl) (pe_slice sl_list (pv 2) (po_some pe_int) (po_some (pe_op op_add pe_int (pe_callB (call_min2 rfl) (by rfl) mm (by decide +kernel) (pa_cons (pv 1) (pa_cons (pe_ix ix_list (pe_lst (pa_cons pe_int (pa_cons pe_int (pa_cons pe_int (pa_cons pe_int (pa_cons pe_int pa_nil)))))) (pe_call GP hr1 (by rfl) gP FP.kp bP .nil pass0 (pa_cons (pv 0) (pa_cons pe_int pa_nil))) (fun _ _ => rfl)) pa_nil)))))))
      (pss_cons (ps_set (i := 6) nd rfl (.inl rfl) (pe_slice sl_list (pv 2) (po_some pe_int) (po_some (pe_op op_add pe_int (pe_callB (call_min2 rfl) (by rfl) mm (by decide +kernel) (pa_cons (pv 1) (pa_cons (pe_ix ix_list (pe_lst (pa_cons pe_int (pa_cons pe_int (pa_cons pe_int (pa_cons pe_int (pa_cons pe_int pa_nil)))))) (pe_call GP hr1 (by rfl) gP FP.kp bP .nil pass0 (pa_cons (pv 0) (pa_cons pe_int pa_nil))) (fun _ _ => rfl)) pa_nil)))))))
      (pss_one (ps_ret (pe_tup (pa_cons (pe_callTy call_tuple_of (by rfl) mt (by decide +kernel) (pa_cons (pv 4) pa_nil)) (pa_cons (pe_callTy call_tuple_of (by rfl) mt (by decide +kernel) (pa_cons (pv 5) pa_nil)) (pa_cons (pe_callTy call_tuple_of (by rfl) mt (by decide +kernel) (pa_cons (pv 6) pa_nil)) pa_nil)))))))))))  , ?_⟩
    refine ⟨_, rfl, p, c, ns, 12, rfl, by decide, hP, fun ws l H1 hlen hnd hlt kp1 hP1 nl hl => ?_⟩
    refine ⟨_, rfl, p, c, ns, 12, rfl, by decide, by decide, hP1, fun turn H2 hturn kp2 hP2 => ?_⟩
    have hl2 : H2 l = some (lS ws) := kp2 _ _ (lS_ne hP1 hl) hl
    refine ⟨_, rfl, _, rfl, _, rfl, l, _, rfl, sq_of hl2, fun u nu => ?_⟩
    have e2 : Ex H2 (upd H2 u (.lst (cutV (ws.map V.str) (some (turn : Int)) none))) := Ex.new nu
    refine ⟨_, rfl, _, rfl, _, rfl, l, _, rfl, sq_of (e2 _ _ hl2), fun u' nu' => ?_⟩
    have e3 : Ex H2 (upd (upd H2 u (.lst (cutV (ws.map V.str) (some (turn : Int)) none))) u' (.lst (cutV (ws.map V.str) none (some (turn : Int))))) := e2.trans (Ex.new nu')
    have nuu : u ≠ u' := ne_of_none upd_same nu'
    have hu3 : (upd (upd H2 u (.lst (cutV (ws.map V.str) (some (turn : Int)) none))) u' (.lst (cutV (ws.map V.str) none (some (turn : Int))))) u = some (.lst ((ws.drop turn).map V.str)) := by
      rw [upd_ne nuu, upd_same, map_cutF]
    have hu3' : (upd (upd H2 u (.lst (cutV (ws.map V.str) (some (turn : Int)) none))) u' (.lst (cutV (ws.map V.str) none (some (turn : Int))))) u' = some (.lst ((ws.take turn).map V.str)) := by
      rw [upd_same, map_cut0]
    generalize (upd (upd H2 u (.lst (cutV (ws.map V.str) (some (turn : Int)) none))) u' (.lst (cutV (ws.map V.str) none (some (turn : Int))))) = H3 at e3 hu3 hu3' ⊢
    have hLn : (ws.drop turn ++ ws.take turn).length = 12 := by
      rw [List.length_append, List.length_drop, List.length_take]
      omega
    refine ⟨u, u', _, _, rfl, rfl, hu3, hu3', ?_, fun r nr => ?_⟩
    · rw [← List.length_append, ← List.map_append, List.length_map]
      exact sz_of (by omega)
    rw [← List.map_append]
    have hLd := rot_nodup turn hnd
    have hLt : ∀ x ∈ ws.drop turn ++ ws.take turn, Ltr x := fun x hx => hlt x (rot_mem hx)
    generalize ws.drop turn ++ ws.take turn = L at hLn hLd hLt ⊢
    have hP3 := hP2.ex e3
    have e4 : Ex H3 (upd H3 r (lS L)) := Ex.new nr
    have hP4 := hP3.ex e4
    have kp4 : Keep p H (upd H3 r (lS L)) := ((kp1.trans kp2).trans (Keep.ofEx e3)).trans (Keep.ofEx e4)
    have hr4 : (upd H3 r (lS L)) r = some (lS L) := upd_same
    show tSeq _ _ _ [some (.ref p), some (.int (m : Int)), some (.ref r), some (.int (turn : Int)), none, none, none] (upd H3 r (lS L))
    generalize upd H3 r (lS L) = H4 at e4 hP4 kp4 hr4 ⊢
    -- opens
    refine ⟨_, rfl, _, rfl, menu_rd (xs := [.int 1, .int 1, .int 2, .int 2, .int 4]) hP4 rfl (by decide) (by decide) (fun Q z => z) (by decide) fun v H5 hv kp5 hP5 => ?_⟩
    obtain ⟨x, hx, x1, x4⟩ := menu1 (show v < 5 by omega)
    refine ⟨_, hx, _, _, rfl, _, rfl, r, _, rfl, sq_of (kp5 _ _ (lS_ne hP4 hr4) hr4), fun o no => ?_⟩
    rw [minI, map_cut0]
    have hr5 : H5 r = some (lS L) := kp5 _ _ (lS_ne hP4 hr4) hr4
    have e6 : Ex H5 (upd H5 o (lS (L.take (min m x)))) := Ex.new no
    have hP6 := hP5.ex e6
    have hr6 := e6 _ _ hr5
    have ho6 : (upd H5 o (lS (L.take (min m x)))) o = some (lS (L.take (min m x))) := upd_same
    have kp6 : Keep p H (upd H5 o (lS (L.take (min m x)))) := (kp4.trans kp5).trans (Keep.ofEx e6)
    show tSeq _ _ _ [some (.ref p), some (.int (m : Int)), some (.ref r), some (.int (turn : Int)), some (.ref o), none, none] (upd H5 o (lS (L.take (min m x))))
    generalize upd H5 o (lS (L.take (min m x))) = H6 at hP6 hr6 ho6 kp6 ⊢
    -- plains
    refine ⟨_, rfl, _, rfl, _, rfl, menu_rd (xs := [.int 0, .int 1, .int 1, .int 2, .int 4]) hP6 rfl (by decide) (by decide) (fun Q z => z) (by decide) fun v H7 hv kp7 hP7 => ?_⟩
    obtain ⟨y, hy, y4⟩ := menu0 (show v < 5 by omega)
    have hr7 : H7 r = some (lS L) := kp7 _ _ (lS_ne hP6 hr6) hr6
    have ho7 : H7 o = some (lS (L.take (min m x))) := kp7 _ _ (lS_ne hP6 ho6) ho6
    refine ⟨_, hy, _, _, rfl, _, _, rfl, rfl, _, rfl, r, _, rfl, sq_of hr7, fun u1 nu1 => ?_⟩
    have ey : (4 : Int) + (if (y : Int) < (m : Int) then (y : Int) else (m : Int)) = ((4 + min m y : Nat) : Int) := by
      rw [minI]
      omega
    rw [ey, show (some 4 : Option Int) = some ((4 : Nat) : Int) from rfl, map_cutLH]
    have e8 : Ex H7 (upd H7 u1 (lS ((L.take (4 + min m y)).drop 4))) := Ex.new nu1
    have hP8 := hP7.ex e8
    have hr8 := e8 _ _ hr7
    have ho8 := e8 _ _ ho7
    have hu8 : (upd H7 u1 (lS ((L.take (4 + min m y)).drop 4))) u1 = some (lS ((L.take (4 + min m y)).drop 4)) := upd_same
    have kp8 : Keep p H (upd H7 u1 (lS ((L.take (4 + min m y)).drop 4))) := (kp6.trans kp7).trans (Keep.ofEx e8)
    show tSeq _ _ _ [some (.ref p), some (.int (m : Int)), some (.ref r), some (.int (turn : Int)), some (.ref o), some (.ref u1), none] (upd H7 u1 (lS ((L.take (4 + min m y)).drop 4)))
    generalize upd H7 u1 (lS ((L.take (4 + min m y)).drop 4)) = H8 at hP8 hr8 ho8 hu8 kp8 ⊢
    -- closes
    refine ⟨_, rfl, _, rfl, _, rfl, menu_rd (xs := [.int 1, .int 1, .int 2, .int 2, .int 4]) hP8 rfl (by decide) (by decide) (fun Q z => z) (by decide) fun v H9 hv kp9 hP9 => ?_⟩
    obtain ⟨z, hz, z1, z4⟩ := menu1 (show v < 5 by omega)
    have hr9 : H9 r = some (lS L) := kp9 _ _ (lS_ne hP8 hr8) hr8
    have ho9 : H9 o = some (lS (L.take (min m x))) := kp9 _ _ (lS_ne hP8 ho8) ho8
    have hu9 := kp9 _ _ (lS_ne hP8 hu8) hu8
    refine ⟨_, hz, _, _, rfl, _, _, rfl, rfl, _, rfl, r, _, rfl, sq_of hr9, fun u2 nu2 => ?_⟩
    have ez : (8 : Int) + (if (z : Int) < (m : Int) then (z : Int) else (m : Int)) = ((8 + min m z : Nat) : Int) := by
      rw [minI]
      omega
    rw [ez, show (some 8 : Option Int) = some ((8 : Nat) : Int) from rfl, map_cutLH]
    have e10 : Ex H9 (upd H9 u2 (lS ((L.take (8 + min m z)).drop 8))) := Ex.new nu2
    have hP10 := hP9.ex e10
    have ho10 := e10 _ _ ho9
    have hu10 := e10 _ _ hu9
    have hv10 : (upd H9 u2 (lS ((L.take (8 + min m z)).drop 8))) u2 = some (lS ((L.take (8 + min m z)).drop 8)) := upd_same
    have kp10 : Keep p H (upd H9 u2 (lS ((L.take (8 + min m z)).drop 8))) := (kp8.trans kp9).trans (Keep.ofEx e10)
    refine ⟨_, rfl, o, _, rfl, .inl ⟨sq_of ho10, fun ao nao => ?_⟩⟩
    have f1 : Ex _ _ := Ex.new (o := .tup ((L.take (min m x)).map V.str)) nao
    refine ⟨_, rfl, u1, _, rfl, .inl ⟨sq_of (f1 _ _ hu10), fun ap nap => ?_⟩⟩
    have f2 : Ex _ _ := Ex.new (o := .tup (((L.take (4 + min m y)).drop 4).map V.str)) nap
    refine ⟨_, rfl, u2, _, rfl, .inl ⟨sq_of (f2 _ _ (f1 _ _ hv10)), fun ac nac => ?_⟩⟩
    have f3 : Ex _ _ := Ex.new (o := .tup (((L.take (8 + min m z)).drop 8).map V.str)) nac
    refine ⟨(by show 3 ≤ sizeLine; decide), fun sh nsh => ?_⟩
    have f4 : Ex _ _ := Ex.new (o := .tup [.ref ao, .ref ap, .ref ac]) nsh
    exact q _ _ _ sh _ (sht_of hLd hLt hLn (by omega) (by omega) (by omega) (by omega) (by omega)) ⟨ao, ap, ac, upd_same, f4 _ _ (f3 _ _ (f2 _ _ upd_same)), f4 _ _ (f3 _ _ upd_same), f4 _ _ upd_same⟩ (kp10.trans (Keep.ofEx (((f1.trans f2).trans f3).trans f4))) (hP10.ex (((f1.trans f2).trans f3).trans f4))
end
end Eh
set_option Elab.async false
set_option linter.all false
set_option maxRecDepth 100000
set_option maxHeartbeats 4000000
namespace Eh
open PySem PySem.Spec PyProof.Rows L2 Evl
open Sem (wp)
open AutoSeq1 (wpAny_loadPart')
/-! enumerate of a tuple -/
theorem enumT_meets {v : Value} {ob : Obj} {G : Heap → Prop} (B : Begins v ob G) : Meets (Builtin.«enumerate.__new__» ⟨[.type "enumerate", v], []⟩) (fun _ R s1 => G s1.heap ∧ R (.ok (.ret (.ref (s1.heap.push ob).objs.size))) { s1 with heap := (s1.heap.push ob).push { cls := .type "enumerate", data := .fields #[.none, .bool false, .ref s1.heap.objs.size, rawInt 0, .none, .none] } }) :=
  .of_wp fun pr wo ar R s1 hyp => by
    obtain ⟨hp, gg, dd, tt, oo⟩ := s1; obtain ⟨hg, hyp⟩ := hyp
    have hsb := sub_enumerate
    have hit : ∀ {A' : Around} {E : Value → Shared → Prop} {Q : Value → Shared → Prop}, Q (.ref hp.objs.size) ⟨hp.push ob, gg, dd, tt, oo⟩ → wpAny (model pr wo) A' (pyIter v) Q E ⟨hp, gg, dd, tt, oo⟩ := fun q => B.iter pr wo _ _ ⟨hp, gg, dd, tt, oo⟩ _ hg q
    wp_walk using hit
    refine wpAny_stack_any fun stk => wpAny_pure ?_
    split
    · rename_i cl _ _ _ _ _; cases (cl == Value.type "enumerate") <;> (wp_walk using hit; exact ⟨_, rfl, hyp⟩)
    · wp_walk using hit; exact ⟨_, rfl, hyp⟩
theorem enumT_call {prog : Program} {w : World} {A : Around} {E : Value → Shared → Prop} {s : Shared} {v : Value} {ob : Obj} {G : Heap → Prop} {Q : Value → Shared → Prop} (B : Begins v ob G) (hg : G s.heap)
    (hyp : ∀ h', IsEnum h' (s.heap.objs.size + 1) s.heap.objs.size 0 .none → h'.get? s.heap.objs.size = some ob → h'.objs.size = s.heap.objs.size + 2 → (∀ b o, s.heap.get? b = some o → h'.get? b = some o) → Q (.ref (s.heap.objs.size + 1)) { s with heap := h' }) : wpAny (model prog w) A (call (.type "enumerate") [v]) Q E s := by
  refine callType_new F.called_enumerate (by decide) (F.typeCall_enumerate_1 _) (F.newCall_enumerate_1 _) (fun x => F.args_object_init_2 x _) F.entry_enumerate_new (enumT_meets B) ⟨hg, ?_⟩
  have sz : (s.heap.push ob).objs.size = s.heap.objs.size + 1 := Heap.size_push ..
  show _ ∧ _
  rw [sz]
  have en : IsEnum ((s.heap.push ob).push { cls := .type "enumerate", data := .fields #[.none, .bool false, .ref s.heap.objs.size, rawInt 0, .none, .none] }) (s.heap.objs.size + 1) s.heap.objs.size 0 .none := by
    have z := Heap.get?_push_size (s.heap.push ob) (o := { cls := .type "enumerate", data := .fields #[.none, .bool false, .ref s.heap.objs.size, rawInt 0, .none, .none] }) rfl
    rw [sz] at z; exact z
  exact ⟨⟨_, en, rfl⟩, hyp _ en (Heap.get?_push_of_some _ (Heap.get?_push_size _ B.free)) (by rw [Heap.size_push, sz]) fun b o x => Heap.get?_push_of_some _ (Heap.get?_push_of_some _ x)⟩
def IteT (K : PySem.W.Frag) (a : Addr) : It :=
  ⟨fun i H => ∃ (xs : List V) (x : V), SqT K H a xs ∧ xs[i]? = some x, fun i H v H' => ∃ T x, v = .ref T ∧ H T = none ∧ H' = upd H T (.tup [.int (i : Nat), x]) ∧ ∀ xs, SqT K H a xs → xs[i]? = some x, fun i H => ∃ xs : List V, SqT K H a xs ∧ xs.length = i⟩
theorem apart_cls {h : Heap} {a b : Addr} {o1 o2 : Obj} {x y : String} (h1 : h.get? a = some o1) (c1 : o1.cls = .type x) (h2 : h.get? b = some o2) (c2 : o2.cls = .type y) (n : x ≠ y) : a ≠ b := fun z => by
  subst z
  rw [h1] at h2
  have e : o1 = o2 := Option.some.inj h2
  rw [e, c2] at c1
  injection c1 with c1
  exact n c1.symm
theorem turn_enumT {P : Program} {w : World} {K : PySem.W.Frag} {elts : List Expr} {kk : Nat} {tpos : Pos} (a e it : Addr) :
    Turn P w K (.Tuple elts kk tpos) (IteT K a) [e, it] e (fun i h => (∃ old, IsEnum h e it ((i : Nat) : Int) old) ∧ h.IsTupleIter it a i ∧ e ≠ it) where
  mem := by simp
  obj := fun i h tn b hb => by
    obtain ⟨⟨old, en⟩, ⟨ob, h1, h2, h3⟩, _⟩ := tn
    rcases (show b = e ∨ b = it by simpa using hb) with z | z
    · subst z; exact ⟨_, en, fun v q => nomatch q⟩
    · subst z; exact ⟨ob, h1, fun v q => by rw [h3] at q; cases q⟩
  keep := fun i h h' tn kk => let ⟨⟨old, en⟩, ti, ne⟩ := tn; ⟨⟨old, kk e (by simp) _ en⟩, ti.at fun o q => kk it (by simp) o q, ne⟩
  item := by
    intro X eP ew eK hc i pins s σ H E I fpo tn go
    subst eP ew eK
    obtain ⟨⟨old, en⟩, ti, ne⟩ := tn
    obtain ⟨xs, x, sq, hx⟩ := go
    obtain ⟨its, rv, pt, _⟩ := I.tuple sq
    obtain ⟨u, hu, ru⟩ := rv.get hx
    have le : e < s.heap.objs.size := Heap.lt_size en
    have li : it < s.heap.objs.size := by obtain ⟨_, q, _⟩ := ti; exact Heap.lt_size q
    have nai : a ≠ it := by
      obtain ⟨o1, g1, c1, _⟩ := id ti
      obtain ⟨o2, g2, c2, _⟩ := id pt
      exact apart_cls g2 c2 g1 c1 (by decide)
    have nea : e ≠ a := by
      obtain ⟨o2, g2, c2, _⟩ := id pt
      exact apart_cls en rfl g2 c2 (by decide)
    have DD := Draws.tuple (prog := X.prog) (w := X.w) (A := X.A.in1) (I.ok.hd hc) it a nai its.toArray
    refine wpAny_pyNext_enum_itemC DD en ⟨ti, pt⟩ (by have h1 := (List.getElem?_eq_some_iff.mp hu).1; rw [List.size_toArray]; exact h1) ne (by simp [ne, nea]) fun y h' tk hy out st' hT hsz kp => ?_
    have ey : y = u := by
      have hy' : its.toArray[i]? = some y := hy
      rw [List.getElem?_toArray, hu] at hy'
      exact (Option.some.inj hy').symm
    subst ey
    refine ⟨_, rfl, wpAny_letOwnedTupleGo_enum (s := { s with heap := h', toks := tk + 1 }) out fun h'' en' sb => ?_⟩
    have hT' : h''.get? s.heap.objs.size = some { cls := .type "tuple", data := .seq #[.int i tk, y] } := (sb.2 _ (Nat.ne_of_gt le)).trans hT
    have nw : ObjOk X.prog X.w (upd H s.heap.objs.size (.tup [.int (i : Nat), x])) h'' s.heap.objs.size (.tup [.int (i : Nat), x]) := ⟨by show 2 ≤ sizeLine; decide, [.int i tk, y], .cons ⟨_, rfl⟩ (.cons ru .nil), ⟨_, hT', rfl, _, rfl⟩⟩
    have J1 : Inv X pins σ (upd H s.heap.objs.size (.tup [.int (i : Nat), x])) { s with heap := h'', toks := tk + 1 } := I.turnedNew (ch := [e, it]) (fun b o hb q => (sb.2 b (fun z => hb (by simp [z]))).trans (kp b o (fun z => hb (by simp [z])) (fun z => hb (by simp [z])) q)) fpo (Nat.le_refl _) nw
    refine ⟨.ref s.heap.objs.size, _, J1, rfl, ⟨_, x, rfl, I.hok.fresh (Nat.le_refl _), rfl, fun ys hs => by rw [I.tuple_inj hs sq]; exact hx⟩, ⟨⟨y, ?_⟩, st'.1.at fun o q => (sb.2 it (Ne.symm ne)).trans q, ne⟩, fun b hb => ?_⟩
    · rw [show ((i + 1 : Nat) : Int) = (i : Int) + 1 by omega]
      exact en'
    · have lb : b < s.heap.objs.size := by
        rcases (show b = e ∨ b = it by simpa using hb) with z | z
        · subst z; exact le
        · subst z; exact li
      rw [upd_ne (Nat.ne_of_lt lb)]
      exact (fpo b hb).1
  done := by
    intro X eP ew eK hc i pins s σ H E I fpo tn stp
    subst eP ew eK
    obtain ⟨⟨old, en⟩, ti, ne⟩ := tn
    obtain ⟨xs, sq, hx⟩ := stp
    obtain ⟨its, rv, pt, _⟩ := I.tuple sq
    obtain ⟨f0, f1, _, f3, f4, f5⟩ := fpo it (by simp)
    have nai : a ≠ it := by
      obtain ⟨o1, g1, c1, _⟩ := id ti
      obtain ⟨o2, g2, c2, _⟩ := id pt
      exact apart_cls g2 c2 g1 c1 (by decide)
    have DD := Draws.tuple (prog := X.prog) (w := X.w) (A := X.A.in1) (I.ok.hd hc) it a nai its.toArray
    have en' : its.toArray.size = i := by rw [List.size_toArray, ← rv.length, hx]
    exact wpAny_pyNext_enum_endD DD en (by rw [en']; exact ⟨ti, pt⟩) fun h' eb => ⟨rfl, I.turned (t' := s.toks) (fun b o hb q => eb b o hb q) f0 f1 f3 f4 f5⟩
  self := fun A i s Q E tn hq => let ⟨⟨_, en⟩, _⟩ := tn; wpAny_pyIter_enum en hq
def iEnumT (K : PySem.W.Frag) (ta : TA) : TI := fun σ H R => ta σ H fun vs H1 => ∃ a xs, vs = [.ref a] ∧ SqT K H1 a xs ∧ R (IteT K a) H1
theorem pi_enumT {X : Cx} {e : Expr} {ta : TA} {p pos tpos : Pos} {elts : List Expr} {kk : Nat} (hg : Gl X "enumerate") (hm : X.mg "enumerate" = none) (ha : PA X [e] ta) (hs : starEach [e] X.env = [(false, eval e X.env)] := by rfl) : PI X (.Tuple elts kk tpos) (.Call (.Name "enumerate" p) [e] [] pos) (iEnumT X.K ta) := by
  refine ⟨fun pins s σ H R I hyp => Call_ (ld_blt I hg hm boot_enumerate (PyProof.Rows.callWith_type1 (thn (ha.run pos pins s σ H _ I hyp) fun us s1 ⟨vs, H1, I1, r1, q1⟩ => ?_) hs rfl))⟩
  obtain ⟨a, xs, ev, sq, q⟩ := q1
  subst ev
  obtain ⟨u, rfl, ru⟩ := vals1 r1
  cases ru
  obtain ⟨its, rv, pt, _⟩ := I1.tuple sq
  refine enumT_call (begins_tuple a its.toArray) pt fun h' en hit hsz kp => wpAny_pyIter_enum en ?_
  have I2 : Inv X pins σ H1 { s1 with heap := h' } := I1.kept (t' := s1.toks) kp
  refine ⟨s1.heap.objs.size + 1, [s1.heap.objs.size + 1, s1.heap.objs.size], _, _, H1, rfl, I2, turn_enumT a (s1.heap.objs.size + 1) s1.heap.objs.size, ⟨⟨.none, en⟩, ⟨_, hit, rfl, rfl⟩, Nat.succ_ne_self _⟩, fun b hb => ?_, q⟩
  have lb : s1.heap.objs.size ≤ b := by
    rcases (show b = s1.heap.objs.size + 1 ∨ b = s1.heap.objs.size by simpa using hb) with z | z
    · rw [z]; exact Nat.le_add_right ..
    · rw [z]; exact Nat.le_refl ..
  exact I1.fpOk lb (I1.hok.fresh lb)
end Eh
set_option linter.all false
namespace Eh
/-! what answers what: the mathematics -/
inductive Kd | op | pl | cl
deriving DecidableEq
def tv (t : List (Option Nat)) (j : Nat) : Option Nat := t.getD j none
theorem tv_set {t : List (Option Nat)} {a : Nat} {v : Option Nat} (h : a < t.length) (j : Nat) : tv (t.set a v) j = if j = a then v else tv t j := by
  unfold tv
  rw [List.getD_eq_getElem?_getD, List.getD_eq_getElem?_getD, List.getElem?_set]
  by_cases e : j = a
  · subst e
    simp [h]
  · rw [if_neg (fun z => e z.symm), if_neg e]
theorem tv_rep (n j : Nat) : tv (List.replicate n none) j = none := by
  unfold tv
  rw [List.getD_eq_getElem?_getD, List.getElem?_replicate]
  split <;> rfl
theorem tv_get {t : List (Option Nat)} {j : Nat} (h : j < t.length) : t[j]? = some (tv t j) := by
  unfold tv
  rw [List.getD_eq_getElem?_getD, List.getElem?_eq_getElem h]
  rfl
def step (kf : Nat → Kd) (i : Nat) (S : List (Option Nat) × List Nat) : List (Option Nat) × List Nat :=
  match kf i with
  | .op => (S.1, i :: S.2)
  | .pl => S
  | .cl => match S.2 with
    | [] => S
    | b :: r => ((S.1.set b (some i)).set i (some b), r)
def run (kf : Nat → Kd) (n : Nat) : Nat → List (Option Nat) × List Nat
  | 0 => (List.replicate n none, [])
  | i + 1 => step kf i (run kf n i)
structure Good (kf : Nat → Kd) (n i : Nat) (t : List (Option Nat)) (st : List Nat) : Prop where
  len : t.length = n
  srt : st.Pairwise (· > ·)
  bd : ∀ b ∈ st, b < i ∧ kf b = .op ∧ tv t b = none
  opn : ∀ j, j < i → kf j = .op → tv t j = none → j ∈ st
  hi : ∀ j, i ≤ j → tv t j = none
  pr : ∀ j m, tv t j = some m → j < i ∧ m < i ∧ tv t m = some j ∧ ((kf j = .op ∧ kf m = .cl ∧ j < m ∧ ∀ b ∈ st, ¬ (j ≤ b ∧ b ≤ m)) ∨ (kf j = .cl ∧ kf m = .op ∧ m < j ∧ ∀ b ∈ st, ¬ (m ≤ b ∧ b ≤ j)))
theorem good_run (kf : Nat → Kd) (n : Nat) : ∀ i, i ≤ n → Good kf n i (run kf n i).1 (run kf n i).2
  | 0, _ => by
    refine ⟨List.length_replicate, List.Pairwise.nil, fun b hb => (List.not_mem_nil hb).elim, fun j hj => absurd hj (Nat.not_lt_zero j), fun j _ => tv_rep n j, fun j m h => ?_⟩
    have := tv_rep n j
    rw [show (run kf n 0).1 = List.replicate n none from rfl, this] at h
    cases h
  | i + 1, hi => by
    have G := good_run kf n i (by omega)
    show Good kf n (i + 1) (step kf i (run kf n i)).1 (step kf i (run kf n i)).2
    generalize run kf n i = S at G ⊢
    obtain ⟨t, st⟩ := S
    replace G : Good kf n i t st := G
    unfold step
    cases hk : kf i with
    | pl =>
      refine ⟨G.len, G.srt, fun b hb => ⟨by have := (G.bd b hb).1; omega, (G.bd b hb).2⟩, fun j hj ho hn => ?_, fun j hj => G.hi j (by omega), fun j m h => ?_⟩
      · rcases Nat.lt_succ_iff_lt_or_eq.mp hj with z | z
        · exact G.opn j z ho hn
        · subst z
          rw [hk] at ho
          cases ho
      · obtain ⟨a, b, c, d⟩ := G.pr j m h
        exact ⟨by omega, by omega, c, d⟩
    | op =>
      have hn := G.hi i (Nat.le_refl i)
      refine ⟨G.len, List.Pairwise.cons (fun b hb => (G.bd b hb).1) G.srt, fun b hb => ?_, fun j hj ho hn => ?_, fun j hj => G.hi j (by omega), fun j m h => ?_⟩
      · rcases List.mem_cons.mp hb with z | z
        · subst z
          exact ⟨by omega, hk, hn⟩
        · exact ⟨by have := (G.bd b z).1; omega, (G.bd b z).2⟩
      · rcases Nat.lt_succ_iff_lt_or_eq.mp hj with z | z
        · exact List.mem_cons_of_mem _ (G.opn j z ho hn)
        · subst z
          exact List.mem_cons_self ..
      · obtain ⟨a, b, c, d⟩ := G.pr j m h
        refine ⟨by omega, by omega, c, ?_⟩
        rcases d with ⟨d1, d2, d3, d4⟩ | ⟨d1, d2, d3, d4⟩
        · refine .inl ⟨d1, d2, d3, fun x hx => ?_⟩
          rcases List.mem_cons.mp hx with z | z
          · omega
          · exact d4 x z
        · refine .inr ⟨d1, d2, d3, fun x hx => ?_⟩
          rcases List.mem_cons.mp hx with z | z
          · omega
          · exact d4 x z
    | cl =>
      cases st with
      | nil =>
        refine ⟨G.len, G.srt, fun b hb => (List.not_mem_nil hb).elim, fun j hj ho hn => ?_, fun j hj => G.hi j (by omega), fun j m h => ?_⟩
        · rcases Nat.lt_succ_iff_lt_or_eq.mp hj with z | z
          · exact G.opn j z ho hn
          · subst z
            rw [hk] at ho
            cases ho
        · obtain ⟨a, b, c, d⟩ := G.pr j m h
          exact ⟨by omega, by omega, c, d⟩
      | cons b r =>
        obtain ⟨hb1, hb2, hb3⟩ := G.bd b (List.mem_cons_self ..)
        have hlen := G.len
        obtain ⟨hs1, hs2⟩ := List.pairwise_cons.mp G.srt
        have T : ∀ j, tv ((t.set b (some i)).set i (some b)) j = if j = i then some b else if j = b then some i else tv t j := fun j => by
          rw [tv_set (by rw [List.length_set]; omega), tv_set (by omega)]
        refine ⟨by simp [G.len], hs2, fun c hc => ?_, fun j hj ho hn => ?_, fun j hj => ?_, fun j m h => ?_⟩
        · obtain ⟨c1, c2, c3⟩ := G.bd c (List.mem_cons_of_mem _ hc)
          have := hs1 c hc
          refine ⟨by omega, c2, ?_⟩
          rw [T, if_neg (by omega), if_neg (by omega)]
          exact c3
        · rw [T] at hn
          by_cases e1 : j = i
          · rw [if_pos e1] at hn
            cases hn
          · rw [if_neg e1] at hn
            by_cases e2 : j = b
            · rw [if_pos e2] at hn
              cases hn
            · rw [if_neg e2] at hn
              exact (List.mem_cons.mp (G.opn j (by omega) ho hn)).resolve_left e2
        · rw [T, if_neg (by omega), if_neg (by omega)]
          exact G.hi j (by omega)
        · rw [T] at h
          by_cases e1 : j = i
          · rw [if_pos e1] at h
            have em : b = m := Option.some.inj h
            subst em
            subst e1
            refine ⟨by omega, by omega, ?_, .inr ⟨hk, hb2, hb1, fun c hc => by have := hs1 c hc; omega⟩⟩
            rw [T, if_neg (by omega), if_pos rfl]
          · rw [if_neg e1] at h
            by_cases e2 : j = b
            · rw [if_pos e2] at h
              have em : i = m := Option.some.inj h
              subst em
              subst e2
              refine ⟨by omega, by omega, ?_, .inl ⟨hb2, hk, hb1, fun c hc => by have := hs1 c hc; omega⟩⟩
              rw [T, if_pos rfl]
            · rw [if_neg e2] at h
              obtain ⟨g1, g2, g3, g4⟩ := G.pr j m h
              refine ⟨by omega, by omega, ?_, ?_⟩
              · rw [T, if_neg (by omega), if_neg (fun z => by
                  rw [z, hb3] at g3
                  cases g3)]
                exact g3
              · rcases g4 with ⟨d1, d2, d3, d4⟩ | ⟨d1, d2, d3, d4⟩
                · exact .inl ⟨d1, d2, d3, fun c hc => d4 c (List.mem_cons_of_mem _ hc)⟩
                · exact .inr ⟨d1, d2, d3, fun c hc => d4 c (List.mem_cons_of_mem _ hc)⟩
/-- what was told stays; what is told later is of later places -/
theorem run_later (kf : Nat → Kd) (n i j : Nat) : ∀ d, i + d ≤ n → (∀ m, tv (run kf n i).1 j = some m → tv (run kf n (i + d)).1 j = some m) ∧ (j < i → tv (run kf n i).1 j = none → tv (run kf n (i + d)).1 j = none ∨ ∃ m, i ≤ m ∧ tv (run kf n (i + d)).1 j = some m)
  | 0, _ => ⟨fun m h => h, fun _ h => .inl h⟩
  | d + 1, hd => by
    obtain ⟨ih1, ih2⟩ := run_later kf n i j d (by omega)
    have G := good_run kf n (i + d) (by omega)
    show (∀ m, tv (run kf n i).1 j = some m → tv (step kf (i + d) (run kf n (i + d))).1 j = some m) ∧ (j < i → tv (run kf n i).1 j = none → tv (step kf (i + d) (run kf n (i + d))).1 j = none ∨ ∃ m, i ≤ m ∧ tv (step kf (i + d) (run kf n (i + d))).1 j = some m)
    generalize run kf n (i + d) = S at G ih1 ih2 ⊢
    obtain ⟨t, st⟩ := S
    replace G : Good kf n (i + d) t st := G
    replace ih1 : ∀ m, tv (run kf n i).1 j = some m → tv t j = some m := ih1
    replace ih2 : j < i → tv (run kf n i).1 j = none → tv t j = none ∨ ∃ m, i ≤ m ∧ tv t j = some m := ih2
    unfold step
    cases hk : kf (i + d) with
    | pl => exact ⟨ih1, ih2⟩
    | op => exact ⟨ih1, ih2⟩
    | cl =>
      cases st with
      | nil => exact ⟨ih1, ih2⟩
      | cons b r =>
        obtain ⟨hb1, hb2, hb3⟩ := G.bd b (List.mem_cons_self ..)
        have hlen := G.len
        have T : tv ((t.set b (some (i + d))).set (i + d) (some b)) j = if j = i + d then some b else if j = b then some (i + d) else tv t j := by
          rw [tv_set (by rw [List.length_set]; omega), tv_set (by omega)]
        constructor
        · intro m h
          have h' := ih1 m h
          have := (G.pr j m h').1
          show tv ((t.set b (some (i + d))).set (i + d) (some b)) j = some m
          rw [T, if_neg (by omega), if_neg (fun z => by rw [z, hb3] at h'; cases h')]
          exact h'
        · intro hj h
          show tv ((t.set b (some (i + d))).set (i + d) (some b)) j = none ∨ ∃ m, i ≤ m ∧ tv ((t.set b (some (i + d))).set (i + d) (some b)) j = some m
          rw [T, if_neg (by omega)]
          by_cases e : j = b
          · rw [if_pos e]
            exact .inr ⟨i + d, by omega, rfl⟩
          · rw [if_neg e]
            exact ih2 hj h
/-- a falling row as the places that are in it -/
theorem filter_desc : ∀ (i : Nat) (st : List Nat), st.Pairwise (· > ·) → (∀ b ∈ st, b < i) → (List.range i).filter (fun a => decide (a ∈ st)) = st.reverse
  | 0, st, _, h => by
    cases st with
    | nil => rfl
    | cons b r => exact absurd (h b (List.mem_cons_self ..)) (Nat.not_lt_zero b)
  | i + 1, st, hs, h => by
    rw [List.range_succ, List.filter_append]
    by_cases hm : i ∈ st
    · cases st with
      | nil => exact (List.not_mem_nil hm).elim
      | cons b r =>
        obtain ⟨h1, h2⟩ := List.pairwise_cons.mp hs
        have hb : b = i := by
          rcases List.mem_cons.mp hm with z | z
          · exact z.symm
          · have := h1 i z
            have := h b (List.mem_cons_self ..)
            omega
        subst hb
        have ih := filter_desc b r h2 (fun c hc => h1 c hc)
        have e : (List.range b).filter (fun a => decide (a ∈ b :: r)) = (List.range b).filter (fun a => decide (a ∈ r)) := by
          refine List.filter_congr fun a ha => ?_
          have := List.mem_range.mp ha
          have : (a ∈ b :: r) ↔ a ∈ r := ⟨fun z => (List.mem_cons.mp z).resolve_left (by omega), fun z => List.mem_cons_of_mem _ z⟩
          simp only [this]
        rw [e, ih, List.reverse_cons, List.filter_cons, if_pos (decide_eq_true hm)]
        rfl
    · have ih := filter_desc i st hs (fun b hb => by
        have := h b hb
        have : b ≠ i := fun z => hm (z ▸ hb)
        omega)
      rw [ih, List.filter_cons, if_neg (by rw [decide_eq_false hm]; exact Bool.false_ne_true)]
      exact List.append_nil _
/-- the opens ahead of a place that are answered behind it, or never, are those that wait -/
theorem waits (kf : Nat → Kd) (n i : Nat) (hi : i ≤ n) : (List.range i).filter (fun a => decide (kf a = .op) && (decide (tv (run kf n n).1 a = none) || decide (∃ m, tv (run kf n n).1 a = some m ∧ i ≤ m))) = (run kf n i).2.reverse := by
  have G := good_run kf n i hi
  rw [← filter_desc i _ G.srt fun b hb => (G.bd b hb).1]
  refine List.filter_congr fun a ha => ?_
  have ha := List.mem_range.mp ha
  obtain ⟨l1, l2⟩ := run_later kf n i a (n - i) (by omega)
  rw [show i + (n - i) = n by omega] at l1 l2
  rw [Bool.eq_iff_iff]
  simp only [Bool.and_eq_true, Bool.or_eq_true, decide_eq_true_eq]
  constructor
  · rintro ⟨ho, hn⟩
    refine G.opn a ha ho ?_
    cases e : tv (run kf n i).1 a with
    | none => rfl
    | some m =>
      have e' := l1 m e
      have := (G.pr a m e).2.1
      rcases hn with z | ⟨m', z, hm⟩
      · rw [e'] at z
        cases z
      · rw [e'] at z
        have := Option.some.inj z
        omega
  · intro hm
    obtain ⟨_, h2, h3⟩ := G.bd a hm
    refine ⟨h2, ?_⟩
    rcases l2 ha h3 with z | ⟨m, hm, z⟩
    · exact .inl z
    · exact .inr ⟨m, z, hm⟩
def dep (kf : Nat → Kd) (n : Nat) : Nat → Nat
  | 0 => 0
  | i + 1 => max (dep kf n i) (run kf n (i + 1)).2.length
theorem dep_ge (kf : Nat → Kd) (n : Nat) : ∀ i, (run kf n i).2.length ≤ dep kf n i
  | 0 => Nat.le_refl _
  | i + 1 => Nat.le_max_right _ _
end Eh
set_option Elab.async false
set_option linter.all false
set_option maxRecDepth 100000
set_option maxHeartbeats 4000000
namespace Eh
open PySem PySem.Spec PyProof.Rows L2 Evl
def kdOf (os qs : List Str) (x : Str) : Kd := if x ∈ os then .op else if x ∈ qs then .cl else .pl
def kfOf (os qs ws : List Str) (i : Nat) : Kd := match ws[i]? with
  | some x => kdOf os qs x
  | none => .pl
theorem kfOf_at {os qs ws : List Str} {i : Nat} {x : Str} (h : ws[i]? = some x) : kfOf os qs ws i = kdOf os qs x := by
  unfold kfOf
  rw [h]
theorem inV_str (x : Str) : ∀ os : List Str, inV (.str x) (os.map V.str) = decide (x ∈ os)
  | [] => rfl
  | y :: r => by
    show (eqV (.str y) (.str x) || inV (.str x) (r.map V.str)) = _
    rw [inV_str x r, show eqV (.str y) (.str x) = (y == x) from rfl]
    by_cases e : y = x
    · subst e
      simp
    · have e' : ¬ x = y := fun z => e z.symm
      simp [e, e']
theorem flat_str (os : List Str) : (os.map V.str).all flatV = true := by
  rw [List.all_eq_true]
  intro v hv
  obtain ⟨x, _, rfl⟩ := List.mem_map.mp hv
  rfl
def oV : Option Nat → V
  | none => .non
  | some j => .int (j : Int)
def nV (j : Nat) : V := .int (j : Int)
abbrev tO (t : List (Option Nat)) : HO := .lst (t.map oV)
abbrev tN (st : List Nat) : HO := .lst (st.map nV)
def ansOf (os qs ws : List Str) : List (Option Nat) := (run (kfOf os qs ws) ws.length ws.length).1
theorem flat_rep {α : Type} (x : α) : ∀ n, (List.replicate n [x]).flatten = List.replicate n x
  | 0 => rfl
  | n + 1 => by
    rw [List.replicate_succ, List.flatten_cons, flat_rep x n, List.replicate_succ]
    rfl
theorem Sht.apart {os ps qs : List Str} (h : Sht os ps qs) {x : Str} (h1 : x ∈ os) (h2 : x ∈ qs) : False := by
  have := List.nodup_append.mp h.nd
  exact this.2.2 x (List.mem_append.mpr (.inl h1)) x h2 rfl
theorem kd_op {os qs : List Str} {x : Str} : kdOf os qs x = .op ↔ x ∈ os := by
  unfold kdOf
  by_cases h : x ∈ os
  · rw [if_pos h]
    exact ⟨fun _ => h, fun _ => rfl⟩
  · rw [if_neg h]
    refine ⟨fun e => ?_, fun z => absurd z h⟩
    split at e <;> cases e
theorem kd_cl {os ps qs : List Str} (hS : Sht os ps qs) {x : Str} : kdOf os qs x = .cl ↔ x ∈ qs := by
  unfold kdOf
  by_cases h : x ∈ os
  · rw [if_pos h]
    exact ⟨fun e => (nomatch e), fun z => (hS.apart h z).elim⟩
  · rw [if_neg h]
    by_cases h2 : x ∈ qs
    · rw [if_pos h2]
      exact ⟨fun _ => h2, fun _ => rfl⟩
    · rw [if_neg h2]
      exact ⟨fun e => (nomatch e), fun z => absurd z h2⟩
theorem Sht.plain {os ps qs : List Str} (hS : Sht os ps qs) {x : Str} (h : x ∈ ps) : kdOf os qs x = .pl := by
  have h1 := List.nodup_append.mp hS.nd
  have h2 := List.nodup_append.mp h1.1
  unfold kdOf
  rw [if_neg (fun z => h2.2.2 x z x h rfl), if_neg (fun z => h1.2.2 x (List.mem_append.mpr (.inr h)) x z rfl)]
end Eh
set_option Elab.async false
set_option linter.all false
set_option maxRecDepth 100000
set_option maxHeartbeats 4000000
namespace Eh
open PySem PySem.Spec PyProof.Rows L2 Evl
/-! texts compared at depth -/
theorem strOk_ltr {x : Str} (h : ∀ c ∈ cs x, az c) : PyData.strOk x = true := by
  unfold PyData.strOk
  rw [Array.all_eq_true_iff_forall_mem]
  intro c hc
  have := (h c (by simpa using hc)).2
  simp
  omega
theorem dpStrs {K : PySem.W.Frag} {H : Hp} : ∀ ws : List Str, DpAll K H (ws.map V.str) (ws.map PyData.str)
  | [] => .nil
  | x :: r => .cons (.str x) (dpStrs r)
theorem layStrs : ∀ ws : List Str, (∀ x ∈ ws, ∀ c ∈ cs x, az c) → PyData.canLayAll0 (ws.map PyData.str) = true
  | [], _ => rfl
  | x :: r, h => by
    show (PyData.strOk x && PyData.canLayAll0 (r.map PyData.str)) = true
    rw [layStrs r fun y hy => h y (List.mem_cons_of_mem _ hy), strOk_ltr (h x (List.mem_cons_self ..))]
    rfl
theorem deepStrs : ∀ ws : List Str, PyData.depthAll (ws.map PyData.str) = 0
  | [] => rfl
  | x :: r => by
    show max 0 (PyData.depthAll (r.map PyData.str)) = 0
    rw [deepStrs r]
    rfl
theorem shapedT {ws : List Str} (h : ∀ x ∈ ws, ∀ c ∈ cs x, az c) : SeqAt.shaped (.tuple (ws.map PyData.str)) = true := by
  unfold SeqAt.shaped
  rw [show PyData.canLay0 (.tuple (ws.map PyData.str)) = true from layStrs ws h, show PyData.depth (.tuple (ws.map PyData.str)) = 1 by
    show PyData.depthAll (ws.map PyData.str) + 1 = 1
    rw [deepStrs]]
  rfl
theorem shapedL {ws : List Str} (h : ∀ x ∈ ws, ∀ c ∈ cs x, az c) : SeqAt.shaped (.list (ws.map PyData.str)) = true := by
  unfold SeqAt.shaped
  rw [show PyData.canLay0 (.list (ws.map PyData.str)) = true from layStrs ws h, show PyData.depth (.list (ws.map PyData.str)) = 1 by
    show PyData.depthAll (ws.map PyData.str) + 1 = 1
    rw [deepStrs]]
  rfl
theorem shapedT0 : SeqAt.shaped (.tuple []) = true := by decide +kernel
theorem eqv_nilT (ws : List Str) : PyData.eqv (.tuple (ws.map PyData.str)) (.tuple []) = decide (ws = []) := by
  cases ws with
  | nil => rfl
  | cons x r => exact (decide_eq_false (fun z => nomatch z)).symm
/-! a letter of one part drawn -/
theorem draw_rd {K : PySem.W.Frag} {p c s ad : Addr} {ns : List Int} {H : Hp} {σ : L2.St} {xs : List V} {ys : List Str} {Q : VK} {j : Nat} {z : Int} (hP : Pot p c ns H) (h0 : σ[0]? = some (some (.ref p))) (hj : σ[j]? = some (some (.ref s))) (hs : H s = some (.tup xs)) (ha : atI xs z = some (.ref ad)) (hy : H ad = some (.tup (ys.map V.str))) (y0 : ys ≠ []) (y1 : ys.length ≤ 1000)
    (k : ∀ x H', x ∈ ys → Keep p H H' → Pot p c ns H' → Q (.str x) H') : tOp (rIxT K) (tOp (rIxT K) (tVar j) (tC (.int z))) (tCall spPick [] E0 (tCons (tVar 0) (tCons (tCB (rLenS K) (tCons (tOp (rIxT K) (tVar j) (tC (.int z))) tNil)) tNil))) σ H Q := by
  have hl : 0 < ys.length := by
    cases ys with
    | nil => exact absurd rfl y0
    | cons _ _ => exact Nat.succ_pos _
  refine ⟨_, hj, s, xs, z, _, rfl, rfl, st_of hs, ha, _, h0, _, hj, s, xs, z, _, rfl, rfl, st_of hs, ha, ad, _, rfl, .inr (st_of hy), p, c, ns, _, rfl, ?_, ?_, hP, fun v H' hv kp hP' => ?_⟩
  · rw [List.length_map]
    omega
  · rw [List.length_map]
    omega
  · rw [List.length_map] at hv
    have hv' : v < ys.length := by omega
    refine ⟨ad, _, _, .str ys[v], rfl, rfl, st_of (kp _ _ (hP.ne_tup hy) hy), atI_nat ?_, k _ H' (List.getElem_mem hv') kp hP'⟩
    rw [List.getElem?_map, List.getElem?_eq_getElem hv']
    rfl
theorem app_rd {K : PySem.W.Frag} {p c s l ad : Addr} {ns : List Int} {H : Hp} {σ : L2.St} {xs : List V} {ys ws : List Str} {D : Ends} {z : Int} (hP : Pot p c ns H) (h0 : σ[0]? = some (some (.ref p))) (h1 : σ[1]? = some (some (.ref s))) (h3 : σ[3]? = some (some (.ref l))) (hs : H s = some (.tup xs)) (ha : atI xs z = some (.ref ad)) (hy : H ad = some (.tup (ys.map V.str))) (y0 : ys ≠ []) (y1 : ys.length ≤ 1000) (hl : H l = some (lS ws)) (hlp : l ≠ p) (hz : ws.length < 100000)
    (k : ∀ x H', x ∈ ys → Keep p H H' → Pot p c ns H' → D.nx σ (upd H' l (.lst (ws.map V.str ++ [.str x])))) : tDrop (tBM K "list" rAppend (tVar 3) (tCons (tOp (rIxT K) (tOp (rIxT K) (tVar 1) (tC (.int z))) (tCall spPick [] E0 (tCons (tVar 0) (tCons (tCB (rLenS K) (tCons (tOp (rIxT K) (tVar 1) (tC (.int z))) tNil)) tNil)))) tNil)) D σ H :=
  ⟨_, h3, .inl ⟨rfl, _, sq_of hl⟩, draw_rd hP h0 h1 hs ha hy y0 y1 fun x H6 hx kp6 hP6 => ⟨l, _, _, rfl, rfl, kp6 _ _ hlp hl, by rw [List.length_map]; exact sz_lt hz, k x H6 hx kp6 hP6⟩⟩
/-- how many opens wait behind letters; none where a close is bare -/
def bal (os qs : List Str) : List Str → Nat → Option Nat
  | [], n => some n
  | x :: r, n => match kdOf os qs x with
    | .op => bal os qs r (n + 1)
    | .pl => bal os qs r n
    | .cl => match n with
      | 0 => none
      | m + 1 => bal os qs r m
theorem bal_app (os qs : List Str) : ∀ (a b : List Str) (n : Nat), bal os qs (a ++ b) n = (bal os qs a n).bind (bal os qs b)
  | [], b, n => rfl
  | x :: r, b, n => by
    show bal os qs (x :: (r ++ b)) n = (bal os qs (x :: r) n).bind (bal os qs b)
    unfold bal
    cases kdOf os qs x with
    | op => exact bal_app os qs r b (n + 1)
    | pl => exact bal_app os qs r b n
    | cl =>
      cases n with
      | zero => rfl
      | succ m => exact bal_app os qs r b m
theorem bal_one_op {os qs : List Str} {x : Str} (h : x ∈ os) (n : Nat) : bal os qs [x] n = some (n + 1) := by
  unfold bal
  rw [kd_op.mpr h]
  rfl
theorem bal_one_cl {os ps qs : List Str} (hS : Sht os ps qs) {x : Str} (h : x ∈ qs) (n : Nat) : bal os qs [x] (n + 1) = some n := by
  unfold bal
  rw [(kd_cl hS).mpr h]
  rfl
theorem bal_one_pl {os ps qs : List Str} (hS : Sht os ps qs) {x : Str} (h : x ∈ ps) (n : Nat) : bal os qs [x] n = some n := by
  unfold bal
  rw [hS.plain h]
  rfl
abbrev nShut : List Str := ["pot", "sheet", "most", "word", "waiting", "turn", "way"]
theorem scShut : FnScope nShut ["pot", "sheet", "most"] (defScope sShut) := ⟨rfl, rfl, rfl, by decide +kernel, rfl, by decide +kernel, by decide +kernel⟩
theorem lS_add (ws : List Str) (x : Str) : HO.lst (ws.map V.str ++ [.str x]) = lS (ws ++ [x]) := by
  unfold lS
  rw [List.map_append]
  rfl
theorem Keep.fresh {p q : Addr} {H H' : Hp} (k : Keep p H H') (hq : q ≠ p) (h : H' q = none) : H q = none := by
  cases e : H q with
  | none => rfl
  | some o =>
    rw [k q o hq e] at h
    cases h
section
variable {P : Program} {w : World} {K : PySem.W.Frag} {mg : Str → Option Value} {base : Heap}
def spShut : Sp := fun vs H Q _ => ∃ (p c s : Addr) (ns : List Int) (os ps qs : List Str) (m : Nat), vs = [.ref p, .ref s, .int (m : Int)] ∧ m ≤ 1000 ∧ Pot p c ns H ∧ Sht os ps qs ∧ SheetAt H s os ps qs ∧
  ∀ (ws : List Str) l H', (∀ x ∈ ws, x ∈ os ++ ps ++ qs) → ws.length ≤ 2 * m → bal os qs ws 0 = some 0 → Keep p H H' → Pot p c ns H' → H l = none → H' l = some (lS ws) → Q (.ref l) H'
theorem ok_shut {f fP : Addr} {fd fdP : FuncData} {k : Nat} (F : Fun K "_law_shut" "_law_shut" sShut f fd) (FP : Fun K "_law_pick" "_law_pick" sPick fP fdP) (GP : FnOk P w K mg base CX0 (k + 1) fP fdP ["pot", "many"] spPick) (bP : Binds K fdP ["pot", "many"] []) (gP : mg "_law_pick" = some (.ref fP)) (ml : mg "len" = none) (mr : mg "range" = none) :
    FnOk P w K mg base CX0 (k + 2) f fd ["pot", "sheet", "most"] spShut := by
  have nd := scShut.nd
  refine F.ok scShut (fun vs H Q E h => ?_) (fun cdv A outer s H vs Q E hr h => ?_)
  · obtain ⟨p, c, s, ns, os, ps, qs, m, rfl, _⟩ := h
    rfl
  · obtain ⟨p, c, s, ns, os, ps, qs, m, rfl, m1, hP, hS, hs, q⟩ := h
    refine ⟨_, pss_cons (ps_set (i := 3) nd rfl (.inl rfl) (pe_lst pa_nil))
      (pss_cons (ps_set (i := 4) nd rfl (.inl rfl) pe_int)
      (pss_cons (ps_for PassesOwn.never rfl (pi_range1 (by rfl) mr (pa_cons (pe_call GP hr (by rfl) gP FP.kp bP .nil pass0 (pa_cons (pv 0) (pa_cons (pe_op op_add (pv 2) pe_int) pa_nil))) pa_nil)) (pg_name (i := 5) nd rfl (.inl rfl))
        (pss_cons (ps_set (i := 6) nd rfl (.inl rfl) (pe_call GP hr (by rfl) gP FP.kp bP .nil pass0 (pa_cons (pv 0) (pa_cons pe_int pa_nil))))
        (pss_one (ps_if (PW.pt (pw_or (pt_cmpR op_lt (pv 6) pe_int (nomark _)) (pw_or1 (PW.pt (pw_and (pt_cmpR (op_eqD hr.units) (pe_ix ix_tup (pv 1) pe_int (fun _ _ => rfl)) (pe_tup pa_nil) (nomark _)) (pw_and1 (pt_cmpR op_eq (pv 4) pe_int (nomark _))))))))
          (pss_cons (ps_expr (pe_bm PySem.F.plainAttrs_list PySem.F.slot_list_append PySem.F.type_list_append mt_append (pv 3) (pa_cons (pe_ix ix_tup (pe_ix ix_tup (pv 1) pe_int (fun _ _ => rfl)) (pe_call GP hr (by rfl) gP FP.kp bP .nil pass0 (pa_cons (pv 0) (pa_cons (pe_callB call_len_seq (by rfl) ml PySem.boot_len (pa_cons (pe_ix ix_tup (pv 1) pe_int (fun _ _ => rfl)) pa_nil)) pa_nil))) (fun _ _ => rfl)) pa_nil)))
          (pss_one (ps_set (i := 4) nd rfl (.inl rfl) (pe_op op_add (pv 4) pe_int))))
          (pss_one (ps_if (PW.pt (pw_or (PW.pt (pw_and (pt_cmpR op_eq (pv 6) pe_int (nomark _)) (pw_and1 (pt_cmpR (op_neD hr.units) (pe_ix ix_tup (pv 1) pe_int (fun _ _ => rfl)) (pe_tup pa_nil) (nomark _))))) (pw_or1 (pt_cmpR op_eq (pv 4) pe_int (nomark _)))))
            (pss_one (ps_expr (pe_bm PySem.F.plainAttrs_list PySem.F.slot_list_append PySem.F.type_list_append mt_append (pv 3) (pa_cons (pe_ix ix_tup (pe_ix ix_tup (pv 1) pe_int (fun _ _ => rfl)) (pe_call GP hr (by rfl) gP FP.kp bP .nil pass0 (pa_cons (pv 0) (pa_cons (pe_callB call_len_seq (by rfl) ml PySem.boot_len (pa_cons (pe_ix ix_tup (pv 1) pe_int (fun _ _ => rfl)) pa_nil)) pa_nil))) (fun _ _ => rfl)) pa_nil))))
            (pss_cons (ps_expr (pe_bm PySem.F.plainAttrs_list PySem.F.slot_list_append PySem.F.type_list_append mt_append (pv 3) (pa_cons (pe_ix ix_tup (pe_ix ix_tup (pv 1) pe_int (fun _ _ => rfl)) (pe_call GP hr (by rfl) gP FP.kp bP .nil pass0 (pa_cons (pv 0) (pa_cons (pe_callB call_len_seq (by rfl) ml PySem.boot_len (pa_cons (pe_ix ix_tup (pv 1) pe_int (fun _ _ => rfl)) pa_nil)) pa_nil))) (fun _ _ => rfl)) pa_nil)))
            (pss_one (ps_set (i := 4) nd rfl (.inl rfl) (pe_op op_sub (pv 4) pe_int))))))))))
      (pss_one (ps_ret (pe_op op_cat (pv 3) (pe_lc (own := [("turn", 5)]) (g := gName 5) (tt := tYes) (te := tOp (rIxT K) (tOp (rIxT K) (tVar 1) (tC (.int 2))) (tCall spPick [] E0 (tCons (tVar 0) (tCons (tCB (rLenS K) (tCons (tOp (rIxT K) (tVar 1) (tC (.int 2))) tNil)) tNil)))) rfl nd (pi_range1 (by rfl) mr (pa_cons (pv 4) pa_nil)) (blkOk_by (own := [("turn", 5)]) (N := nShut) (sc := defScope sShut) (by decide +kernel)) (fun _ _ _ _ _ => pg_name (i := 5) nd rfl (Or.inl rfl)) (fun _ _ _ _ _ => pts_nil)
        (fun _ _ _ _ _ => pe_ix ix_tup (pe_ix ix_tup (pv 1) pe_int (fun _ _ => rfl)) (pe_call GP hr (by rfl) gP FP.kp bP .nil pass0 (pa_cons (pv 0) (pa_cons (pe_callB call_len_seq (by rfl) ml PySem.boot_len (pa_cons (pe_ix ix_tup (pv 1) pe_int (fun _ _ => rfl)) pa_nil)) pa_nil))) (fun _ _ => rfl)))))))), ?_⟩
    refine ⟨Nat.zero_le _, fun l nl => ?_⟩
    have e1 : Ex H (upd H l (lS [])) := Ex.new nl
    have hpl := hP.ne_new nl
    refine ⟨_, rfl, _, rfl, _, _, rfl, rfl, p, c, ns, _, rfl, by omega, by omega, hP.ex e1, fun n H2 hn kp2 hP2 => ?_⟩
    have kH2 : Keep p H H2 := (Keep.ofEx e1).trans kp2
    refine ⟨_, rfl, by omega, by omega, for_range (lo := 0) (n := ((n : Int)).toNat) (fun i σ H' => ∃ (wt : Nat) (ws : List Str), (∃ y5 y6, σ = [some (.ref p), some (.ref s), some (.int (m : Int)), some (.ref l), some (nV wt), y5, y6]) ∧ wt ≤ i ∧ ws.length = i ∧ (∀ x ∈ ws, x ∈ os ++ ps ++ qs) ∧ bal os qs ws 0 = some wt ∧ Keep p H H' ∧ Pot p c ns H' ∧ H' l = some (lS ws)) ?_ ?_ ?_⟩
    · exact ⟨0, [], ⟨_, _, rfl⟩, Nat.le_refl _, rfl, fun x hx => (List.not_mem_nil hx).elim, rfl, kH2, hP2, kp2 _ _ hpl.1.symm upd_same⟩
    · rintro i σ H3 hi ⟨wt, ws, ⟨y5, y6, rfl⟩, hwt, hwl, hwm, hb, kp3, hP3, hl3⟩
      have hi' : i < 1001 := by omega
      refine ⟨_, rfl, p, c, ns, 5, rfl, by decide, by decide, hP3, fun way H4 hway kp4 hP4 => ?_⟩
      have kp04 := kp3.trans kp4
      have hl4 : H4 l = some (lS ws) := kp4 _ _ hpl.1.symm hl3
      obtain ⟨ao, ap, ac, g0, g1, g2, g3⟩ := (hs.keep hP kp3).keep hP3 kp4
      have hps : ∀ x ∈ ps, ∀ d ∈ cs x, az d := fun x hx => (hS.lt x (List.mem_append.mpr (.inl (List.mem_append.mpr (.inr hx))))).1
      -- what each way adds
      have fin : ∀ (z : Str) (wt' : Nat) (H5 : Hp), z ∈ os ++ ps ++ qs → bal os qs [z] wt = some wt' → wt' ≤ i + 1 → Keep p H4 H5 → Pot p c ns H5 → ∀ y5 y6, ∃ (wt2 : Nat) (ws2 : List Str), (∃ y5' y6', [some (V.ref p), some (.ref s), some (.int (m : Int)), some (.ref l), some (nV wt'), y5, y6] = [some (.ref p), some (.ref s), some (.int (m : Int)), some (.ref l), some (nV wt2), y5', y6']) ∧ wt2 ≤ i + 1 ∧ ws2.length = i + 1 ∧ (∀ x ∈ ws2, x ∈ os ++ ps ++ qs) ∧ bal os qs ws2 0 = some wt2 ∧ Keep p H (upd H5 l (.lst (ws.map V.str ++ [.str z]))) ∧ Pot p c ns (upd H5 l (.lst (ws.map V.str ++ [.str z]))) ∧ (upd H5 l (.lst (ws.map V.str ++ [.str z]))) l = some (lS ws2) := by
        intro z wt' H5 hz hbz hw' kp5 hP5 y5 y6
        refine ⟨wt', ws ++ [z], ⟨_, _, rfl⟩, hw', by rw [List.length_append, hwl]; rfl, fun x hx => ?_, ?_, (kp04.trans kp5).new nl, hP5.new hpl.1 hpl.2, ?_⟩
        · rcases List.mem_append.mp hx with a | a
          · exact hwm x a
          · rw [List.mem_singleton.mp a]
            exact hz
        · rw [bal_app, hb]
          exact hbz
        · rw [upd_same, lS_add]
      have wsz : ws.length < 100000 := by omega
      have o0 : os ≠ [] := fun z => by have := hS.o1; rw [z] at this; exact absurd this (by decide)
      have c0 : qs ≠ [] := fun z => by have := hS.c1; rw [z] at this; exact absurd this (by decide)
      have o4 := hS.o4
      have p4 := hS.p4
      have c4 := hS.c4
      have mo : ∀ x, x ∈ os → x ∈ os ++ ps ++ qs := fun x hx => List.mem_append.mpr (.inl (List.mem_append.mpr (.inl hx)))
      have mp : ∀ x, x ∈ ps → x ∈ os ++ ps ++ qs := fun x hx => List.mem_append.mpr (.inl (List.mem_append.mpr (.inr hx)))
      have mc : ∀ x, x ∈ qs → x ∈ os ++ ps ++ qs := fun x hx => List.mem_append.mpr (.inr hx)
      have tst : ∀ (H5 : Hp), Ex H4 H5 → ∀ (σ' : L2.St), σ'[1]? = some (some (.ref s)) → Ev (tOp (rEqD K) (tOp (rIxT K) (tVar 1) (tC (.int 1))) (tTup tNil)) σ' H5 (.bl (decide (ps = []))) ∧ Ev (tOp (rNeD K) (tOp (rIxT K) (tVar 1) (tC (.int 1))) (tTup tNil)) σ' H5 (.bl (!decide (ps = []))) := fun H5 e5 σ' h1 => by
        constructor
        · refine ev_opU (ev_op (ev_var h1) ev_c (rv_ixT (st_of (e5 _ _ g0)) (show atI [V.ref ao, .ref ap, .ref ac] 1 = some (.ref ap) from rfl))) (eu_tup ea_nil (by decide)) fun u H6 hu e6 => ?_
          refine fun H7 e7 Q qq => ⟨.tuple (ps.map PyData.str), .tuple [], .tup (st_of (e7 _ _ (e6 _ _ (e5 _ _ g2)))) (dpStrs ps), .tup (st_of (e7 _ _ hu)) .nil, shapedT hps, shapedT0, ?_⟩
          rw [eqv_nilT]
          exact qq H7 (Ex.refl _)
        · refine ev_opU (ev_op (ev_var h1) ev_c (rv_ixT (st_of (e5 _ _ g0)) (show atI [V.ref ao, .ref ap, .ref ac] 1 = some (.ref ap) from rfl))) (eu_tup ea_nil (by decide)) fun u H6 hu e6 => ?_
          refine fun H7 e7 Q qq => ⟨.tuple (ps.map PyData.str), .tuple [], .tup (st_of (e7 _ _ (e6 _ _ (e5 _ _ g2)))) (dpStrs ps), .tup (st_of (e7 _ _ hu)) .nil, shapedT hps, shapedT0, ?_⟩
          rw [eqv_nilT]
          exact qq H7 (Ex.refl _)
      have wz : decide (nV wt = .int 0) = decide (wt = 0) := by
        by_cases z : wt = 0
        · subst z
          rfl
        · rw [decide_eq_false z, decide_eq_false (fun e => z (by have := V.int.inj e; omega))]
      refine s_if (b := decide ((way : Int) < 2) || (decide (ps = []) && decide (nV wt = .int 0))) (et_or (et_test (ev_op (ev_var rfl) ev_c rv_I0)) (fun _ => et_and (et_test (tst H4 (Ex.refl _) _ rfl).1) (fun _ => et_test (ev_op (ev_var rfl) ev_c (rv_eq rfl))))) (fun hb1 H5 e5 => ?_) (fun hb1 H5 e5 => ?_)
      · refine app_rd (hP4.ex e5) rfl rfl rfl (e5 _ _ g0) (show atI [V.ref ao, .ref ap, .ref ac] 0 = some (.ref ao) from rfl) (e5 _ _ g1) o0 (by omega) (e5 _ _ hl4) hpl.1.symm wsz fun x H6 hx kp6 hP6 => ?_
        exact ⟨_, rfl, _, _, rfl, rfl, fin x (wt + 1) H6 (mo x hx) (bal_one_op hx _) (by omega) ((Keep.ofEx e5).trans kp6) hP6 _ _⟩
      · rw [wz, Bool.or_eq_false_iff, Bool.and_eq_false_iff] at hb1
        refine s_if (b := (decide (V.int (way : Int) = .int 2) && !decide (ps = [])) || decide (nV wt = .int 0)) (et_or (et_and (et_test (ev_op (ev_var rfl) ev_c (rv_eq rfl))) (fun _ => et_test (tst H5 e5 _ rfl).2)) (fun _ => et_test (ev_op (ev_var rfl) ev_c (rv_eq rfl)))) (fun hb2 H6 e6 => ?_) (fun hb2 H6 e6 => ?_)
        · have p0 : ps ≠ [] := fun z => by
            rw [wz, Bool.or_eq_true, Bool.and_eq_true] at hb2
            rcases hb2 with ⟨_, h2⟩ | h2
            · rw [decide_eq_true z] at h2
              exact absurd h2 (by decide)
            · rcases hb1.2 with h3 | h3
              · rw [decide_eq_true z] at h3
                exact absurd h3 (by decide)
              · rw [h2] at h3
                cases h3
          have e56 := e5.trans e6
          exact app_rd (hP4.ex e56) rfl rfl rfl (e56 _ _ g0) (show atI [V.ref ao, .ref ap, .ref ac] 1 = some (.ref ap) from rfl) (e56 _ _ g2) p0 (by omega) (e56 _ _ hl4) hpl.1.symm wsz fun x H7 hx kp7 hP7 => fin x wt H7 (mp x hx) (bal_one_pl hS hx _) (by omega) ((Keep.ofEx e56).trans kp7) hP7 _ _
        · rw [wz, Bool.or_eq_false_iff] at hb2
          have w0 : wt ≠ 0 := of_decide_eq_false hb2.2
          obtain ⟨w', rfl⟩ : ∃ w', wt = w' + 1 := ⟨wt - 1, by omega⟩
          have e56 := e5.trans e6
          refine app_rd (hP4.ex e56) rfl rfl rfl (e56 _ _ g0) (show atI [V.ref ao, .ref ap, .ref ac] 2 = some (.ref ac) from rfl) (e56 _ _ g3) c0 (by omega) (e56 _ _ hl4) hpl.1.symm wsz fun x H7 hx kp7 hP7 => ?_
          have ew : ((w' + 1 : Nat) : Int) - 1 = (w' : Int) := by omega
          refine ⟨_, rfl, _, _, rfl, rfl, ?_⟩
          show ∃ (wt : Nat) (ws : List Str), (∃ y5 y6, [some (V.ref p), some (.ref s), some (.int (m : Int)), some (.ref l), some (.int (((w' + 1 : Nat) : Int) - 1)), _, _] = _) ∧ _
          rw [ew]
          exact fin x w' H7 (mc x hx) (bal_one_cl hS hx _) (by omega) ((Keep.ofEx e56).trans kp7) hP7 _ _
    · rintro σ H3 ⟨wt, ws, ⟨y5, y6, rfl⟩, hwt, hwl, hwm, hb, kp3, hP3, hl3⟩
      obtain ⟨ao, ap, ac, g0, g1, g2, g3⟩ := hs.keep hP kp3
      have c0 : qs ≠ [] := fun z => by have := hS.c1; rw [z] at this; exact absurd this (by decide)
      have c4 := hS.c4
      have hwn : wt ≤ n := by
        rw [Int.toNat_natCast] at hwt
        exact hwt
      have hln : ws.length = n := by
        rw [Int.toNat_natCast] at hwl
        exact hwl
      refine ⟨_, rfl, _, rfl, (wt : Int), rfl, by omega, by omega, fun D nD => ?_⟩
      have hpD := hP3.ne_new nD
      have nDH : H D = none := kp3.fresh hpD.1.symm nD
      have nlD : l ≠ D := ne_of_none hl3 nD
      refine lc_range (lo := 0) (n := ((wt : Int)).toNat) (fun i H' => ∃ ds : List Str, ds.length = i ∧ (∀ d ∈ ds, d ∈ qs) ∧ H' D = some (lS ds) ∧ Keep p H3 H' ∧ Pot p c ns H') ?_ ?_ ?_
      · exact ⟨[], rfl, fun d hd => (List.not_mem_nil hd).elim, upd_same, (Keep.refl p H3).new nD, hP3.new hpD.1 hpD.2⟩
      · rintro i H' hi ⟨ds, hds, hdm, hD, kp, hP'⟩
        refine ⟨rfl, yesT (draw_rd hP' rfl rfl (kp _ _ (hP3.ne_tup g0) g0) (show atI [V.ref ao, .ref ap, .ref ac] 2 = some (.ref ac) from rfl) (kp _ _ (hP3.ne_tup g3) g3) c0 (by omega) fun x H2' hx kp2' hP2' => ?_)⟩
        refine ⟨_, kp2' _ _ hpD.1.symm hD, ?_, ds ++ [x], ?_, ?_, ?_, (kp.trans kp2').new nD, hP2'.new hpD.1 hpD.2⟩
        · rw [List.length_map]
          exact sz_lt (by omega)
        · rw [List.length_append, hds]
          rfl
        · intro d hd
          rcases List.mem_append.mp hd with a | a
          · exact hdm d a
          · rw [List.mem_singleton.mp a]
            exact hx
        · rw [upd_same, lS_add]
      · rintro H5 ⟨ds, hds, hdm, hD, kp5, hP5⟩
        rw [Int.toNat_natCast] at hds
        have hl5 : H5 l = some (lS ws) := kp5 _ _ hpl.1.symm hl3
        refine ⟨l, D, _, _, rfl, rfl, hl5, hD, ?_, fun r nr => ?_⟩
        · rw [List.length_map, List.length_map]
          exact sz_of (by omega)
        · have kp05 := kp3.trans kp5
          have hpr := hP5.ne_new nr
          refine q (ws ++ ds) r _ (fun x hx => ?_) ?_ ?_ (kp05.new (kp05.fresh hpr.1.symm nr)) (hP5.new hpr.1 hpr.2) (kp05.fresh hpr.1.symm nr) ?_
          · rcases List.mem_append.mp hx with a | a
            · exact hwm x a
            · exact List.mem_append.mpr (.inr (hdm x a))
          · rw [List.length_append]
            omega
          · rw [bal_app, hb]
            show bal os qs ds wt = some 0
            rw [← hds]
            clear hD hds hpD nDH nlD kp5 hP5 hl5 kp05 nr hpr
            induction ds with
            | nil => rfl
            | cons d r ih =>
              have h1 := bal_app os qs [d] r (d :: r).length
              rw [List.singleton_append, List.length_cons, bal_one_cl hS (hdm d (List.mem_cons_self ..))] at h1
              rw [List.length_cons, h1]
              exact ih fun x hx => hdm x (List.mem_cons_of_mem _ hx)
          · rw [upd_same, ← List.map_append]
end
end Eh
set_option Elab.async false
set_option linter.all false
set_option maxRecDepth 100000
set_option maxHeartbeats 4000000
namespace Eh
open PySem PySem.Spec PyProof.Rows L2 Evl
theorem seq_list_iadd : seqSlot? (.type "list") (dunderI "add") = pure (some (.builtin "list.__iadd__")) := PySem.seqSlot_of PySem.F.slot_list_iadd.lookup (by decide +kernel)
theorem iconcat_list {M : Model} {A : Around} {E : Value → Shared → Prop} {s : Shared} {a b : Value} {Q : Value → Shared → Prop} (ha : s.TypeIs a "list") (hb : s.TypeIs b "list")
    (hc : wpAny M A (call (.builtin "list.__iadd__") [a, b]) Q E s) : wpAny M A (inplaceOp .Add a b) Q E s := by
  unfold inplaceOp
  refine wpAny_holding ?_
  have hfi : fillsInplaceSlot (.type "list") "add" (Operator.Add == .Add) = pure false := by
    unfold fillsInplaceSlot
    show (typeLookup (.type "list") (dunderI "add") >>= fun fi => pure (fi.isSome && !isSeqSlot fi)) = pure false
    rw [PySem.F.slot_list_iadd.lookup, pure_bind]
    rw [show isSeqSlot (some (.builtin "list.__iadd__")) = true by decide +kernel]
    rfl
  refine wpAny_bind (wpAny_typeOf ha (wpAny_bind (wpAny_of_eq hfi ?_)))
  show wpAny M A (if false = true then _ else _) Q E s
  rw [if_neg Bool.false_ne_true]
  refine wpAny_bind (wpAny_binaryOp1_none (nm := "add") ha hb noFill_list_add ?_)
  refine wpAny_bind (wpAny_of_eq seq_list_iadd ?_)
  exact wpAny_bind (wpAny_rule hc)
/-- x += y of two lists: x itself grows -/
def ipL : TIp := fun x y H Q => ∃ l b xs zs, x = .ref l ∧ y = .ref b ∧ H l = some (.lst xs) ∧ H b = some (.lst zs) ∧ xs.length + zs.length ≤ sizeLine ∧ Q (.ref l) (upd H l (.lst (xs ++ zs)))
theorem ip_cat {X : Cx} : PIp X .Add ipL := by
  intro pins s σ H x y v u Q I rx ry hyp
  obtain ⟨l, b, xs, zs, rfl, rfl, hH, hB, hz, q⟩ := hyp
  cases rx
  cases ry
  obtain ⟨z1, its, n, r, hl, e⟩ := I.lstM hH
  obtain ⟨z2, its2, n2, r2, hl2, e2⟩ := I.lstM hB
  have hs : its.toArray.size + its2.toArray.size ≤ sizeLine := by rw [List.size_toArray, List.size_toArray]; omega
  have hnl : ¬ (!its.toArray.isEmpty && Builtin.List.listTooLong (its.toArray.size + its2.toArray.size)) = true := by rw [notLongL hs, Bool.and_false]; exact Bool.false_ne_true
  refine iconcat_list ⟨_, e, rfl⟩ ⟨_, e2, rfl⟩ (call_meets PySem.F.slot_list_iadd ⟨_, e, rfl⟩ PySem.F.entry_list_iadd (PySem.F.args_list_iadd_2 _ _) (AutoSeq1.list___iadd___list_list_0 l its.toArray n b its2.toArray n2 hnl (by rw [List.size_toArray]; omega) (by omega)) ⟨e, e2, ?_⟩)
  exact ⟨.ref l, _, I.lset (its' := its ++ its2) hH e (by simp) (r.append r2) (by rw [List.length_append]; omega), rfl, q⟩
end Eh
set_option Elab.async false
set_option linter.all false
set_option maxRecDepth 100000
set_option maxHeartbeats 4000000
namespace Eh
open PySem PySem.Spec PyProof.Rows L2 Evl
section
variable {P : Program} {w : World} {K : PySem.W.Frag} {mg : Str → Option Value} {base : Heap}
def spPickW : Sp := fun vs H Q _ => ∃ (p c : Addr) (ns : List Int) (m : Int), vs = [.ref p, .int m] ∧ 0 < m ∧ m.natAbs.log2 < 9000 ∧ Pot p c ns H ∧ ∀ (v : Nat) H', (v : Int) < m → Keep p H H' → Pot p c ns H' → Q (.int v) H'
theorem ok_pickW {f fB : Addr} {fd fdB : FuncData} {k : Nat} (F : Fun K "_law_pick" "_law_pick" sPick f fd) (FB : Fun K "_law_blend" "_law_blend" sBlend fB fdB) (bB : Binds K fdB ["cell", "at"] []) (gB : mg "_law_blend" = some (.ref fB)) (ml : mg "len" = none) :
    FnOk P w K mg base CX0 (k + 2) f fd ["pot", "many"] spPickW := by
  have GB : FnOk P w K mg base CX0 (k + 1) fB fdB ["cell", "at"] spBlend := ok_blend FB
  have nd := scPick.nd
  refine F.ok scPick (fun vs H Q E h => ?_) (fun cdv A outer s H vs Q E hr h => ?_)
  · obtain ⟨p, c, ns, m, rfl, _⟩ := h
    rfl
  · obtain ⟨p, c, ns, m, rfl, m0, m1, hP, q⟩ := h
    refine ⟨_, pss_cut (ps_if (pt_cmpR op_lt (pe_ix ix_list (pv 0) pe_int (fun _ _ => rfl)) (pv 1) (nomark _))
       (pss_cons (ps_set (i := 2) nd rfl (.inl rfl) (pe_ix ix_list (pv 0) pe_int (fun _ _ => rfl)))
       (pss_cons (ps_set (i := 3) nd rfl (.inl rfl) (pe_op op_mul pe_int (pv 2)))
       (pss_cut (ps_if (pt_cmpR op_lt (pv 2) (pe_callB call_len_seq (by rfl) ml PySem.boot_len (pa_cons (pe_ix ix_list (pv 0) pe_int (fun _ _ => rfl)) pa_nil)) (nomark _))
            (pss_one (ps_set (i := 3) nd rfl (.inl rfl) (pe_ix ix_list (pe_ix ix_list (pv 0) pe_int (fun _ _ => rfl)) (pv 2) (fun _ _ => rfl))))
            (pss_one (ps_if (pt_cmpR (op_neD hr.units) (pe_ix ix_list (pv 0) pe_int (fun _ _ => rfl)) (pe_lst pa_nil) (nomark _))
              (pss_one (ps_set (i := 3) nd rfl (.inl rfl) (pe_op op_mod (pe_ix ix_list (pe_ix ix_list (pv 0) pe_int (fun _ _ => rfl)) (pe_op op_mod (pe_op op_add (pe_op op_mul (pv 2) pe_int) pe_int) (pe_callB call_len_seq (by rfl) ml PySem.boot_len (pa_cons (pe_ix ix_list (pv 0) pe_int (fun _ _ => rfl)) pa_nil))) (fun _ _ => rfl)) (pe_op op_add (pe_op op_pow pe_int pe_int) (pe_op op_mul pe_int (pv 2)))))) pss_nil)))
       (pss_cons (ps_asg (pe_op op_add (pv 2) pe_int) (pg_sub (pv 0) pe_int set_list))
       (pss_one (ps_asg (pe_call GB hr (by rfl) gB FB.kp bB .nil pass0 (pa_cons (pv 3) (pa_cons (pv 2) pa_nil))) (pg_sub (pv 0) pe_int set_list)))))))
       pss_nil)
      (pss_cons (ps_set (i := 4) nd rfl (.inl rfl) (pe_op op_mod (pe_ix ix_list (pv 0) pe_int (fun _ _ => rfl)) (pv 1)))
      (pss_cons (ps_asg (pe_op op_fdivW (pe_ix ix_list (pv 0) pe_int (fun _ _ => rfl)) (pv 1)) (pg_sub (pv 0) pe_int set_list))
      (pss_one (ps_ret (pv 4))))), ?_⟩
    have hne := hP.ne
    obtain ⟨a, r, a0, hp, hc⟩ := hP
    refine ⟨fun σ' H' => (∃ y2 y3, σ' = [some (.ref p), some (.int m), y2, y3, none]) ∧ Keep p H H' ∧ Pot p c ns H', ?_, ?_⟩
    · refine ⟨_, rfl, p, _, 2, .int r, rfl, rfl, sq_of hp, rfl, _, rfl, _, _, rfl, rfl, _, rfl, ite2 (fun e => ?_) (fun e => ?_)⟩
      · refine ⟨_, rfl, p, _, 1, .int a, rfl, rfl, sq_of hp, rfl, ?_⟩
        refine ⟨_, rfl, _, _, rfl, rfl, .inl ⟨by decide, by decide⟩, ?_⟩
        refine ⟨fun σ' H' => ∃ y3 : Int, σ' = [some (.ref p), some (.int m), some (.int a), some (.int y3), none] ∧ Ex H H', ?_, ?_⟩
        · refine ⟨_, rfl, _, rfl, p, _, 0, .ref c, rfl, rfl, sq_of hp, rfl, c, _, rfl, .inl (sq_of hc), _, _, rfl, rfl, _, rfl, ite2 (fun e => ?_) (fun e => ?_)⟩
          · have ha : a < (ns.map V.int).length := of_decide_eq_true e
            have hb : a.toNat < ns.length := by
              rw [List.length_map] at ha
              omega
            refine ⟨_, rfl, p, _, 0, .ref c, rfl, rfl, sq_of hp, rfl, _, rfl, c, _, a, .int ns[a.toNat], rfl, rfl, sq_of hc, at_of (j := a.toNat) (by omega) ?_, _, rfl, Ex.refl _⟩
            rw [List.getElem?_map, List.getElem?_eq_getElem hb]
            rfl
          · refine ⟨_, rfl, p, _, 0, .ref c, rfl, rfl, sq_of hp, rfl, Nat.zero_le _, fun u hu => ?_⟩
            have e1 : Ex H (upd H u (.lst [])) := Ex.new hu
            refine ⟨.list (ns.map PyData.int), .list [], .lst (sq_of (e1 _ _ hc)) (dpInts ns), .lst (sq_of upd_same) .nil, shapedInts ns, shapedNil, _, rfl, ite2 (fun e => ?_) (fun e => ?_)⟩
            · have h0 : 0 < ns.length := by
                cases ns with
                | nil => exact absurd e (by decide)
                | cons x t => exact Nat.succ_pos _
              have hl : (0 : Int) < ((ns.map V.int).length : Int) := by
                rw [List.length_map]
                omega
              have g0 := Int.emod_nonneg (a * 7 + 1) (show ((ns.map V.int).length : Int) ≠ 0 by omega)
              have g1 := Int.emod_lt_of_pos (a * 7 + 1) hl
              have hb : ((a * 7 + 1) % ((ns.map V.int).length : Int)).toNat < ns.length := by
                rw [List.length_map] at g0 g1 ⊢
                omega
              refine ⟨_, rfl, p, _, 0, .ref c, rfl, rfl, sq_of (e1 _ _ hp), rfl, _, rfl, _, _, rfl, rfl, .inr ⟨by decide, by decide⟩, _, _, rfl, rfl, _, rfl, p, _, 0, .ref c, rfl, rfl, sq_of (e1 _ _ hp), rfl, c, _, rfl, .inl (sq_of (e1 _ _ hc)), _, _, rfl, rfl, hl, c, _, _, .int ns[((a * 7 + 1) % ((ns.map V.int).length : Int)).toNat], rfl, rfl, sq_of (e1 _ _ hc), at_of (j := ((a * 7 + 1) % ((ns.map V.int).length : Int)).toNat) (by omega) ?_, _, _, rfl, rfl, ⟨by decide, by decide, by decide⟩, _, rfl, _, _, rfl, rfl, .inl ⟨by decide, by decide⟩, _, _, rfl, rfl, _, _, rfl, rfl, ?_, _, rfl, e1⟩
              · rw [List.getElem?_map, List.getElem?_eq_getElem hb]
                rfl
              · show (0 : Int) < 10 ^ (17 : Int).toNat + 3 * a
                have : (10 : Int) ^ (17 : Int).toNat = 100000000000000000 := by decide
                omega
            · exact ⟨_, rfl, e1⟩
        · rintro σ' H' ⟨y3, rfl, e1⟩
          refine ⟨_, rfl, _, _, rfl, rfl, _, rfl, p, _, 1, 1, rfl, rfl, e1 _ _ hp, rfl, ?_⟩
          refine ⟨_, rfl, _, rfl, _, _, rfl, fun v => ⟨_, rfl, p, _, 2, 2, rfl, rfl, upd_same, rfl, ⟨_, _, rfl⟩, ?_, a + 1, v, by omega, upd_same, ?_⟩⟩
          · exact ((Keep.ofEx e1).at).at
          · rw [upd_ne hne, upd_ne hne]
            exact e1 _ _ hc
      · exact ⟨⟨_, _, rfl⟩, Keep.refl _ _, a, r, a0, hp, hc⟩
    · rintro σ' H' ⟨⟨y2, y3, rfl⟩, kp, a', r', a0', hp', hc'⟩
      have g0 := Int.emod_nonneg r' (show m ≠ 0 by omega)
      have g1 := Int.emod_lt_of_pos r' m0
      refine ⟨_, rfl, p, _, 2, .int r', rfl, rfl, sq_of hp', rfl, _, rfl, _, _, rfl, rfl, m0, ?_⟩
      refine ⟨_, rfl, p, _, 2, .int r', rfl, rfl, sq_of hp', rfl, _, rfl, _, _, rfl, rfl, ⟨m0, m1⟩, _, rfl, p, _, 2, 2, rfl, rfl, hp', rfl, ?_⟩
      refine ⟨_, rfl, ?_⟩
      have e : r' % m = ((r' % m).toNat : Int) := by omega
      show Q (.int (r' % m)) _
      rw [e]
      refine q _ _ (by omega) kp.at ⟨a', r' / m, a0', upd_same, ?_⟩
      rw [upd_ne hne]
      exact hc'
end
end Eh
set_option Elab.async false
set_option linter.all false
set_option maxRecDepth 100000
set_option maxHeartbeats 4000000
namespace Eh
open PySem PySem.Spec PyProof.Rows L2 Evl
/-! great words as they stand on the heap, by the word that they write -/
def All2 (R : V → List Str → Prop) : List V → List (List Str) → Prop
  | [], [] => True
  | v :: vs, W :: Ws => R v W ∧ All2 R vs Ws
  | _, _ => False
theorem All2.len {R : V → List Str → Prop} : ∀ (vs : List V) (Ws : List (List Str)), All2 R vs Ws → vs.length = Ws.length
  | [], [], _ => rfl
  | v :: vs, W :: Ws, h => congrArg Nat.succ (All2.len vs Ws h.2)
  | [], _ :: _, h => h.elim
  | _ :: _, [], h => h.elim
theorem All2.mono {R R' : V → List Str → Prop} (k : ∀ v W, R v W → R' v W) : ∀ (vs : List V) (Ws : List (List Str)), All2 R vs Ws → All2 R' vs Ws
  | [], [], _ => trivial
  | v :: vs, W :: Ws, h => ⟨k v W h.1, All2.mono k vs Ws h.2⟩
  | [], _ :: _, h => h.elim
  | _ :: _, [], h => h.elim
theorem All2.at {R : V → List Str → Prop} : ∀ (vs : List V) (Ws : List (List Str)), All2 R vs Ws → ∀ (i : Nat) v, vs[i]? = some v → ∃ W, Ws[i]? = some W ∧ R v W
  | [], [], _, i, v, e => by simp at e
  | v :: vs, W :: Ws, h, 0, x, e => ⟨W, rfl, by rw [← Option.some.inj e]; exact h.1⟩
  | v :: vs, W :: Ws, h, i + 1, x, e => All2.at vs Ws h.2 i x e
  | [], _ :: _, h, _, _, _ => h.elim
  | _ :: _, [], h, _, _, _ => h.elim
theorem All2.mem {R : V → List Str → Prop} : ∀ (vs : List V) (Ws : List (List Str)), All2 R vs Ws → ∀ W ∈ Ws, ∃ v, R v W
  | [], [], _, W, hm => (List.not_mem_nil hm).elim
  | v :: vs, W :: Ws, h, X, hm => by
    rcases List.mem_cons.mp hm with e | e
    · exact ⟨v, e ▸ h.1⟩
    · exact All2.mem vs Ws h.2 X e
  | [], _ :: _, h, _, _ => h.elim
  | _ :: _, [], h, _, _ => h.elim
theorem All2.snoc {R : V → List Str → Prop} {v : V} {W : List Str} (hv : R v W) : ∀ (vs : List V) (Ws : List (List Str)), All2 R vs Ws → All2 R (vs ++ [v]) (Ws ++ [W])
  | [], [], _ => ⟨hv, trivial⟩
  | x :: vs, X :: Ws, h => ⟨h.1, All2.snoc hv vs Ws h.2⟩
  | [], _ :: _, h => h.elim
  | _ :: _, [], h => h.elim
/-- a tuple's items xs, the parts in it, what these write, what it writes -/
inductive GS (os ls qs : List Str) (H : Hp) (R : V → List Str → Prop) : List V → List V → List (List Str) → List Str → Prop
  | word {u : Addr} {W : List Str} (hu : H u = some (.tup (W.map V.str))) (hl : W.length ≤ 60) (hm : ∀ x ∈ W, x ∈ os ++ ls ++ qs) (hb : bal os qs W 0 = some 0) : GS os ls qs H R [.str "word", .ref u] [] [] W
  | row {u : Addr} {ps : List V} {Ws : List (List Str)} (hu : H u = some (.tup ps)) (hr : All2 R ps Ws) (hl : ps.length ≤ 8) : GS os ls qs H R [.str "row", .ref u] ps Ws Ws.flatten
  | again {k : Nat} {p : V} {W : List Str} (hk : k < 2 ^ 200) (hr : R p W) : GS os ls qs H R [.str "again", .int (k : Int), p] [p] [W] (List.replicate k W).flatten
  | wrap {k : Nat} {a c : Str} {p : V} {W : List Str} (hk : k < 2 ^ 200) (ha : a ∈ os) (hc : c ∈ qs) (hr : R p W) : GS os ls qs H R [.str "wrap", .int (k : Int), .str a, p, .str c] [p] [W] (List.replicate k a ++ W ++ List.replicate k c)
theorem GS.parts {os ls qs : List Str} {H : Hp} {R : V → List Str → Prop} {xs ps : List V} {Ws : List (List Str)} {W : List Str} (h : GS os ls qs H R xs ps Ws W) : All2 R ps Ws ∧ ps.length ≤ 8 := by
  cases h with
  | word => exact ⟨trivial, Nat.zero_le _⟩
  | row hu hr hl => exact ⟨hr, hl⟩
  | again hk hr => exact ⟨⟨hr, trivial⟩, by show 1 ≤ 8; decide⟩
  | wrap hk ha hc hr => exact ⟨⟨hr, trivial⟩, by show 1 ≤ 8; decide⟩
theorem GS.keep {os ls qs : List Str} {H H' : Hp} {R R' : V → List Str → Prop} (k : ∀ b xs, H b = some (.tup xs) → H' b = some (.tup xs)) (kr : ∀ v W, R v W → R' v W) {xs ps : List V} {Ws : List (List Str)} {W : List Str} (h : GS os ls qs H R xs ps Ws W) : GS os ls qs H' R' xs ps Ws W := by
  cases h with
  | word hu hl hm hb => exact .word (k _ _ hu) hl hm hb
  | row hu hr hl => exact .row (k _ _ hu) (All2.mono kr _ _ hr) hl
  | again hk hr => exact .again hk (kr _ _ hr)
  | wrap hk ha hc hr => exact .wrap hk ha hc (kr _ _ hr)
/-- a great word, at most n within one another -/
def GAt (os ls qs : List Str) (H : Hp) : Nat → V → List Str → Prop
  | 0, _, _ => False
  | n + 1, v, W => ∃ t xs ps Ws, v = .ref t ∧ H t = some (.tup xs) ∧ GS os ls qs H (GAt os ls qs H n) xs ps Ws W
theorem GAt.keep {os ls qs : List Str} {H H' : Hp} (k : ∀ b xs, H b = some (.tup xs) → H' b = some (.tup xs)) : ∀ (n : Nat) (v : V) (W : List Str), GAt os ls qs H n v W → GAt os ls qs H' n v W
  | 0, _, _, h => h
  | n + 1, v, W, ⟨t, xs, ps, Ws, e, ht, hg⟩ => ⟨t, xs, ps, Ws, e, k _ _ ht, hg.keep k (GAt.keep k n)⟩
theorem GAt.ex {os ls qs : List Str} {H H' : Hp} (e : Ex H H') {n : Nat} {v : V} {W : List Str} (h : GAt os ls qs H n v W) : GAt os ls qs H' n v W := GAt.keep (fun b xs z => e b _ z) n v W h
theorem GAt.kp {os ls qs : List Str} {p c : Addr} {ns : List Int} {H H' : Hp} (hP : Pot p c ns H) (e : Keep p H H') {n : Nat} {v : V} {W : List Str} (h : GAt os ls qs H n v W) : GAt os ls qs H' n v W := GAt.keep (fun b xs z => e b _ (hP.ne_tup z) z) n v W h
theorem GAt.up {os ls qs : List Str} {H : Hp} : ∀ (n : Nat) (v : V) (W : List Str), GAt os ls qs H n v W → GAt os ls qs H (n + 1) v W
  | 0, _, _, h => h.elim
  | n + 1, v, W, ⟨t, xs, ps, Ws, e, ht, hg⟩ => ⟨t, xs, ps, Ws, e, ht, hg.keep (fun _ _ z => z) (GAt.up n)⟩
theorem GAt.le {os ls qs : List Str} {H : Hp} {n m : Nat} (h : n ≤ m) {v : V} {W : List Str} (e : GAt os ls qs H n v W) : GAt os ls qs H m v W := by
  induction h with
  | refl => exact e
  | step _ ih => exact GAt.up _ _ _ ih
theorem flat_len (Ws : List (List Str)) : Ws.flatten.length = (Ws.map List.length).sum := by
  induction Ws with
  | nil => rfl
  | cons x r ih => rw [List.flatten_cons, List.length_append, List.map_cons, List.sum_cons, ih]
theorem rep_len (k : Nat) (W : List Str) : (List.replicate k W).flatten.length = k * W.length := by
  rw [flat_len, List.map_replicate, List.sum_replicate_nat]
theorem sum_lt {B : Nat} (Ws : List (List Str)) (h : ∀ W ∈ Ws, W.length ≤ B) : (Ws.map List.length).sum ≤ Ws.length * B := by
  induction Ws with
  | nil => exact Nat.zero_le _
  | cons x r ih =>
    rw [List.map_cons, List.sum_cons, List.length_cons, Nat.succ_mul]
    have h1 := h x (List.mem_cons_self ..)
    have h2 := ih fun W hW => h W (List.mem_cons_of_mem _ hW)
    omega
theorem GAt.bits {os ls qs : List Str} {H : Hp} : ∀ (n : Nat) (v : V) (W : List Str), GAt os ls qs H n v W → W.length < 2 ^ (300 * n)
  | 0, _, _, h => h.elim
  | n + 1, v, W, ⟨t, xs, ps, Ws, e, ht, hg⟩ => by
    have e1 : 2 ^ (300 * (n + 1)) = 2 ^ 300 * 2 ^ (300 * n) := by rw [← Nat.pow_add]; congr 1; omega
    have p1 : 1 ≤ 2 ^ (300 * n) := Nat.one_le_two_pow
    rw [e1]
    generalize hB : 2 ^ (300 * n) = B at p1
    have ih : ∀ v W, GAt os ls qs H n v W → W.length ≤ B := fun v W h => by have := GAt.bits n v W h; omega
    have c1 : (2 : Nat) ^ 300 = 2037035976334486086268445688409378161051468393665936250636140449354381299763336706183397376 := by decide +kernel
    have c2 : (2 : Nat) ^ 200 = 1606938044258990275541962092341162602522202993782792835301376 := by decide +kernel
    rw [c1]
    cases hg with
    | word hu hl hm hb => omega
    | row hu hr hl =>
      rw [flat_len]
      have h1 := sum_lt (B := B) Ws fun W hW => by
        obtain ⟨v, hv⟩ := All2.mem _ _ hr W hW
        exact ih v W hv
      rw [← All2.len _ _ hr] at h1
      have h2 := Nat.mul_le_mul_right B hl
      omega
    | again hk hr =>
      rw [c2] at hk
      rw [rep_len]
      have h1 := Nat.mul_le_mul (Nat.le_of_lt hk) (ih _ _ hr)
      omega
    | wrap hk ha hc hr =>
      rw [c2] at hk
      rw [List.length_append, List.length_append, List.length_replicate, List.length_replicate]
      have := ih _ _ hr
      omega
theorem given_true (n : Nat) (v : Nat → V) : given n (fun _ => true) v = (List.range n).map v := by
  unfold given
  rw [List.filter_eq_self.mpr (fun _ _ => rfl)]
theorem ev_sumN {K : PySem.W.Frag} {ta : TE} {σ : L2.St} {H : Hp} {xs : List V} {ns : List Int} (ha : EvL ta σ H xs) (hx : xs = ns.map V.int) : Ev (tCB (rSum K) (tCons ta tNil)) σ H (.int ns.sum) := fun H1 e Q q =>
  ha H1 e _ fun p H2 _ e2 h2 => ⟨p, ns, rfl, sq_of (by rw [← hx]; exact h2), q H2 e2⟩
theorem ev_yes {σ : L2.St} {H : Hp} : EvT tYes σ H true := fun H1 _ _ q => q H1 (Ex.refl H1)
section
variable {P : Program} {w : World} {K : PySem.W.Frag} {mg : Str → Option Value} {base : Heap}
/-- a def that nobody may call so -/
theorem fn_no {CX : CXT} {k : Nat} {f : Addr} {fd : FuncData} {ps : List Str} {sp : Sp} (h : ∀ vs H Q E, sp vs H Q E → False) : FnOk P w K mg base CX k f fd ps sp := ⟨fun _ _ _ _ z => (h _ _ _ _ z).elim, fun _ _ _ _ _ _ _ _ _ _ _ _ _ z => (h _ _ _ _ z).elim⟩
end
end Eh
set_option Elab.async false
set_option linter.all false
set_option maxRecDepth 100000
set_option maxHeartbeats 4000000
namespace Eh
open PySem PySem.Spec PyProof.Rows L2 Evl
abbrev nPartsIn : List Str := ["great"]
theorem scPartsIn : FnScope nPartsIn ["great"] (defScope sPartsIn) := ⟨rfl, rfl, rfl, by decide +kernel, rfl, by decide +kernel, by decide +kernel⟩
abbrev nLengthOf : List Str := ["great", "within", "part"]
theorem scLengthOf : FnScope nLengthOf ["great"] (defScope sLengthOf) := ⟨rfl, rfl, rfl, by decide +kernel, rfl, by decide +kernel, by decide +kernel⟩
theorem ev_tag {K : PySem.W.Frag} {σ : L2.St} {H : Hp} {t : Addr} {s z : Str} {r : List V} (h0 : σ[0]? = some (some (.ref t))) (ht : H t = some (.tup (.str s :: r))) : EvT (tTest (tOp rEq (tOp (rIxT K) (tVar 0) (tC (.int 0))) (tC (.str z)))) σ H (decide (V.str s = .str z)) :=
  et_test (ev_op (ev_op (ev_var h0) ev_c (rv_ixT (st_of ht) (show atI (V.str s :: r) ((0 : Nat) : Int) = some (V.str s) from atI_nat rfl))) ev_c (rv_eq rfl))
theorem ev_it {K : PySem.W.Frag} {σ : L2.St} {H : Hp} {t : Addr} {xs : List V} {i : Nat} {v : V} (h0 : σ[0]? = some (some (.ref t))) (ht : H t = some (.tup xs)) (hv : xs[i]? = some v) : Ev (tOp (rIxT K) (tVar 0) (tC (.int (i : Int)))) σ H v :=
  ev_op (ev_var h0) ev_c (rv_ixT (st_of ht) (atI_nat hv))
/-- what parts_in tells -/
def spParts (os ls qs : List Str) : Sp := fun vs H Q _ => ∃ (R : V → List Str → Prop) (t : Addr) (xs ps : List V) (Ws : List (List Str)) (W : List Str), vs = [.ref t] ∧ H t = some (.tup xs) ∧ GS os ls qs H R xs ps Ws W ∧ RetL ps H Q
def spLen (os ls qs : List Str) (n : Nat) : Sp := fun vs H Q _ => ∃ (v : V) (W : List Str), vs = [v] ∧ GAt os ls qs H n v W ∧ n ≤ 20 ∧ RetV (.int (W.length : Int)) H Q
theorem sumsI (Ws : List (List Str)) : (Ws.map fun W => (W.length : Int)).sum = ((Ws.map List.length).sum : Nat) := by
  induction Ws with
  | nil => rfl
  | cons x r ih =>
    rw [List.map_cons, List.map_cons, List.sum_cons, List.sum_cons, ih]
    omega
theorem range_get (Ws : List (List Str)) (g : List Str → V) : (List.range Ws.length).map (fun i => g (Ws.getD i [])) = Ws.map g := by
  apply List.ext_getElem
  · rw [List.length_map, List.length_range, List.length_map]
  · intro i h1 h2
    rw [List.length_map] at h2
    rw [List.getElem_map, List.getElem_range, List.getElem_map, List.getD_eq_getElem?_getD, List.getElem?_eq_getElem h2]
    rfl
section
variable {P : Program} {w : World} {K : PySem.W.Frag} {mg : Str → Option Value} {base : Heap} {os ls qs : List Str}
theorem ok_partsIn {f : Addr} {fd : FuncData} {k : Nat} (F : Fun K "parts_in" "parts_in" sPartsIn f fd) (mlist : mg "list" = none) : FnOk P w K mg base CX0 (k + 1) f fd ["great"] (spParts os ls qs) := by
  have nd := scPartsIn.nd
  refine F.ok scPartsIn (fun vs H Q E h => ?_) (fun cdv A outer s H vs Q E hr h => ?_)
  · obtain ⟨R, t, xs, ps, Ws, W, rfl, _⟩ := h
    rfl
  · obtain ⟨R, t, xs, ps, Ws, W, rfl, ht, hg, q⟩ := h
    refine ⟨_, (pss_cons (ps_if (pt_cmpR op_eq (pe_ix ix_tup (pv 0) pe_int (fun _ _ => rfl)) pe_str (nomark _)) (pss_one (ps_ret (pe_lst pa_nil))) pss_nil)
      (pss_cons (ps_if (pt_cmpR op_eq (pe_ix ix_tup (pv 0) pe_int (fun _ _ => rfl)) pe_str (nomark _)) (pss_one (ps_ret (pe_callTy call_list_of (by rfl) mlist (by decide +kernel) (pa_cons (pe_ix ix_tup (pv 0) pe_int (fun _ _ => rfl)) pa_nil)))) pss_nil)
      (pss_one (ps_ret (pe_ifExp (pt_cmpR op_eq (pe_ix ix_tup (pv 0) pe_int (fun _ _ => rfl)) pe_str (nomark _)) (pe_lst (pa_cons (pe_ix ix_tup (pv 0) pe_int (fun _ _ => rfl)) pa_nil)) (pe_lst (pa_cons (pe_ix ix_tup (pv 0) pe_int (fun _ _ => rfl)) pa_nil))))))), ?_⟩
    cases hg with
    | word hu hl hm hb => exact q_when (ev_tag rfl ht) (fun _ H1 e1 => s_retL (el_lst ea_nil (by decide)) fun p H2 hp e2 h2 => q.go e1 hp e2 h2) (fun h => absurd h (by decide))
    | row hu hr hl =>
      refine q_when (ev_tag rfl ht) (fun h => absurd h (by decide)) fun _ H1 e1 => q_when (ev_tag rfl (e1 _ _ ht)) (fun _ H2 e2 => ?_) (fun h => absurd h (by decide))
      have e12 := e1.trans e2
      refine ev_it (i := 1) rfl (e12 _ _ ht) rfl H2 (Ex.refl _) _ fun H3 e3 => ⟨_, ps, rfl, .inr (st_of (e3 _ _ (e12 _ _ hu))), fun l nl => q.go (e12.trans e3) nl (Ex.new nl) upd_same⟩
    | again hk hr =>
      refine q_when (ev_tag rfl ht) (fun h => absurd h (by decide)) fun _ H1 e1 => q_when (ev_tag rfl (e1 _ _ ht)) (fun h => absurd h (by decide)) fun _ H2 e2 => ?_
      have e12 := e1.trans e2
      refine ev_tag rfl (e12 _ _ ht) H2 (Ex.refl _) _ fun H3 e3 => iteT (el_lst (ea_cons (ev_it (i := 2) rfl (e12 _ _ ht) rfl) ea_nil) (by show 1 ≤ 100000; decide) H3 e3 _ fun p H4 hp e4 h4 => q.go (e12.trans e3) hp e4 h4)
    | wrap hk ha hc hr =>
      refine q_when (ev_tag rfl ht) (fun h => absurd h (by decide)) fun _ H1 e1 => q_when (ev_tag rfl (e1 _ _ ht)) (fun h => absurd h (by decide)) fun _ H2 e2 => ?_
      have e12 := e1.trans e2
      refine ev_tag rfl (e12 _ _ ht) H2 (Ex.refl _) _ fun H3 e3 => iteF (el_lst (ea_cons (ev_it (i := 3) rfl (e12 _ _ ht) rfl) ea_nil) (by show 1 ≤ 100000; decide) H3 e3 _ fun p H4 hp e4 h4 => q.go (e12.trans e3) hp e4 h4)
/-- the parts as told -/
theorem el_parts {σ : L2.St} {H : Hp} {t : Addr} {xs ps : List V} {Ws : List (List Str)} {W : List Str} {R : V → List Str → Prop} (kr : ∀ H', Ex H H' → GS os ls qs H' R xs ps Ws W) (h0 : σ[0]? = some (some (.ref t))) (ht : H t = some (.tup xs)) : EvL (tCall (spParts os ls qs) [] E0 (tCons (tVar 0) tNil)) σ H ps :=
  el_call (ea_cons (ev_var h0) ea_nil) fun H1 e1 Q q E => ⟨R, t, xs, ps, Ws, W, rfl, e1 _ _ ht, kr H1 e1, fun p H2 hp e2 h2 => q p H2 hp e2 h2⟩
theorem GS.ofR {n : Nat} {H : Hp} {xs ps : List V} {Ws : List (List Str)} {W : List Str} (hg : GS os ls qs H (GAt os ls qs H n) xs ps Ws W) : ∀ H', Ex H H' → GS os ls qs H' (GAt os ls qs H n) xs ps Ws W := fun H' e => hg.keep (fun b xs z => e b _ z) fun _ _ z => z
theorem ev_within {n : Nat} {σ : L2.St} {H : Hp} {t : Addr} {xs ps : List V} {Ws : List (List Str)} {W : List Str} (hn : n ≤ 20) (h0 : σ[0]? = some (some (.ref t))) (hs : σ.length = 3) (ht : H t = some (.tup xs)) (hg : GS os ls qs H (GAt os ls qs H n) xs ps Ws W) :
    Ev (tCB (rSum K) (tCons (tLc (iList K (tCall (spParts os ls qs) [] E0 (tCons (tVar 0) tNil))) (gName 2) tYes (tCall (spLen os ls qs n) [] E0 (tCons (tVar 2) tNil)) [2]) tNil)) σ H (.int ((Ws.map List.length).sum : Nat)) := by
  obtain ⟨hp, h8⟩ := hg.parts
  have hl := All2.len _ _ hp
  have hx : ∀ x : V, wipe ((wipe σ [2]).set 2 (some x)) [2] = wipe σ [2] := fun x => by
    obtain ⟨a, b, c, rfl⟩ : ∃ a b c, σ = [a, b, c] := by
      match σ, hs with
      | [a, b, c], _ => exact ⟨a, b, c, rfl⟩
    rfl
  have h2 : ∀ x : V, ((wipe σ [2]).set 2 (some x))[2]? = some (some x) := fun x => by
    obtain ⟨a, b, c, rfl⟩ : ∃ a b c, σ = [a, b, c] := by
      match σ, hs with
      | [a, b, c], _ => exact ⟨a, b, c, rfl⟩
    rfl
  have key := el_lcNL (K := K) (t := tYes) (te := tCall (spLen os ls qs n) [] E0 (tCons (tVar 2) tNil)) (j := 2) (vs := [2]) (fun _ => true) (fun i => .int ((Ws.getD i []).length : Int)) (el_parts hg.ofR h0 ht) (by omega) hx (fun i x H1 e1 hi => ev_yes) (fun i x H1 e1 hi _ => ?_)
  · have := ev_sumN (K := K) (ns := Ws.map fun W => (W.length : Int)) key (by rw [given_true, hl, range_get Ws fun W => V.int (W.length : Int), List.map_map]; rfl)
    rw [sumsI] at this
    exact this
  · obtain ⟨W', hW, hR⟩ := All2.at _ _ hp i x hi
    refine ev_call (ea_cons (ev_var (h2 x)) ea_nil) fun H2 e2 Q q E => ⟨x, W', rfl, hR.ex (e1.trans e2), hn, fun H3 e3 => ?_⟩
    have e : Ws.getD i [] = W' := by rw [List.getD_eq_getElem?_getD, hW]; rfl
    have := q H3 e3
    rw [e] at this
    exact this
theorem log_of {i : Nat} {a : Nat} (h : i < 2 ^ a) (h0 : 0 < a) : (i : Int).natAbs.log2 < a := PySem.Flt.log2_lt_of h0 (by rw [Int.natAbs_natCast]; exact h)
theorem mulW_of {i j n : Nat} (hi : i < 2 ^ 200) (hj : j < 2 ^ (300 * n)) (hn : n ≤ 20) : CMulW (i : Int) (j : Int) := by
  have h1 := log_of hi (by decide)
  have h2 : (j : Int).natAbs.log2 < 300 * n + 1 := log_of (Nat.lt_of_lt_of_le hj (Nat.pow_le_pow_right (by decide) (by omega))) (by omega)
  unfold CMulW
  omega
theorem ok_lengthOf {f fp : Addr} {fd fdp : FuncData} (Flength_of : Fun K "length_of" "length_of" sLengthOf f fd) (blength_of : Binds K fd ["great"] []) (glength_of : mg "length_of" = some (.ref f)) (Fparts_in : Fun K "parts_in" "parts_in" sPartsIn fp fdp) (bparts_in : Binds K fdp ["great"] []) (gparts_in : mg "parts_in" = some (.ref fp)) (mlist : mg "list" = none) (mlen : mg "len" = none) (msum : mg "sum" = none) : ∀ (n k : Nat), FnOk P w K mg base CX0 (k + n + 1) f fd ["great"] (spLen os ls qs n)
  | 0, k => fn_no fun vs H Q E ⟨_, _, _, h, _⟩ => h
  | n + 1, k => by
    have nd := scLengthOf.nd
    have Glength_of : FnOk P w K mg base CX0 (k + n + 1) f fd ["great"] (spLen os ls qs n) := ok_lengthOf Flength_of blength_of glength_of Fparts_in bparts_in gparts_in mlist mlen msum n k
    have Gparts_in : FnOk P w K mg base CX0 (k + n + 1) fp fdp ["great"] (spParts os ls qs) := ok_partsIn Fparts_in mlist
    refine Flength_of.ok scLengthOf (fun vs H Q E h => ?_) (fun cdv A outer s H vs Q E hr h => ?_)
    · obtain ⟨v, W, rfl, _⟩ := h
      rfl
    · obtain ⟨v, W, rfl, hG, hn, q⟩ := h
      refine ⟨_, (pss_cons (ps_if (pt_cmpR op_eq (pe_ix ix_tup (pv 0) pe_int (fun _ _ => rfl)) pe_str (nomark _)) (pss_one (ps_ret (pe_callB call_len_seq (by rfl) mlen PySem.boot_len (pa_cons (pe_ix ix_tup (pv 0) pe_int (fun _ _ => rfl)) pa_nil)))) pss_nil)
      (pss_cons (ps_set (i := 1) nd rfl (.inl rfl) (pe_callB (cr_sum rfl) (by rfl) msum (by decide +kernel) (pa_cons (pe_lc (own := [("part", 2)]) (g := gName 2) (tt := tYes) (te := (tCall (spLen os ls qs n) [] E0 (tCons (tVar 2) tNil))) rfl nd (pi_list (pe_call Gparts_in hr (by rfl) gparts_in Fparts_in.kp bparts_in .nil pass0 (pa_cons (pv 0) pa_nil))) (blkOk_by (own := [("part", 2)]) (N := nLengthOf) (sc := defScope sLengthOf) (by decide +kernel)) (fun _ _ _ _ _ => pg_name (i := 2) nd rfl (.inl rfl)) (fun _ _ _ _ _ => pts_nil) (fun _ _ _ _ _ => (pe_call Glength_of hr (by rfl) glength_of Flength_of.kp blength_of .nil pass0 (pa_cons (pv 2) pa_nil)))) pa_nil)))
      (pss_cons (ps_if (pt_cmpR op_eq (pe_ix ix_tup (pv 0) pe_int (fun _ _ => rfl)) pe_str (nomark _)) (pss_one (ps_ret (pe_op op_mulW (pe_ix ix_tup (pv 0) pe_int (fun _ _ => rfl)) (pv 1)))) pss_nil)
      (pss_cons (ps_if (pt_cmpR op_eq (pe_ix ix_tup (pv 0) pe_int (fun _ _ => rfl)) pe_str (nomark _)) (pss_one (ps_ret (pe_op op_add (pe_op op_mulW pe_int (pe_ix ix_tup (pv 0) pe_int (fun _ _ => rfl))) (pv 1)))) pss_nil)
      (pss_one (ps_ret (pv 1))))))), ?_⟩
      obtain ⟨t, xs, ps, Ws, rfl, ht, hg⟩ := hG
      have mid : ∀ {s : Str} {r : List V} (H1 : Hp), xs = .str s :: r → Ex H H1 → _ := fun {s r} H1 hx e1 => ev_within (K := K) (σ := [some (.ref t), none, none]) (show n ≤ 20 by omega) rfl rfl (e1 _ _ ht) (hg.keep (R' := GAt os ls qs H1 n) (fun b xs z => e1 b _ z) fun v W z => z.ex e1)
      cases hg with
      | word hu hl hm hb =>
        refine q_when (ev_tag rfl ht) (fun _ H1 e1 => ?_) (fun h => absurd h (by decide))
        refine ev_it (i := 1) rfl (e1 _ _ ht) rfl H1 (Ex.refl _) _ fun H2 e2 => ⟨_, _, rfl, .inr (st_of (e2 _ _ (e1 _ _ hu))), ?_⟩
        rw [List.length_map]
        exact q.go (e1.trans e2)
      | row hu hr hl =>
        refine q_when (ev_tag rfl ht) (fun h => absurd h (by decide)) fun _ H1 e1 => q_asg (mid H1 rfl e1) fun H2 e2 => ?_
        have e12 := e1.trans e2
        refine q_when (ev_tag rfl (e12 _ _ ht)) (fun h => absurd h (by decide)) fun _ H3 e3 => q_when (ev_tag rfl ((e12.trans e3) _ _ ht)) (fun h => absurd h (by decide)) fun _ H4 e4 => s_ret (ev_var rfl) fun H5 e5 => ?_
        rw [← flat_len]
        exact q.go (((e12.trans e3).trans e4).trans e5)
      | again hk hr =>
        rename_i k' p W
        refine q_when (ev_tag rfl ht) (fun h => absurd h (by decide)) fun _ H1 e1 => q_asg (mid H1 rfl e1) fun H2 e2 => ?_
        have e12 := e1.trans e2
        refine q_when (ev_tag rfl (e12 _ _ ht)) (fun _ H3 e3 => ?_) (fun h => absurd h (by decide))
        refine s_ret (ev_op (ev_it (i := 1) rfl ((e12.trans e3) _ _ ht) rfl) (ev_var rfl) (rv_I (mulW_of hk ?_ (show n ≤ 20 by omega)))) fun H4 e4 => ?_
        · show W.length + 0 < _
          exact GAt.bits _ _ _ hr
        · have e : ((k' : Int) * (((([W] : List (List Str)).map List.length).sum : Nat) : Int)) = ((List.replicate k' W).flatten.length : Nat) := by
            rw [rep_len, Int.natCast_mul]
            rfl
          show Q (.int ((k' : Int) * (((([W] : List (List Str)).map List.length).sum : Nat) : Int))) H4
          rw [e]
          exact q.go ((e12.trans e3).trans e4)
      | wrap hk ha hc hr =>
        rename_i k' a c p W
        refine q_when (ev_tag rfl ht) (fun h => absurd h (by decide)) fun _ H1 e1 => q_asg (mid H1 rfl e1) fun H2 e2 => ?_
        have e12 := e1.trans e2
        refine q_when (ev_tag rfl (e12 _ _ ht)) (fun h => absurd h (by decide)) fun _ H3 e3 => ?_
        have e13 := e12.trans e3
        refine q_when (ev_tag rfl (e13 _ _ ht)) (fun _ H4 e4 => ?_) (fun h => absurd h (by decide))
        refine s_ret (ev_op (ev_op ev_c (ev_it (i := 1) rfl ((e13.trans e4) _ _ ht) rfl) (rv_I (mulW_of (i := 2) (n := 1) (by decide) (Nat.lt_trans hk (Nat.pow_lt_pow_right (by decide) (by decide))) (by decide)))) (ev_var rfl) rv_I0) fun H5 e5 => ?_
        have e : (2 * (k' : Int) + (((([W] : List (List Str)).map List.length).sum : Nat) : Int)) = ((List.replicate k' a ++ W ++ List.replicate k' c).length : Nat) := by
          rw [List.length_append, List.length_append, List.length_replicate, List.length_replicate]
          show 2 * (k' : Int) + ((W.length + 0 : Nat) : Int) = _
          omega
        show Q (.int (2 * (k' : Int) + (((([W] : List (List Str)).map List.length).sum : Nat) : Int))) H5
        rw [e]
        exact q.go ((e13.trans e4).trans e5)
end
end Eh
set_option Elab.async false
set_option linter.all false
set_option maxRecDepth 100000
set_option maxHeartbeats 4000000
namespace Eh
open PySem PySem.Spec PyProof.Rows L2 Evl
abbrev nLettersOf : List Str := ["great", "within", "part"]
theorem scLettersOf : FnScope nLettersOf ["great"] (defScope sLettersOf) := ⟨rfl, rfl, rfl, by decide +kernel, rfl, by decide +kernel, by decide +kernel⟩
abbrev nSize : List Str := ["great", "part"]
theorem scSize : FnScope nSize ["great"] (defScope sSize) := ⟨rfl, rfl, rfl, by decide +kernel, rfl, by decide +kernel, by decide +kernel⟩
abbrev nLawWrite : List Str := ["great", "found", "part", "inner"]
theorem scLawWrite : FnScope nLawWrite ["great"] (defScope sLawWrite) := ⟨rfl, rfl, rfl, by decide +kernel, rfl, by decide +kernel, by decide +kernel⟩
def spLts (os ls qs : List Str) (n : Nat) : Sp := fun vs H Q _ => ∃ (v : V) (W : List Str), vs = [v] ∧ GAt os ls qs H n v W ∧ n ≤ 20 ∧ W.length ≤ 400 ∧ RetL (W.map V.str) H Q
theorem flat_le {Ws : List (List Str)} {W : List Str} (h : W ∈ Ws) : W.length ≤ Ws.flatten.length := by
  rw [flat_len]
  induction Ws with
  | nil => exact (List.not_mem_nil h).elim
  | cons x r ih =>
    rw [List.map_cons, List.sum_cons]
    rcases List.mem_cons.mp h with e | e
    · rw [e]; omega
    · have := ih e; omega
/-- each part of what isn't empty is no longer -/
theorem GS.le {os ls qs : List Str} {H : Hp} {R : V → List Str → Prop} {xs ps : List V} {Ws : List (List Str)} {W : List Str} (h : GS os ls qs H R xs ps Ws W) (h0 : W.length ≠ 0) : Ws.flatten.length ≤ W.length := by
  cases h with
  | word => exact Nat.zero_le _
  | row hu hr hl => exact Nat.le_refl _
  | again hk hr =>
    rename_i k p W
    rw [rep_len] at h0 ⊢
    rw [show [W].flatten = W by simp]
    have : k ≠ 0 := fun z => h0 (by rw [z, Nat.zero_mul])
    have := Nat.mul_le_mul_right W.length (show 1 ≤ k by omega)
    omega
  | wrap hk ha hc hr =>
    rename_i k a c p W
    rw [show [W].flatten = W by simp, List.length_append, List.length_append]
    omega
theorem k63 {k : Nat} (h : k < 2 ^ 60) : (k : Int) < 2 ^ 63 := by
  have : (2 : Nat) ^ 60 = 1152921504606846976 := by decide
  omega
theorem rep_V (k : Nat) (W : List Str) : (List.replicate k (W.map V.str)).flatten = (List.replicate k W).flatten.map V.str := by
  rw [List.map_flatten, List.map_replicate]
theorem rep_1 (k : Nat) (a : Str) : (List.replicate k [V.str a]).flatten = (List.replicate k a).map V.str := by
  rw [flat_rep, List.map_replicate]
theorem decN {s z : Nat} : decide (V.int (s : Int) = V.int (z : Int)) = decide (s = z) := by
  by_cases e : s = z
  · rw [e, decide_eq_true rfl, decide_eq_true rfl]
  · rw [decide_eq_false e, decide_eq_false (fun h => e (by have := V.int.inj h; omega))]
theorem tk_succ {Ws : List (List Str)} {i : Nat} {W : List Str} (h : Ws[i]? = some W) : (Ws.take (i + 1)).flatten = (Ws.take i).flatten ++ W := by
  rw [List.take_add_one, h, List.flatten_append]
  show _ ++ (W ++ []) = _
  rw [List.append_nil]
theorem tk_le (Ws : List (List Str)) (i : Nat) : (Ws.take i).flatten.length ≤ Ws.flatten.length := by
  conv => rhs; rw [← List.take_append_drop i Ws, List.flatten_append, List.length_append]
  omega
section
variable {P : Program} {w : World} {K : PySem.W.Frag} {mg : Str → Option Value} {base : Heap} {os ls qs : List Str}
/-- a * k .. of lists of texts, and what wraps them -/
theorem el_rep {σ : L2.St} {H : Hp} {ta tb : TE} {xs : List V} {k : Nat} (ha : EvL ta σ H xs) (hb : Ev tb σ H (.int (k : Int))) (hk : xs.length * k ≤ 10000) (hk2 : k < 2 ^ 60) : EvL (tOp rRep ta tb) σ H (List.replicate k xs).flatten := fun H1 e Q q =>
  ha H1 e _ fun p H2 hp e2 h2 => hb H2 (e.trans e2) _ fun H3 e3 => ⟨p, (k : Int), xs, rfl, rfl, e3 _ _ h2, by omega, k63 hk2, sz_of (by rw [Int.toNat_natCast]; omega), fun r nr => q r _ (fresh_back (e2.trans e3) nr) ((e2.trans e3).trans (Ex.new nr)) (by rw [upd_same, Int.toNat_natCast])⟩
theorem el_repV {σ : L2.St} {H : Hp} {ta tb : TE} {xs : List V} {l : Addr} {k : Nat} (ha : Ev ta σ H (.ref l)) (hl : H l = some (.lst xs)) (hb : Ev tb σ H (.int (k : Int))) (hk : xs.length * k ≤ 10000) (hk2 : k < 2 ^ 60) : EvL (tOp rRep ta tb) σ H (List.replicate k xs).flatten := fun H1 e Q q =>
  ha H1 e _ fun H2 e2 => hb H2 (e.trans e2) _ fun H3 e3 => ⟨l, (k : Int), xs, rfl, rfl, e3 _ _ (e2 _ _ (e _ _ hl)), by omega, k63 hk2, sz_of (by rw [Int.toNat_natCast]; omega), fun r nr => q r _ (fresh_back (e2.trans e3) nr) ((e2.trans e3).trans (Ex.new nr)) (by rw [upd_same, Int.toNat_natCast])⟩
theorem el_cat {σ : L2.St} {H : Hp} {ta tb : TE} {xs ys : List V} (ha : EvL ta σ H xs) (hb : EvL tb σ H ys) (hk : xs.length + ys.length ≤ 10000) : EvL (tOp rCat ta tb) σ H (xs ++ ys) := fun H1 e Q q =>
  ha H1 e _ fun p H2 hp e2 h2 => hb H2 (e.trans e2) _ fun r H3 hr e3 h3 => ⟨p, r, xs, ys, rfl, rfl, e3 _ _ h2, h3, sz_of (by omega), fun z nz => q z _ (fresh_back (e2.trans e3) nz) ((e2.trans e3).trans (Ex.new nz)) upd_same⟩
theorem el_catV {σ : L2.St} {H : Hp} {ta tb : TE} {xs ys : List V} {l : Addr} (ha : EvL ta σ H xs) (hb : Ev tb σ H (.ref l)) (hl : H l = some (.lst ys)) (hk : xs.length + ys.length ≤ 10000) : EvL (tOp rCat ta tb) σ H (xs ++ ys) := fun H1 e Q q =>
  ha H1 e _ fun p H2 hp e2 h2 => hb H2 (e.trans e2) _ fun H3 e3 => ⟨p, l, xs, ys, rfl, rfl, e3 _ _ h2, e3 _ _ (e2 _ _ (e _ _ hl)), sz_of (by omega), fun z nz => q z _ (fresh_back (e2.trans e3) nz) ((e2.trans e3).trans (Ex.new nz)) upd_same⟩
/-- [a] * k + within + [c] * k -/
theorem el_wrap {σ : L2.St} {H : Hp} {t l : Addr} {j k : Nat} {a c : Str} {p : V} {W : List Str} (h0 : σ[0]? = some (some (.ref t))) (hj : σ[j]? = some (some (.ref l))) (ht : H t = some (.tup [.str "wrap", .int (k : Int), .str a, p, .str c])) (hl : H l = some (.lst (W.map V.str))) (hk : (List.replicate k a ++ W ++ List.replicate k c).length ≤ 400) :
    EvL (tOp rCat (tOp rCat (tOp rRep (tLst (tCons (tOp (rIxT K) (tVar 0) (tC (.int 2))) tNil)) (tOp (rIxT K) (tVar 0) (tC (.int 1)))) (tVar j)) (tOp rRep (tLst (tCons (tOp (rIxT K) (tVar 0) (tC (.int 4))) tNil)) (tOp (rIxT K) (tVar 0) (tC (.int 1))))) σ H ((List.replicate k a ++ W ++ List.replicate k c).map V.str) := by
  rw [List.length_append, List.length_append, List.length_replicate, List.length_replicate] at hk
  have k60 : k < 2 ^ 60 := Nat.lt_of_le_of_lt (show k ≤ 400 by omega) (by decide)
  have h1 : EvL (tOp rRep (tLst (tCons (tOp (rIxT K) (tVar 0) (tC (.int 2))) tNil)) (tOp (rIxT K) (tVar 0) (tC (.int 1)))) σ H ((List.replicate k a).map V.str) := by
    rw [← rep_1]
    exact el_rep (el_lst (ea_cons (ev_it (i := 2) h0 ht rfl) ea_nil) (by show 1 ≤ 100000; decide)) (ev_it (i := 1) h0 ht rfl) (by show 1 * k ≤ 10000; omega) k60
  have h2 : EvL (tOp rRep (tLst (tCons (tOp (rIxT K) (tVar 0) (tC (.int 4))) tNil)) (tOp (rIxT K) (tVar 0) (tC (.int 1)))) σ H ((List.replicate k c).map V.str) := by
    rw [← rep_1]
    exact el_rep (el_lst (ea_cons (ev_it (i := 4) h0 ht rfl) ea_nil) (by show 1 ≤ 100000; decide)) (ev_it (i := 1) h0 ht rfl) (by show 1 * k ≤ 10000; omega) k60
  rw [List.map_append, List.map_append]
  exact el_cat (el_catV h1 (ev_var hj) hl (by rw [List.length_map, List.length_map, List.length_replicate]; omega)) h2 (by rw [List.length_append, List.length_map, List.length_map, List.length_map, List.length_replicate, List.length_replicate]; omega)
theorem ok_lettersOf {f fp fl : Addr} {fd fdp fdl : FuncData} (Fletters_of : Fun K "letters_of" "letters_of" sLettersOf f fd) (bletters_of : Binds K fd ["great"] []) (gletters_of : mg "letters_of" = some (.ref f)) (Flength_of : Fun K "length_of" "length_of" sLengthOf fl fdl) (blength_of : Binds K fdl ["great"] []) (glength_of : mg "length_of" = some (.ref fl)) (Fparts_in : Fun K "parts_in" "parts_in" sPartsIn fp fdp) (bparts_in : Binds K fdp ["great"] []) (gparts_in : mg "parts_in" = some (.ref fp)) (mlen : mg "len" = none) (msum : mg "sum" = none) (mlist : mg "list" = none) : ∀ (n k : Nat), FnOk P w K mg base CX0 (k + n + 2) f fd ["great"] (spLts os ls qs n)
  | 0, k => fn_no fun vs H Q E ⟨_, _, _, h, _⟩ => h
  | n + 1, k => by
    have nd := scLettersOf.nd
    have Gletters_of : FnOk P w K mg base CX0 (k + n + 2) f fd ["great"] (spLts os ls qs n) := ok_lettersOf Fletters_of bletters_of gletters_of Flength_of blength_of glength_of Fparts_in bparts_in gparts_in mlen msum mlist n k
    have Gparts_in : FnOk P w K mg base CX0 (k + n + 2) fp fdp ["great"] (spParts os ls qs) := ok_partsIn Fparts_in mlist
    have Glength_of : FnOk P w K mg base CX0 (k + n + 2) fl fdl ["great"] (spLen os ls qs (n + 1)) := ok_lengthOf Flength_of blength_of glength_of Fparts_in bparts_in gparts_in mlist mlen msum (n + 1) k
    refine Fletters_of.ok scLettersOf (fun vs H Q E h => ?_) (fun cdv A outer s H vs Q E hr h => ?_)
    · obtain ⟨v, W, rfl, _⟩ := h
      rfl
    · obtain ⟨v, W, rfl, hG, hn, h400, q⟩ := h
      refine ⟨_, (pss_cons (ps_if (pt_cmpR op_eq (pe_call Glength_of hr (by rfl) glength_of Flength_of.kp blength_of .nil pass0 (pa_cons (pv 0) pa_nil)) pe_int (nomark _)) (pss_one (ps_ret (pe_lst pa_nil))) pss_nil)
      (pss_cons (ps_if (pt_cmpR op_eq (pe_ix ix_tup (pv 0) pe_int (fun _ _ => rfl)) pe_str (nomark _)) (pss_one (ps_ret (pe_callTy call_list_of (by rfl) mlist (by decide +kernel) (pa_cons (pe_ix ix_tup (pv 0) pe_int (fun _ _ => rfl)) pa_nil)))) pss_nil)
      (pss_cons (ps_set (i := 1) nd rfl (.inl rfl) (pe_lst pa_nil))
      (pss_cons (ps_for PassesOwn.never rfl (pi_list (pe_call Gparts_in hr (by rfl) gparts_in Fparts_in.kp bparts_in .nil pass0 (pa_cons (pv 0) pa_nil))) (pg_name (i := 2) nd rfl (.inl rfl)) (pss_one (ps_aug (i := 1) nd rfl (.inl rfl) (pe_call Gletters_of hr (by rfl) gletters_of Fletters_of.kp bletters_of .nil pass0 (pa_cons (pv 2) pa_nil)) ip_cat)))
      (pss_cons (ps_if (pt_cmpR op_eq (pe_ix ix_tup (pv 0) pe_int (fun _ _ => rfl)) pe_str (nomark _)) (pss_one (ps_ret (pe_op op_rep (pv 1) (pe_ix ix_tup (pv 0) pe_int (fun _ _ => rfl))))) pss_nil)
      (pss_cons (ps_if (pt_cmpR op_eq (pe_ix ix_tup (pv 0) pe_int (fun _ _ => rfl)) pe_str (nomark _)) (pss_one (ps_ret (pe_op op_cat (pe_op op_cat (pe_op op_rep (pe_lst (pa_cons (pe_ix ix_tup (pv 0) pe_int (fun _ _ => rfl)) pa_nil)) (pe_ix ix_tup (pv 0) pe_int (fun _ _ => rfl))) (pv 1)) (pe_op op_rep (pe_lst (pa_cons (pe_ix ix_tup (pv 0) pe_int (fun _ _ => rfl)) pa_nil)) (pe_ix ix_tup (pv 0) pe_int (fun _ _ => rfl)))))) pss_nil)
      (pss_one (ps_ret (pv 1))))))))), ?_⟩
      have hG' := hG
      obtain ⟨t, xs, ps, Ws, rfl, ht, hg⟩ := hG
      refine q_when (b := decide (W.length = 0)) (et_test (ev_is (ev_op (ev_call (ea_cons (ev_var rfl) ea_nil) fun H1 e1 Q q E => ⟨_, W, rfl, hG'.ex e1, hn, fun H2 e2 => q H2 e2⟩) ev_c (rv_eq rfl)) (congrArg V.bl (decN (s := W.length) (z := 0))))) (fun h0 H1 e1 => ?_) (fun h0 H1 e1 => ?_)
      · have h0 := of_decide_eq_true h0
        rw [List.eq_nil_of_length_eq_zero h0] at q
        exact s_retL (el_lst ea_nil (by decide)) fun p H2 hp e2 h2 => q.go e1 hp e2 h2
      have h0 := of_decide_eq_false h0
      have hpt := hg.parts
      have hle := hg.le h0
      -- the loop: within, from H2 on
      have loop : ∀ (H2 : Hp) (D : Ends) (tz : TS), Ex H H2 → (∀ l H3, H2 l = none → Ex H2 H3 → H3 l = some (.lst (Ws.flatten.map V.str)) → ∀ y2, tz D [some (.ref t), some (.ref l), y2] H3) → tSeq (tAsg (tLst tNil) (gName 1)) (tSeq (tFor (iList K (tCall (spParts os ls qs) [] E0 (tCons (tVar 0) tNil))) (gName 2) (tAug 1 (tCall (spLts os ls qs n) [] E0 (tCons (tVar 2) tNil)) ipL)) tz) D [some (.ref t), none, none] H2 := fun H2 D tz e2 kk => by
        refine q_asgL (el_lst ea_nil (by decide)) fun l H3 nl e3 hl => ?_
        have e23 := e2.trans e3
        refine q_forNLn (el_parts (fun H' e' => hg.ofR H' (e23.trans e')) rfl (e23 _ _ ht)) (fun p i σ' H' => (∃ y2, σ' = [some (.ref t), some (.ref l), y2]) ∧ Ex H2 H' ∧ p ≠ l ∧ H' p = some (.lst ps) ∧ H' l = some (.lst ((Ws.take i).flatten.map V.str))) ?_ ?_ ?_ ?_
        · exact fun p H4 np e4 hp => ⟨⟨_, rfl⟩, e3.trans e4, (ne_of_none hl np).symm, hp, e4 _ _ hl⟩
        · rintro p i σ' H' _ ⟨_, _, _, hp, _⟩
          exact sq_of hp
        · rintro p i x σ' H' hi ⟨⟨y2, rfl⟩, eH, hpl, hp, hl'⟩
          obtain ⟨W', hW, hR⟩ := All2.at _ _ hpt.1 i x hi
          have hle' := flat_le (List.mem_of_getElem? hW)
          refine ⟨_, rfl, _, rfl, x, W', rfl, hR.ex (e2.trans eH), by omega, by omega, fun r H4 nr e4 hr4 => ⟨l, r, _, _, rfl, rfl, e4 _ _ hl', hr4, ?_, ⟨_, rfl⟩, (eH.trans e4).mut nl, hpl, ?_, ?_⟩⟩
          · have := tk_le Ws i
            rw [List.length_map, List.length_map]
            exact sz_of (by omega)
          · rw [upd_ne hpl]
            exact e4 _ _ hp
          · rw [upd_same, tk_succ hW, List.map_append]
        · rintro p σ' H' ⟨⟨y2, rfl⟩, eH, hpl, hp, hl'⟩
          rw [All2.len _ _ hpt.1, List.take_length] at hl'
          exact kk l H' nl eH hl' y2
      cases hg with
      | word hu hl hm hb =>
        refine q_when (ev_tag rfl (e1 _ _ ht)) (fun _ H2 e2 => ?_) (fun h => absurd h (by decide))
        have e12 := e1.trans e2
        exact ev_it (i := 1) rfl (e12 _ _ ht) rfl H2 (Ex.refl _) _ fun H3 e3 => ⟨_, _, rfl, .inr (st_of (e3 _ _ (e12 _ _ hu))), fun l nl => q.go (e12.trans e3) nl (Ex.new nl) upd_same⟩
      | row hu hr hl =>
        refine q_when (ev_tag rfl (e1 _ _ ht)) (fun h => absurd h (by decide)) fun _ H2 e2 => loop H2 _ _ (e1.trans e2) fun l H3 nl e3 hl3 y2 => ?_
        have e13 := (e1.trans e2).trans e3
        refine q_when (ev_tag rfl (e13 _ _ ht)) (fun h => absurd h (by decide)) fun _ H4 e4 => q_when (ev_tag rfl ((e13.trans e4) _ _ ht)) (fun h => absurd h (by decide)) fun _ H5 e5 => s_ret (ev_var rfl) fun H6 e6 => ?_
        exact q l H6 (fresh_back (e1.trans e2) nl) (((e13.trans e4).trans e5).trans e6) (e6 _ _ (e5 _ _ (e4 _ _ hl3)))
      | @again k' p W hk hr =>
        refine q_when (ev_tag rfl (e1 _ _ ht)) (fun h => absurd h (by decide)) fun _ H2 e2 => loop H2 _ _ (e1.trans e2) fun l H3 nl e3 hl3 y2 => ?_
        have e13 := (e1.trans e2).trans e3
        rw [show [W].flatten = W by simp] at hl3
        refine q_when (ev_tag rfl (e13 _ _ ht)) (fun _ H4 e4 => ?_) (fun h => absurd h (by decide))
        rw [rep_len] at h400 h0
        have w1 : 1 ≤ W.length := by
          rcases Nat.eq_zero_or_pos W.length with z | z
          · exact absurd (by rw [z, Nat.mul_zero]) h0
          · exact z
        have k4 : k' ≤ 400 := Nat.le_trans (by have := Nat.mul_le_mul_left k' w1; omega) h400
        refine s_retL (el_repV (ev_var rfl) (e4 _ _ hl3) (ev_it (i := 1) rfl ((e13.trans e4) _ _ ht) rfl) (by rw [List.length_map, Nat.mul_comm]; omega) (Nat.lt_of_le_of_lt k4 (by decide))) fun p H5 hp e5 h5 => ?_
        rw [rep_V] at h5
        exact q.go (e13.trans e4) hp e5 h5
      | @wrap k' a c p W hk ha hc hr =>
        refine q_when (ev_tag rfl (e1 _ _ ht)) (fun h => absurd h (by decide)) fun _ H2 e2 => loop H2 _ _ (e1.trans e2) fun l H3 nl e3 hl3 y2 => ?_
        have e13 := (e1.trans e2).trans e3
        rw [show [W].flatten = W by simp] at hl3
        refine q_when (ev_tag rfl (e13 _ _ ht)) (fun h => absurd h (by decide)) fun _ H4 e4 => ?_
        have e14 := e13.trans e4
        refine q_when (ev_tag rfl (e14 _ _ ht)) (fun _ H5 e5 => ?_) (fun h => absurd h (by decide))
        exact s_retL (el_wrap (j := 1) rfl rfl ((e14.trans e5) _ _ ht) (e5 _ _ (e4 _ _ hl3)) h400) fun p H6 hp e6 h6 => q.go (e14.trans e5) hp e6 h6
end
end Eh
set_option Elab.async false
set_option linter.all false
set_option maxRecDepth 100000
set_option maxHeartbeats 4000000
namespace Eh
open PySem PySem.Spec PyProof.Rows L2 Evl
section
variable {P : Program} {w : World} {K : PySem.W.Frag} {mg : Str → Option Value} {base : Heap} {os ls qs : List Str}
theorem el_lcT {σ : L2.St} {H : Hp} {t : TT} {te : TE} {a : Addr} {xs : List V} {tl : TE} {j : Nat} {vs : List Nat} (f : Nat → Bool) (v : Nat → V) (h : Ev tl σ H (.ref a)) (hx : SqT K H a xs) (hz : xs.length ≤ 40000) (hw : ∀ x, wipe ((wipe σ vs).set j (some x)) vs = wipe σ vs)
    (ht : ∀ (i : Nat) (x : V) H1, Ex H H1 → xs[i]? = some x → EvT t ((wipe σ vs).set j (some x)) H1 (f i)) (he : ∀ (i : Nat) (x : V) H1, Ex H H1 → xs[i]? = some x → f i = true → Ev te ((wipe σ vs).set j (some x)) H1 (v i)) :
    EvL (tLc (iTup K tl) (gName j) t te vs) σ H (given xs.length f v) := fun H0 e Q q => h H0 e _ fun H1 e1 => ⟨a, rfl, ⟨xs, ex_t (e.trans e1) hx⟩, fun Dl hD =>
  lc_tup (xs := xs) (Cw H1 f v Dl) ⟨hD, Ex.new hD, upd_same⟩ (fun i H' _ p => ex_t ((e.trans e1).trans p.2.1) hx) (fun i x H' hi p => ⟨hw x, cw_turn p (by have := (List.getElem?_eq_some_iff.mp hi).1; omega) (ht i x H1 (e.trans e1) hi) (fun hf => he i x H1 (e.trans e1) hi hf)⟩)
    (fun H' p => q Dl H' (fresh_back e1 p.1) (e1.trans p.2.1) p.2.2)⟩
def spSize (os ls qs : List Str) (n : Nat) : Sp := fun vs H Q _ => ∃ (v : V) (W : List Str), vs = [v] ∧ GAt os ls qs H n v W ∧ n ≤ 20 ∧ RetV (.int (W.length : Int)) H Q
theorem ok_size {f : Addr} {fd : FuncData} (Fsize : Fun K "_law_size" "_law_size" sSize f fd) (bsize : Binds K fd ["great"] []) (gsize : mg "_law_size" = some (.ref f)) (mlen : mg "len" = none) (msum : mg "sum" = none) : ∀ (n k : Nat), FnOk P w K mg base CX0 (k + n + 1) f fd ["great"] (spSize os ls qs n)
  | 0, k => fn_no fun vs H Q E ⟨_, _, _, h, _⟩ => h
  | n + 1, k => by
    have nd := scSize.nd
    have Gsize : FnOk P w K mg base CX0 (k + n + 1) f fd ["great"] (spSize os ls qs n) := ok_size Fsize bsize gsize mlen msum n k
    refine Fsize.ok scSize (fun vs H Q E h => ?_) (fun cdv A outer s H vs Q E hr h => ?_)
    · obtain ⟨v, W, rfl, _⟩ := h
      rfl
    · obtain ⟨v, W, rfl, hG, hn, q⟩ := h
      refine ⟨_, (pss_cons (ps_if (pt_cmpR op_eq (pe_ix ix_tup (pv 0) pe_int (fun _ _ => rfl)) pe_str (nomark _)) (pss_one (ps_ret (pe_callB call_len_seq (by rfl) mlen PySem.boot_len (pa_cons (pe_ix ix_tup (pv 0) pe_int (fun _ _ => rfl)) pa_nil)))) pss_nil)
      (pss_cons (ps_if (pt_cmpR op_eq (pe_ix ix_tup (pv 0) pe_int (fun _ _ => rfl)) pe_str (nomark _)) (pss_one (ps_ret (pe_callB (cr_sum rfl) (by rfl) msum (by decide +kernel) (pa_cons (pe_lc (own := [("part", 1)]) (g := gName 1) (tt := tYes) (te := (tCall (spSize os ls qs n) [] E0 (tCons (tVar 1) tNil))) rfl nd (pi_tup (pe_ix ix_tup (pv 0) pe_int (fun _ _ => rfl))) (blkOk_by (own := [("part", 1)]) (N := nSize) (sc := defScope sSize) (by decide +kernel)) (fun _ _ _ _ _ => pg_name (i := 1) nd rfl (.inl rfl)) (fun _ _ _ _ _ => pts_nil) (fun _ _ _ _ _ => (pe_call Gsize hr (by rfl) gsize Fsize.kp bsize .nil pass0 (pa_cons (pv 1) pa_nil)))) pa_nil)))) pss_nil)
      (pss_cons (ps_if (pt_cmpR op_eq (pe_ix ix_tup (pv 0) pe_int (fun _ _ => rfl)) pe_str (nomark _)) (pss_one (ps_ret (pe_op op_mulW (pe_ix ix_tup (pv 0) pe_int (fun _ _ => rfl)) (pe_call Gsize hr (by rfl) gsize Fsize.kp bsize .nil pass0 (pa_cons (pe_ix ix_tup (pv 0) pe_int (fun _ _ => rfl)) pa_nil))))) pss_nil)
      (pss_one (ps_ret (pe_op op_add (pe_op op_add (pe_ix ix_tup (pv 0) pe_int (fun _ _ => rfl)) (pe_call Gsize hr (by rfl) gsize Fsize.kp bsize .nil pass0 (pa_cons (pe_ix ix_tup (pv 0) pe_int (fun _ _ => rfl)) pa_nil))) (pe_ix ix_tup (pv 0) pe_int (fun _ _ => rfl)))))))), ?_⟩
      obtain ⟨t, xs, ps, Ws, rfl, ht, hg⟩ := hG
      have call : ∀ {σ : L2.St} {te : TE} {x : V} {W' : List Str} (H1 : Hp), Ex H H1 → Ev te σ H1 x → GAt os ls qs H n x W' → Ev (tCall (spSize os ls qs n) [] E0 (tCons te tNil)) σ H1 (.int (W'.length : Int)) := fun {σ te x W'} H1 e1 hx hR => ev_call (ea_cons hx ea_nil) fun H2 e2 Q q E => ⟨x, W', rfl, hR.ex (e1.trans e2), by omega, fun H3 e3 => q H3 e3⟩
      cases hg with
      | word hu hl hm hb =>
        refine q_when (ev_tag rfl ht) (fun _ H1 e1 => ?_) (fun h => absurd h (by decide))
        refine ev_it (i := 1) rfl (e1 _ _ ht) rfl H1 (Ex.refl _) _ fun H2 e2 => ⟨_, _, rfl, .inr (st_of (e2 _ _ (e1 _ _ hu))), ?_⟩
        rw [List.length_map]
        exact q.go (e1.trans e2)
      | @row u ps Ws hu hr hl =>
        refine q_when (ev_tag rfl ht) (fun h => absurd h (by decide)) fun _ H1 e1 => q_when (ev_tag rfl (e1 _ _ ht)) (fun _ H2 e2 => ?_) (fun h => absurd h (by decide))
        have e12 := e1.trans e2
        have hln := All2.len _ _ hr
        have key := el_lcT (K := K) (σ := [some (.ref t), none]) (t := tYes) (te := tCall (spSize os ls qs n) [] E0 (tCons (tVar 1) tNil)) (j := 1) (vs := [1]) (fun _ => true) (fun i => .int ((Ws.getD i []).length : Int)) (ev_it (K := K) (i := 1) rfl (e12 _ _ ht) rfl) (st_of (e12 _ _ hu)) (by omega) (fun x => rfl) (fun i x H1 e1 hi => ev_yes) (fun i x H3 e3 hi _ => by
          obtain ⟨W', hW, hR⟩ := All2.at _ _ hr i x hi
          have e : Ws.getD i [] = W' := by rw [List.getD_eq_getElem?_getD, hW]; rfl
          rw [e]
          exact call H3 (e12.trans e3) (ev_var rfl) hR)
        have k2 := ev_sumN (K := K) (ns := Ws.map fun W => (W.length : Int)) key (by rw [given_true, hln, range_get Ws fun W => V.int (W.length : Int), List.map_map]; rfl)
        rw [sumsI, ← flat_len] at k2
        exact s_ret k2 fun H3 e3 => q.go (e12.trans e3)
      | @again k' p W hk hr =>
        refine q_when (ev_tag rfl ht) (fun h => absurd h (by decide)) fun _ H1 e1 => q_when (ev_tag rfl (e1 _ _ ht)) (fun h => absurd h (by decide)) fun _ H2 e2 => ?_
        have e12 := e1.trans e2
        refine q_when (ev_tag rfl (e12 _ _ ht)) (fun _ H3 e3 => ?_) (fun h => absurd h (by decide))
        have e13 := e12.trans e3
        refine s_ret (ev_is (ev_op (ev_it (i := 1) rfl (e13 _ _ ht) rfl) (call H3 e13 (ev_it (i := 2) rfl (e13 _ _ ht) rfl) hr) (rv_I (mulW_of hk (GAt.bits _ _ _ hr) (show n ≤ 20 by omega)))) ?_) fun H4 e4 => q.go (e13.trans e4)
        rw [rep_len, Int.natCast_mul]
      | @wrap k' a c p W hk ha hc hr =>
        refine q_when (ev_tag rfl ht) (fun h => absurd h (by decide)) fun _ H1 e1 => q_when (ev_tag rfl (e1 _ _ ht)) (fun h => absurd h (by decide)) fun _ H2 e2 => ?_
        have e12 := e1.trans e2
        refine q_when (ev_tag rfl (e12 _ _ ht)) (fun h => absurd h (by decide)) fun _ H3 e3 => ?_
        have e13 := e12.trans e3
        refine s_ret (ev_is (ev_op (ev_op (ev_it (i := 1) rfl (e13 _ _ ht) rfl) (call H3 e13 (ev_it (i := 3) rfl (e13 _ _ ht) rfl) hr) rv_I0) (ev_it (i := 1) rfl (e13 _ _ ht) rfl) rv_I0) ?_) fun H4 e4 => q.go (e13.trans e4)
        rw [List.length_append, List.length_append, List.length_replicate, List.length_replicate, Int.natCast_add, Int.natCast_add]
def spWrite (os ls qs : List Str) (n : Nat) : Sp := fun vs H Q _ => ∃ (v : V) (W : List Str), vs = [v] ∧ GAt os ls qs H n v W ∧ n ≤ 20 ∧ W.length ≤ 400 ∧ RetL (W.map V.str) H Q
theorem ok_write {f fs : Addr} {fd fds : FuncData} (Fwrite : Fun K "_law_write" "_law_write" sLawWrite f fd) (bwrite : Binds K fd ["great"] []) (gwrite : mg "_law_write" = some (.ref f)) (Fsize : Fun K "_law_size" "_law_size" sSize fs fds) (bsize : Binds K fds ["great"] []) (gsize : mg "_law_size" = some (.ref fs)) (mlen : mg "len" = none) (msum : mg "sum" = none) (mlist : mg "list" = none) : ∀ (n k : Nat), FnOk P w K mg base CX0 (k + n + 2) f fd ["great"] (spWrite os ls qs n)
  | 0, k => fn_no fun vs H Q E ⟨_, _, _, h, _⟩ => h
  | n + 1, k => by
    have nd := scLawWrite.nd
    have Gwrite : FnOk P w K mg base CX0 (k + n + 2) f fd ["great"] (spWrite os ls qs n) := ok_write Fwrite bwrite gwrite Fsize bsize gsize mlen msum mlist n k
    have Gsize : FnOk P w K mg base CX0 (k + n + 2) fs fds ["great"] (spSize os ls qs (n + 1)) := ok_size Fsize bsize gsize mlen msum (n + 1) k
    refine Fwrite.ok scLawWrite (fun vs H Q E h => ?_) (fun cdv A outer s H vs Q E hr h => ?_)
    · obtain ⟨v, W, rfl, _⟩ := h
      rfl
    · obtain ⟨v, W, rfl, hG, hn, h400, q⟩ := h
      refine ⟨_, (pss_cons (ps_if (pt_cmpR op_eq (pe_ix ix_tup (pv 0) pe_int (fun _ _ => rfl)) pe_str (nomark _)) (pss_one (ps_ret (pe_callTy call_list_of (by rfl) mlist (by decide +kernel) (pa_cons (pe_ix ix_tup (pv 0) pe_int (fun _ _ => rfl)) pa_nil)))) pss_nil)
      (pss_cons (ps_if (pt_cmpR op_eq (pe_call Gsize hr (by rfl) gsize Fsize.kp bsize .nil pass0 (pa_cons (pv 0) pa_nil)) pe_int (nomark _)) (pss_one (ps_ret (pe_lst pa_nil))) pss_nil)
      (pss_cons (ps_set (i := 1) nd rfl (.inl rfl) (pe_lst pa_nil))
      (pss_cons (ps_if (pt_cmpR op_eq (pe_ix ix_tup (pv 0) pe_int (fun _ _ => rfl)) pe_str (nomark _)) (pss_cons (ps_for PassesOwn.never rfl (pi_tup (pe_ix ix_tup (pv 0) pe_int (fun _ _ => rfl))) (pg_name (i := 2) nd rfl (.inl rfl)) (pss_one (ps_set (i := 1) nd rfl (.inl rfl) (pe_op op_cat (pv 1) (pe_call Gwrite hr (by rfl) gwrite Fwrite.kp bwrite .nil pass0 (pa_cons (pv 2) pa_nil))))))
      (pss_one (ps_ret (pv 1)))) pss_nil)
      (pss_cons (ps_if (pt_cmpR op_eq (pe_ix ix_tup (pv 0) pe_int (fun _ _ => rfl)) pe_str (nomark _)) (pss_one (ps_ret (pe_op op_rep (pe_call Gwrite hr (by rfl) gwrite Fwrite.kp bwrite .nil pass0 (pa_cons (pe_ix ix_tup (pv 0) pe_int (fun _ _ => rfl)) pa_nil)) (pe_ix ix_tup (pv 0) pe_int (fun _ _ => rfl))))) pss_nil)
      (pss_cons (ps_set (i := 3) nd rfl (.inl rfl) (pe_call Gwrite hr (by rfl) gwrite Fwrite.kp bwrite .nil pass0 (pa_cons (pe_ix ix_tup (pv 0) pe_int (fun _ _ => rfl)) pa_nil)))
      (pss_one (ps_ret (pe_op op_cat (pe_op op_cat (pe_op op_rep (pe_lst (pa_cons (pe_ix ix_tup (pv 0) pe_int (fun _ _ => rfl)) pa_nil)) (pe_ix ix_tup (pv 0) pe_int (fun _ _ => rfl))) (pv 3)) (pe_op op_rep (pe_lst (pa_cons (pe_ix ix_tup (pv 0) pe_int (fun _ _ => rfl)) pa_nil)) (pe_ix ix_tup (pv 0) pe_int (fun _ _ => rfl)))))))))))), ?_⟩
      have hG' := hG
      obtain ⟨t, xs, ps, Ws, rfl, ht, hg⟩ := hG
      have szt : ∀ H1, Ex H H1 → EvT (tTest (tOp rEq (tCall (spSize os ls qs (n + 1)) [] E0 (tCons (tVar 0) tNil)) (tC (.int 0)))) [some (.ref t), none, none, none] H1 (decide (W.length = 0)) := fun H1 e1 => et_test (ev_is (ev_op (ev_call (ea_cons (ev_var rfl) ea_nil) fun H2 e2 Q q E => ⟨_, W, rfl, hG'.ex (e1.trans e2), hn, fun H3 e3 => q H3 e3⟩) ev_c (rv_eq rfl)) (congrArg V.bl (decN (s := W.length) (z := 0))))
      have zero : ∀ H1, Ex H H1 → decide (W.length = 0) = true → ∀ D : Ends, D.rt = Q → tRet (tLst tNil) D [some (.ref t), none, none, none] H1 := fun H1 e1 h0 D hD => by
        have h0 := of_decide_eq_true h0
        rw [List.eq_nil_of_length_eq_zero h0] at q
        exact s_retL (el_lst ea_nil (by decide)) fun p H2 hp e2 h2 => by rw [hD]; exact q.go e1 hp e2 h2
      have call : ∀ {σ : L2.St} {te : TE} {x : V} {W' : List Str} (H1 : Hp), Ex H H1 → W'.length ≤ 400 → Ev te σ H1 x → GAt os ls qs H n x W' → EvL (tCall (spWrite os ls qs n) [] E0 (tCons te tNil)) σ H1 (W'.map V.str) := fun {σ te x W'} H1 e1 hl hx hR => el_call (ea_cons hx ea_nil) fun H2 e2 Q q E => ⟨x, W', rfl, hR.ex (e1.trans e2), by omega, hl, fun p H3 hp e3 h3 => q p H3 hp e3 h3⟩
      cases hg with
      | word hu hl hm hb =>
        refine q_when (ev_tag rfl ht) (fun _ H2 e2 => ?_) (fun h => absurd h (by decide))
        exact ev_it (i := 1) rfl (e2 _ _ ht) rfl H2 (Ex.refl _) _ fun H3 e3 => ⟨_, _, rfl, .inr (st_of (e3 _ _ (e2 _ _ hu))), fun l nl => q.go (e2.trans e3) nl (Ex.new nl) upd_same⟩
      | @row u ps Ws hu hr hl =>
        refine q_when (ev_tag rfl ht) (fun h => absurd h (by decide)) fun _ H1 e1 => q_when (szt H1 e1) (fun h0 H2 e2 => zero H2 (e1.trans e2) h0 _ rfl) fun h0 H2 e2 => ?_
        have e12 := e1.trans e2
        refine q_asgL (el_lst ea_nil (by decide)) fun l H3 nl e3 hl3 => ?_
        have e13 := e12.trans e3
        refine q_when (ev_tag rfl (e13 _ _ ht)) (fun _ H4 e4 => ?_) (fun h => absurd h (by decide))
        have e14 := e13.trans e4
        refine q_forT (ev_it (i := 1) rfl (e14 _ _ ht) rfl) (st_of (e14 _ _ hu)) (fun i σ' H' => ∃ l', H l' = none ∧ (∃ y2, σ' = [some (.ref t), some (.ref l'), y2, none]) ∧ Ex H H' ∧ H' l' = some (.lst ((Ws.take i).flatten.map V.str))) (fun H5 e5 => ⟨l, fresh_back e12 nl, ⟨_, rfl⟩, e14.trans e5, e5 _ _ (e4 _ _ hl3)⟩) ?_ ?_ ?_
        · rintro i σ' H' _ ⟨l', _, _, eH, _⟩
          exact st_of (eH _ _ hu)
        · rintro i x σ' H' hi ⟨l', nl', ⟨y2, rfl⟩, eH, hl'⟩
          obtain ⟨W', hW, hR⟩ := All2.at _ _ hr i x hi
          have hle' := flat_le (List.mem_of_getElem? hW)
          have hle2 := tk_le Ws i
          refine s_asgL (xs := (Ws.take i).flatten.map V.str ++ W'.map V.str) (fun H5 e5 Q q => ⟨_, rfl, call H5 (eH.trans e5) (by omega) (ev_var rfl) hR H5 (Ex.refl _) _ fun r H6 nr e6 hr6 => ⟨l', r, _, _, rfl, rfl, e6 _ _ (e5 _ _ hl'), hr6, ?_, fun z nz => q z _ (fresh_back e6 nz) (e6.trans (Ex.new nz)) upd_same⟩⟩) fun p H5 np e5 hp => ⟨p, fresh_back eH np, ⟨_, rfl⟩, eH.trans e5, ?_⟩
          · rw [List.length_map, List.length_map]
            exact sz_of (by omega)
          · rw [tk_succ hW, List.map_append]
            exact hp
        · rintro σ' H' ⟨l', nl', ⟨y2, rfl⟩, eH, hl'⟩
          rw [All2.len _ _ hr, List.take_length] at hl'
          exact s_ret (ev_var rfl) fun H5 e5 => q l' H5 nl' (eH.trans e5) (e5 _ _ hl')
      | @again k' p W hk hr =>
        refine q_when (ev_tag rfl ht) (fun h => absurd h (by decide)) fun _ H1 e1 => q_when (szt H1 e1) (fun h0 H2 e2 => zero H2 (e1.trans e2) h0 _ rfl) fun h0 H2 e2 => ?_
        have h0 := of_decide_eq_false h0
        have e12 := e1.trans e2
        refine q_asgL (el_lst ea_nil (by decide)) fun l H3 nl e3 hl3 => ?_
        have e13 := e12.trans e3
        refine q_when (ev_tag rfl (e13 _ _ ht)) (fun h => absurd h (by decide)) fun _ H4 e4 => ?_
        have e14 := e13.trans e4
        refine q_when (ev_tag rfl (e14 _ _ ht)) (fun _ H5 e5 => ?_) (fun h => absurd h (by decide))
        have e15 := e14.trans e5
        rw [rep_len] at h400 h0
        have w1 : 1 ≤ W.length := by
          rcases Nat.eq_zero_or_pos W.length with z | z
          · exact absurd (by rw [z, Nat.mul_zero]) h0
          · exact z
        have k0 : 1 ≤ k' := by
          rcases Nat.eq_zero_or_pos k' with z | z
          · exact absurd (by rw [z, Nat.zero_mul]) h0
          · exact z
        have k4 : k' ≤ 400 := Nat.le_trans (by have := Nat.mul_le_mul_left k' w1; omega) h400
        have w4 : W.length ≤ 400 := Nat.le_trans (by have := Nat.mul_le_mul_right W.length k0; omega) h400
        refine s_retL (el_rep (call H5 e15 w4 (ev_it (i := 2) rfl (e15 _ _ ht) rfl) hr) (ev_it (i := 1) rfl (e15 _ _ ht) rfl) (by rw [List.length_map, Nat.mul_comm]; omega) (Nat.lt_of_le_of_lt k4 (by decide))) fun p H6 hp e6 h6 => ?_
        rw [rep_V] at h6
        exact q.go e15 hp e6 h6
      | @wrap k' a c p W hk ha hc hr =>
        refine q_when (ev_tag rfl ht) (fun h => absurd h (by decide)) fun _ H1 e1 => q_when (szt H1 e1) (fun h0 H2 e2 => zero H2 (e1.trans e2) h0 _ rfl) fun h0 H2 e2 => ?_
        have e12 := e1.trans e2
        refine q_asgL (el_lst ea_nil (by decide)) fun l H3 nl e3 hl3 => ?_
        have e13 := e12.trans e3
        refine q_when (ev_tag rfl (e13 _ _ ht)) (fun h => absurd h (by decide)) fun _ H4 e4 => ?_
        have e14 := e13.trans e4
        refine q_when (ev_tag rfl (e14 _ _ ht)) (fun h => absurd h (by decide)) fun _ H5 e5 => ?_
        have e15 := e14.trans e5
        have w4 : W.length ≤ 400 := by
          rw [List.length_append, List.length_append] at h400
          omega
        refine q_asgL (call H5 e15 w4 (ev_it (i := 3) rfl (e15 _ _ ht) rfl) hr) fun r H6 nr e6 hr6 => ?_
        exact s_retL (el_wrap (j := 3) rfl rfl ((e15.trans e6) _ _ ht) hr6 h400) fun p H7 hp e7 h7 => q.go (e15.trans e6) hp e7 h7
end
end Eh
set_option Elab.async false
set_option linter.all false
set_option maxRecDepth 100000
set_option maxHeartbeats 4000000
namespace Eh
open PySem PySem.Spec PyProof.Rows L2 Evl
abbrev nLawCount : List Str := ["pot", "big", "some"]
theorem scLawCount : FnScope nLawCount ["pot", "big"] (defScope sLawCount) := ⟨rfl, rfl, rfl, by decide +kernel, rfl, by decide +kernel, by decide +kernel⟩
abbrev nLawGreat : List Str := ["pot", "sheet", "deep", "big", "way", "often", "part", "a", "k"]
theorem scLawGreat : FnScope nLawGreat ["pot", "sheet", "deep", "big"] (defScope sLawGreat) := ⟨rfl, rfl, rfl, by decide +kernel, rfl, by decide +kernel, by decide +kernel⟩
theorem ten60 : (10 : Int) ^ (60 : Int).toNat = 1000000000000000000000000000000000000000000000000000000000000 := by decide +kernel
theorem ten30 : (10 : Int) ^ (30 : Int).toNat = 1000000000000000000000000000000 := by decide +kernel
theorem two200 : (2 : Nat) ^ 200 = 1606938044258990275541962092341162602522202993782792835301376 := by decide +kernel
def spCount : Sp := fun vs H Q _ => ∃ (p c : Addr) (ns : List Int) (big : Bool), vs = [.ref p, .bl big] ∧ Pot p c ns H ∧ ∀ (k : Nat) H', k < 2 ^ 200 → (big = false → k ≤ 3) → Keep p H H' → Pot p c ns H' → Q (.int (k : Int)) H'
def spGreat (n : Nat) : Sp := fun vs H Q _ => ∃ (p c s : Addr) (ns : List Int) (os ls qs : List Str) (deep : Nat) (big : Bool), vs = [.ref p, .ref s, .int (deep : Int), .bl big] ∧ deep < n ∧ Pot p c ns H ∧ Sht os ls qs ∧ SheetAt H s os ls qs ∧
  ∀ (v : V) (W : List Str) H', GAt os ls qs H' (deep + 1) v W → (big = false → W.length ≤ 6 * 3 ^ deep) → Keep p H H' → Pot p c ns H' → Q v H'
theorem keep_lst {H : Hp} {a : Addr} {xs : List V} {o : HO} (h : H a = some (.lst xs)) : ∀ b ys, H b = some (.tup ys) → (upd H a o) b = some (.tup ys) := fun b ys e => by
  rw [upd_ne (fun z => by rw [z, h] at e; cases e)]
  exact e
section
variable {P : Program} {w : World} {K : PySem.W.Frag} {mg : Str → Option Value} {base : Heap}
theorem ok_count {f fP : Addr} {fd fdP : FuncData} {k : Nat} (F : Fun K "_law_count" "_law_count" sLawCount f fd) (Fpick : Fun K "_law_pick" "_law_pick" sPick fP fdP) (GP : ∀ k, FnOk P w K mg base CX0 (k + 2) fP fdP ["pot", "many"] spPick) (GW : ∀ k, FnOk P w K mg base CX0 (k + 2) fP fdP ["pot", "many"] spPickW) (bpick : Binds K fdP ["pot", "many"] []) (gpick : mg "_law_pick" = some (.ref fP)) (mlen : mg "len" = none) : FnOk P w K mg base CX0 (k + 3) f fd ["pot", "big"] spCount := by
  have nd := scLawCount.nd
  have Gpick := GP k
  have GpickW := GW k
  refine F.ok scLawCount (fun vs H Q E h => ?_) (fun cdv A outer s H vs Q E hr h => ?_)
  · obtain ⟨p, c, ns, big, rfl, _⟩ := h
    rfl
  · obtain ⟨p, c, ns, big, rfl, hP, q⟩ := h
    refine ⟨_, (pss_cons (ps_set (i := 2) nd rfl (.inl rfl) (pe_lst (pa_cons pe_int (pa_cons pe_int (pa_cons pe_int (pa_cons (pe_call Gpick hr (by rfl) gpick Fpick.kp bpick .nil pass0 (pa_cons (pv 0) (pa_cons pe_int pa_nil))) pa_nil))))))
      (pss_cut (ps_if (pt_val (pv 1)) (pss_one (ps_set (i := 2) nd rfl (.inl rfl) (pe_op op_cat (pv 2) (pe_lst (pa_cons (pe_call Gpick hr (by rfl) gpick Fpick.kp bpick .nil pass0 (pa_cons (pv 0) (pa_cons pe_int pa_nil))) (pa_cons (pe_call GpickW hr (by rfl) gpick Fpick.kp bpick .nil pass0 (pa_cons (pv 0) (pa_cons (pe_op op_pow pe_int pe_int) pa_nil))) (pa_cons (pe_op op_sub (pe_op op_pow pe_int pe_int) (pe_call Gpick hr (by rfl) gpick Fpick.kp bpick .nil pass0 (pa_cons (pv 0) (pa_cons pe_int pa_nil)))) pa_nil))))))) pss_nil)
      (pss_one (ps_ret (pe_ix ix_list (pv 2) (pe_call Gpick hr (by rfl) gpick Fpick.kp bpick .nil pass0 (pa_cons (pv 0) (pa_cons (pe_callB call_len_seq (by rfl) mlen PySem.boot_len (pa_cons (pv 2) pa_nil)) pa_nil))) (fun _ _ => rfl)))))), ?_⟩
    refine ⟨_, rfl, p, c, ns, 4, rfl, by decide, by decide, hP, fun v H1 hv kp1 hP1 => ⟨by show 4 ≤ sizeLine; decide, fun l nl => ?_⟩⟩
    have e1 : Ex H1 _ := Ex.new (o := .lst [.int 0, .int 1, .int 2, .int (v : Int)]) nl
    refine ⟨fun σ' H' => ∃ (l' : Addr) (cs : List Nat), σ' = [some (.ref p), some (.bl big), some (.ref l')] ∧ l' ≠ p ∧ H' l' = some (.lst (cs.map fun k : Nat => V.int (k : Int))) ∧ 4 ≤ cs.length ∧ cs.length ≤ 7 ∧ (∀ x ∈ cs, x < 2 ^ 200 ∧ (big = false → x ≤ 3)) ∧ Keep p H H' ∧ Pot p c ns H', ⟨_, rfl, big, rfl, ?_⟩, ?_⟩
    · have h200 : ∀ x : Nat, x ≤ 3 → x < 2 ^ 200 := fun x h => by rw [two200]; omega
      cases big with
      | false =>
        refine iteF ⟨l, [0, 1, 2, v], rfl, (hP1.ne_new nl).1.symm, upd_same, by show 4 ≤ 4; decide, by show 4 ≤ 7; decide, fun x hx => ?_, kp1.trans (Keep.ofEx e1), hP1.ex e1⟩
        have : x ≤ 3 := by
          simp only [List.mem_cons, List.not_mem_nil, or_false] at hx
          omega
        exact ⟨h200 x this, fun _ => this⟩
      | true =>
        have hP2 := hP1.ex e1
        refine iteT ⟨_, rfl, _, rfl, p, c, ns, 1000, rfl, by decide, by decide, hP2, fun v1 H3 hv1 kp3 hP3 => ⟨_, rfl, 10, 30, rfl, rfl, ⟨by decide, by decide, by decide⟩, p, c, ns, 10 ^ (30 : Int).toNat, rfl, by rw [ten30]; decide, by rw [ten30]; decide +kernel, hP3, fun v2 H4 hv2 kp4 hP4 => ⟨10, 60, rfl, rfl, ⟨by decide, by decide, by decide⟩, _, rfl, p, c, ns, 3, rfl, by decide, by decide, hP4, fun v3 H5 hv3 kp5 hP5 => ⟨_, _, rfl, rfl, by show 3 ≤ sizeLine; decide, fun l2 nl2 => ?_⟩⟩⟩⟩
        have lp := (hP1.ne_new nl).1.symm
        have hl5 : H5 l = _ := kp5 _ _ lp (kp4 _ _ lp (kp3 _ _ lp upd_same))
        have e5 : Ex H5 _ := Ex.new (o := .lst [.int (v1 : Int), .int (v2 : Int), .int ((10 : Int) ^ (60 : Int).toNat - (v3 : Int))]) nl2
        refine ⟨l, l2, _, _, rfl, rfl, e5 _ _ hl5, upd_same, by show 4 + 3 ≤ sizeLine; decide, fun r nr => ?_⟩
        have e6 := e5.trans (Ex.new (o := .lst ([.int 0, .int 1, .int 2, .int (v : Int)] ++ [.int (v1 : Int), .int (v2 : Int), .int ((10 : Int) ^ (60 : Int).toNat - (v3 : Int))])) nr)
        have kp6 := (((kp1.trans (Keep.ofEx e1)).trans kp3).trans kp4).trans (kp5.trans (Keep.ofEx e6))
        rw [ten30] at hv2
        have e60 : (10 : Int) ^ (60 : Int).toNat - (v3 : Int) = ((1000000000000000000000000000000000000000000000000000000000000 - v3 : Nat) : Int) := by
          rw [ten60]
          omega
        refine ⟨r, [0, 1, 2, v, v1, v2, 1000000000000000000000000000000000000000000000000000000000000 - v3], rfl, ((hP5.ex e5).ne_new nr).1.symm, ?_, by show 4 ≤ 7; decide, by show 7 ≤ 7; decide, fun x hx => ⟨?_, fun z => nomatch z⟩, kp6, hP5.ex e6⟩
        · rw [upd_same]
          dsimp only
          rw [e60]
          rfl
        · rw [two200]
          simp only [List.mem_cons, List.not_mem_nil, or_false] at hx
          omega
    · rintro σ' H' ⟨l', cs, rfl, lp, hl', c4, c7, hcs, kp', hP'⟩
      refine ⟨_, rfl, _, rfl, _, rfl, l', _, rfl, .inl (sq_of hl'), p, c, ns, _, rfl, by rw [List.length_map]; omega, by rw [List.length_map]; omega, hP', fun v H3 hv kp3 hP3 => ?_⟩
      rw [List.length_map] at hv
      have hv' : v < cs.length := by omega
      refine ⟨l', _, _, .int (cs[v] : Nat), rfl, rfl, sq_of (kp3 _ _ lp hl'), atI_nat ?_, q _ H3 (hcs _ (List.getElem_mem hv')).1 (hcs _ (List.getElem_mem hv')).2 (kp'.trans kp3) hP3⟩
      rw [List.getElem?_map, List.getElem?_eq_getElem hv']
      rfl
theorem ok_great {f fP fS fC : Addr} {fd fdP fdS fdC : FuncData} (Fgreat : Fun K "_law_great" "_law_great" sLawGreat f fd) (bgreat : Binds K fd ["pot", "sheet", "deep", "big"] []) (ggreat : mg "_law_great" = some (.ref f)) (Fpick : Fun K "_law_pick" "_law_pick" sPick fP fdP) (GP : ∀ k, FnOk P w K mg base CX0 (k + 2) fP fdP ["pot", "many"] spPick) (bpick : Binds K fdP ["pot", "many"] []) (gpick : mg "_law_pick" = some (.ref fP)) (Fshut : Fun K "_law_shut" "_law_shut" sShut fS fdS) (GS : ∀ k, FnOk P w K mg base CX0 (k + 3) fS fdS ["pot", "sheet", "most"] spShut) (bshut : Binds K fdS ["pot", "sheet", "most"] []) (gshut : mg "_law_shut" = some (.ref fS)) (Fcount : Fun K "_law_count" "_law_count" sLawCount fC fdC) (GC : ∀ k, FnOk P w K mg base CX0 (k + 3) fC fdC ["pot", "big"] spCount) (bcount : Binds K fdC ["pot", "big"] []) (gcount : mg "_law_count" = some (.ref fC)) (mint : mg "int" = none) (mlen : mg "len" = none) (mrange : mg "range" = none) (mtuple : mg "tuple" = none) : ∀ (n k : Nat), FnOk P w K mg base CX0 (k + n + 3) f fd ["pot", "sheet", "deep", "big"] (spGreat n)
  | 0, k => fn_no fun vs H Q E ⟨_, _, _, _, _, _, _, _, _, _, h, _⟩ => Nat.not_lt_zero _ h
  | n + 1, k => by
    have nd := scLawGreat.nd
    have Ggreat : FnOk P w K mg base CX0 (k + n + 3) f fd ["pot", "sheet", "deep", "big"] (spGreat n) := ok_great Fgreat bgreat ggreat Fpick GP bpick gpick Fshut GS bshut gshut Fcount GC bcount gcount mint mlen mrange mtuple n k
    have Gpick := GP (k + n + 1)
    have Gshut := GS (k + n)
    have Gcount := GC (k + n)
    refine Fgreat.ok scLawGreat (fun vs H Q E h => ?_) (fun cdv A outer s H vs Q E hr h => ?_)
    · obtain ⟨p, c, s, ns, os, ls, qs, deep, big, rfl, _⟩ := h
      rfl
    · obtain ⟨p, c, s, ns, os, ls, qs, deep, big, rfl, hd, hP, hS, hs, q⟩ := h
      refine ⟨_, (pss_cons (ps_set (i := 4) nd rfl (.inl rfl) (pe_op op_mul (pe_call Gpick hr (by rfl) gpick Fpick.kp bpick .nil pass0 (pa_cons (pv 0) (pa_cons pe_int pa_nil))) (pe_callTy call_int1 (by rfl) mint (by decide +kernel) (pa_cons (pe_cmpR op_gt (pv 2) pe_int (nomark _)) pa_nil))))
      (pss_cons (ps_if (pt_cmpR op_eq (pv 4) pe_int (nomark _)) (pss_one (ps_ret (pe_tup (pa_cons pe_str (pa_cons (pe_callTy call_tuple_of (by rfl) mtuple (by decide +kernel) (pa_cons (pe_call Gshut hr (by rfl) gshut Fshut.kp bshut .nil pass0 (pa_cons (pv 0) (pa_cons (pv 1) (pa_cons pe_int pa_nil)))) pa_nil)) pa_nil))))) pss_nil)
      (pss_cons (ps_if (pt_cmpR op_eq (pv 4) pe_int (nomark _)) (pss_one (ps_ret (pe_tup (pa_cons pe_str (pa_cons (pe_callTy call_tuple_of (by rfl) mtuple (by decide +kernel) (pa_cons (pe_lc (own := [("k", 8)]) (g := gName 8) (tt := tYes) (te := (tCall (spGreat n) [] E0 (tCons (tVar 0) (tCons (tVar 1) (tCons (tOp (rI0 fun i j => .int (i - j)) (tVar 2) (tC (.int 1))) (tCons (tVar 3) tNil)))))) rfl nd (pi_range1 (by rfl) mrange (pa_cons (pe_call Gpick hr (by rfl) gpick Fpick.kp bpick .nil pass0 (pa_cons (pv 0) (pa_cons pe_int pa_nil))) pa_nil)) (blkOk_by (own := [("k", 8)]) (N := nLawGreat) (sc := defScope sLawGreat) (by decide +kernel)) (fun _ _ _ _ _ => pg_name (i := 8) nd rfl (.inl rfl)) (fun _ _ _ _ _ => pts_nil) (fun _ _ _ _ _ => (pe_call Ggreat hr (by rfl) ggreat Fgreat.kp bgreat .nil pass0 (pa_cons (pv 0) (pa_cons (pv 1) (pa_cons (pe_op op_sub (pv 2) pe_int) (pa_cons (pv 3) pa_nil))))))) pa_nil)) pa_nil))))) pss_nil)
      (pss_cons (ps_set (i := 5) nd rfl (.inl rfl) (pe_call Gcount hr (by rfl) gcount Fcount.kp bcount .nil pass0 (pa_cons (pv 0) (pa_cons (pv 3) pa_nil))))
      (pss_cons (ps_set (i := 6) nd rfl (.inl rfl) (pe_call Ggreat hr (by rfl) ggreat Fgreat.kp bgreat .nil pass0 (pa_cons (pv 0) (pa_cons (pv 1) (pa_cons (pe_op op_sub (pv 2) pe_int) (pa_cons (pv 3) pa_nil))))))
      (pss_cons (ps_if (pt_cmpR op_eq (pv 4) pe_int (nomark _)) (pss_one (ps_ret (pe_tup (pa_cons pe_str (pa_cons (pv 5) (pa_cons (pv 6) pa_nil)))))) pss_nil)
      (pss_cons (ps_set (i := 7) nd rfl (.inl rfl) (pe_ix ix_tup (pe_ix ix_tup (pv 1) pe_int (fun _ _ => rfl)) (pe_call Gpick hr (by rfl) gpick Fpick.kp bpick .nil pass0 (pa_cons (pv 0) (pa_cons (pe_callB call_len_seq (by rfl) mlen PySem.boot_len (pa_cons (pe_ix ix_tup (pv 1) pe_int (fun _ _ => rfl)) pa_nil)) pa_nil))) (fun _ _ => rfl)))
      (pss_one (ps_ret (pe_tup (pa_cons pe_str (pa_cons (pv 5) (pa_cons (pv 7) (pa_cons (pv 6) (pa_cons (pe_ix ix_tup (pe_ix ix_tup (pv 1) pe_int (fun _ _ => rfl)) (pe_call Gpick hr (by rfl) gpick Fpick.kp bpick .nil pass0 (pa_cons (pv 0) (pa_cons (pe_callB call_len_seq (by rfl) mlen PySem.boot_len (pa_cons (pe_ix ix_tup (pv 1) pe_int (fun _ _ => rfl)) pa_nil)) pa_nil))) (fun _ _ => rfl)) pa_nil))))))))))))))), ?_⟩
      refine ⟨_, rfl, p, c, ns, 4, rfl, by decide, by decide, hP, fun v H1 hv kp1 hP1 => ⟨_, rfl, _, _, rfl, rfl, .inr ⟨_, rfl, _, _, rfl, rfl, .inr ?_, ?_⟩⟩⟩
      · by_cases h0 : (0 : Int) < (deep : Int)
        · rw [decide_eq_true h0]; exact ⟨by decide, by decide⟩
        · rw [decide_eq_false h0]; exact ⟨by decide, by decide⟩
      have hw : ∃ way : Nat, (v : Int) * (if decide ((0 : Int) < (deep : Int)) = true then 1 else 0) = (way : Int) ∧ way < 4 ∧ (deep = 0 → way = 0) := by
        by_cases h0 : (0 : Int) < (deep : Int)
        · rw [decide_eq_true h0]
          exact ⟨v, by simp, by omega, fun z => by omega⟩
        · rw [decide_eq_false h0]
          exact ⟨0, by simp, by omega, fun _ => rfl⟩
      obtain ⟨way, hway, w4, wd⟩ := hw
      show tSeq _ _ _ [some (.ref p), some (.ref s), some (.int (deep : Int)), some (.bl big), some (.int ((v : Int) * (if decide ((0 : Int) < (deep : Int)) = true then 1 else 0))), none, none, none, none] H1
      rw [hway]
      have hs1 := hs.keep hP kp1
      refine ⟨_, rfl, rfl, _, rfl, ite2 (fun h0 => ?_) (fun h0 => ?_)⟩
      · refine ⟨_, rfl, _, rfl, p, c, s, ns, os, ls, qs, 3, rfl, by decide, hP1, hS, hs1, fun ws l H2 hm hl hb kp2 hP2 nl hl2 => ⟨l, _, rfl, .inl ⟨sq_of hl2, fun u nu => ⟨by show 2 ≤ sizeLine; decide, fun t nt => ?_⟩⟩⟩⟩
        have e2 := Ex.new (o := .tup (ws.map V.str)) nu
        have e3 := e2.trans (Ex.new (o := .tup [.str "word", .ref u]) nt)
        refine q (.ref t) ws _ ⟨t, _, [], [], rfl, upd_same, .word (Ex.new nt _ _ upd_same) (by omega) hm hb⟩ (fun _ => ?_) ((kp1.trans kp2).trans (Keep.ofEx e3)) (hP2.ex e3)
        have := Nat.pow_le_pow_right (n := 3) (by decide) (Nat.zero_le deep)
        omega
      have w0 : way ≠ 0 := fun z => h0 (by rw [z]; exact decide_eq_true rfl)
      obtain ⟨d, rfl⟩ : ∃ d, deep = d + 1 := ⟨deep - 1, by have : deep ≠ 0 := fun z => w0 (wd z); omega⟩
      have ed : ((d + 1 : Nat) : Int) - 1 = (d : Int) := by omega
      have p3 : 3 ^ (d + 1) = 3 * 3 ^ d := by rw [Nat.pow_succ, Nat.mul_comm]
      -- a call of itself
      have call : ∀ {σ : L2.St} {Q : VK} (H' : Hp), σ[0]? = some (some (.ref p)) → σ[1]? = some (some (.ref s)) → σ[2]? = some (some (.int ((d + 1 : Nat) : Int))) → σ[3]? = some (some (.bl big)) → Keep p H H' → Pot p c ns H' → (∀ (v : V) (W : List Str) H2, GAt os ls qs H2 (d + 1) v W → (big = false → W.length ≤ 6 * 3 ^ d) → Keep p H' H2 → Pot p c ns H2 → Q v H2) → tCall (spGreat n) [] E0 (tCons (tVar 0) (tCons (tVar 1) (tCons (tOp (rI0 fun i j => .int (i - j)) (tVar 2) (tC (.int 1))) (tCons (tVar 3) tNil)))) σ H' Q := fun {σ Q} H' h0 h1 h2 h3 kp' hP' kk => by
        refine ⟨_, h0, _, h1, _, h2, _, _, rfl, rfl, _, h3, p, c, s, ns, os, ls, qs, d, big, ?_, by omega, hP', hS, hs.keep hP kp', kk⟩
        dsimp only
        rw [ed]
        rfl
      refine ⟨_, rfl, rfl, _, rfl, ite2 (fun h1 => ?_) (fun h1 => ?_)⟩
      · refine ⟨_, rfl, p, c, ns, 4, rfl, by decide, by decide, hP1, fun v H2 hv kp2 hP2 => ⟨(v : Int), rfl, by omega, by omega, fun D nD => ?_⟩⟩
        have kp02 := kp1.trans kp2
        have pD := hP2.ne_new nD
        refine lc_range (lo := 0) (n := ((v : Int)).toNat) (fun i H' => ∃ (ps : List V) (Ws : List (List Str)), ps.length = i ∧ H' D = some (.lst ps) ∧ All2 (GAt os ls qs H' (d + 1)) ps Ws ∧ (big = false → ∀ W ∈ Ws, W.length ≤ 6 * 3 ^ d) ∧ Keep p H2 H' ∧ Pot p c ns H') ?_ ?_ ?_
        · exact ⟨[], [], rfl, upd_same, trivial, fun _ W h => (List.not_mem_nil h).elim, (Keep.refl p H2).new nD, hP2.new pD.1 pD.2⟩
        · rintro i H' hi ⟨ps, Ws, hl, hD, hA, hW, kp', hP'⟩
          refine ⟨rfl, yesT (call H' rfl rfl rfl rfl (kp02.trans kp') hP' fun x W H3 hx hw kp3 hP3 => ?_)⟩
          have hD3 := kp3 _ _ pD.1.symm hD
          have kt : ∀ b xs, H3 b = some (.tup xs) → (upd H3 D (.lst (ps ++ [x]))) b = some (.tup xs) := keep_lst hD3
          refine ⟨_, hD3, sz_lt (by omega), ps ++ [x], Ws ++ [W], by rw [List.length_append, hl]; rfl, upd_same, All2.snoc (GAt.keep kt _ _ _ hx) _ _ (All2.mono (fun v W h => GAt.keep kt _ _ _ (h.kp hP' kp3)) _ _ hA), fun hb W' hm => ?_, (kp'.trans kp3).new nD, hP3.new pD.1 pD.2⟩
          rcases List.mem_append.mp hm with z | z
          · exact hW hb W' z
          · rw [List.mem_singleton.mp z]
            exact hw hb
        · rintro H3 ⟨ps, Ws, hl, hD, hA, hW, kp3, hP3⟩
          rw [Int.toNat_natCast] at hl
          refine ⟨D, _, rfl, .inl ⟨sq_of hD, fun u nu => ⟨by show 2 ≤ sizeLine; decide, fun t nt => ?_⟩⟩⟩
          have e3 := (Ex.new (o := .tup ps) nu).trans (Ex.new (o := .tup [.str "row", .ref u]) nt)
          refine q (.ref t) Ws.flatten _ ⟨t, _, ps, Ws, rfl, upd_same, .row (Ex.new nt _ _ upd_same) (All2.mono (fun v W h => h.ex e3) _ _ hA) (by omega)⟩ (fun hb => ?_) ((kp02.trans kp3).trans (Keep.ofEx e3)) (hP3.ex e3)
          have h1 := sum_lt Ws (hW hb)
          rw [flat_len, p3]
          rw [← All2.len _ _ hA] at h1
          have h2 := Nat.mul_le_mul_right (6 * 3 ^ d) (show ps.length ≤ 3 by omega)
          omega
      refine ⟨_, rfl, _, rfl, p, c, ns, big, rfl, hP1, fun often H2 ho hob kp2 hP2 => ?_⟩
      refine call H2 rfl rfl rfl rfl (kp1.trans kp2) hP2 fun part W H3 hx hw kp3 hP3 => ?_
      have kp03 := (kp1.trans kp2).trans kp3
      refine ⟨_, rfl, rfl, _, rfl, ite2 (fun h2 => ?_) (fun h2 => ?_)⟩
      · refine ⟨_, rfl, _, rfl, by show 3 ≤ sizeLine; decide, fun t nt => ?_⟩
        have e4 := Ex.new (o := .tup [.str "again", .int (often : Int), part]) nt
        refine q (.ref t) _ _ ⟨t, _, [part], [W], rfl, upd_same, .again ho (hx.ex e4)⟩ (fun hb => ?_) (kp03.trans (Keep.ofEx e4)) (hP3.ex e4)
        rw [rep_len, p3]
        have := Nat.mul_le_mul (hob hb) (hw hb)
        omega
      · obtain ⟨ao, ap, ac, g0, g1, g2, g3⟩ := hs.keep hP kp03
        have o0 : os ≠ [] := fun z => by have := hS.o1; rw [z] at this; exact absurd this (by decide)
        have c0 : qs ≠ [] := fun z => by have := hS.c1; rw [z] at this; exact absurd this (by decide)
        refine draw_rd hP3 rfl rfl g0 (show atI [V.ref ao, .ref ap, .ref ac] 0 = some (.ref ao) from rfl) g1 o0 (by have := hS.o4; omega) fun a H4 ha kp4 hP4 => ?_
        refine ⟨_, rfl, _, rfl, _, rfl, draw_rd hP4 rfl rfl (kp4 _ _ (hP3.ne_tup g0) g0) (show atI [V.ref ao, .ref ap, .ref ac] 2 = some (.ref ac) from rfl) (kp4 _ _ (hP3.ne_tup g3) g3) c0 (by have := hS.c4; omega) fun z H5 hz kp5 hP5 => ⟨by show 5 ≤ sizeLine; decide, fun t nt => ?_⟩⟩
        have e6 := Ex.new (o := .tup [.str "wrap", .int (often : Int), .str a, part, .str z]) nt
        refine q (.ref t) _ _ ⟨t, _, [part], [W], rfl, upd_same, .wrap ho ha hz (((hx.kp hP3 kp4).kp hP4 kp5).ex e6)⟩ (fun hb => ?_) (((kp03.trans kp4).trans kp5).trans (Keep.ofEx e6)) (hP5.ex e6)
        rw [List.length_append, List.length_append, List.length_replicate, List.length_replicate, p3]
        have h1 := hob hb
        have h3 := hw hb
        have h4 : 1 ≤ 3 ^ d := Nat.one_le_pow _ _ (by decide)
        omega
end
end Eh
set_option Elab.async false
set_option linter.all false
set_option maxRecDepth 100000
set_option maxHeartbeats 4000000
namespace Eh
open PySem PySem.Spec PyProof.Rows L2 Evl RZ
abbrev nSame : List Str := ["found", "due", "one", "other"]
theorem scSame : FnScope nSame ["found", "due"] (defScope sSame) := ⟨rfl, rfl, rfl, by decide +kernel, rfl, by decide +kernel, by decide +kernel⟩
/-- alike to so many levels -/
def Eqn : Nat → Hp → V → V → Prop
  | 0, _, x, y => ∃ z, x = .str z ∧ y = .str z
  | n + 1, H, x, y => (∃ z, x = .str z ∧ y = .str z) ∨ ∃ a b xs ys, x = .ref a ∧ y = .ref b ∧ H a = some (.tup xs) ∧ H b = some (.tup ys) ∧ xs.length = ys.length ∧ xs.length ≤ 10000 ∧ ∀ (i : Nat) v w, xs[i]? = some v → ys[i]? = some w → Eqn n H v w
theorem Eqn.ex {H H' : Hp} (e : Ex H H') : ∀ (n : Nat) (x y : V), Eqn n H x y → Eqn n H' x y
  | 0, x, y, h => h
  | n + 1, x, y, h => by
    rcases h with h | ⟨a, b, xs, ys, e1, e2, h1, h2, h3, h4, h5⟩
    · exact .inl h
    · exact .inr ⟨a, b, xs, ys, e1, e2, e _ _ h1, e _ _ h2, h3, h4, fun i v w hv hw => Eqn.ex e n v w (h5 i v w hv hw)⟩
theorem Eqn.up {H : Hp} : ∀ (n : Nat) (x y : V), Eqn n H x y → Eqn (n + 1) H x y
  | 0, x, y, h => .inl h
  | n + 1, x, y, h => by
    rcases h with h | ⟨a, b, xs, ys, e1, e2, h1, h2, h3, h4, h5⟩
    · exact .inl h
    · exact .inr ⟨a, b, xs, ys, e1, e2, h1, h2, h3, h4, fun i v w hv hw => Eqn.up n v w (h5 i v w hv hw)⟩
theorem Eqn.le {H : Hp} {n m : Nat} (h : n ≤ m) {x y : V} (e : Eqn n H x y) : Eqn m H x y := by
  induction h with
  | refl => exact e
  | step _ ih => exact Eqn.up _ _ _ ih
structure SameK (mg : Str → Option Value) : Prop where
  isi : mg "isinstance" = none
  bool : mg "bool" = none
  str : mg "str" = none
  int : mg "int" = none
  tuple : mg "tuple" = none
  list : mg "list" = none
  len : mg "len" = none
  all : mg "all" = none
  zip : mg "zip" = none
theorem lc_zipT {K : PySem.W.Frag} {a b : Addr} {xs ys : List V} {tt : TT} {te : TE} {σ : L2.St} {H1 : Hp} {Dd : Addr} {Qd : Hp → Prop} {i1 i2 : Nat} {vs : List Nat} (hl : xs.length = ys.length) (Pv : Nat → Hp → Prop) (h0 : Pv 0 (upd H1 Dd (.lst []))) (hq : ∀ i H, i ≤ xs.length → Pv i H → SqT K H a xs ∧ SqT K H b ys)
    (hs : ∀ i x y H T, xs[i]? = some x → ys[i]? = some y → Pv i H → H T = none → wipe (((wipe σ vs).set i1 (some x)).set i2 (some y)) vs = wipe σ vs ∧ tt (((wipe σ vs).set i1 (some x)).set i2 (some y)) (upd H T (.tup [x, y])) fun b H3 => if b = true then te (((wipe σ vs).set i1 (some x)).set i2 (some y)) H3 fun z H4 => ∃ acc, H4 Dd = some (.lst acc) ∧ acc.length < sizeLine ∧ Pv (i + 1) (upd H4 Dd (.lst (acc ++ [z]))) else Pv (i + 1) H3)
    (hd : ∀ H, Pv xs.length H → Qd H) :
    ∃ W : Nat → Nat → Hp → Prop, (∃ m, W 0 m (upd H1 Dd (.lst []))) ∧ ∀ i m H, W i m H → ((ItzT K a b).stop i H ∧ Qd H) ∨ ((ItzT K a b).go i H ∧ ∃ Nx : Hp → Prop, (∀ H', Nx H' → ∃ m', m' < m ∧ W (i + 1) m' H') ∧ ∀ x H', (ItzT K a b).yld i H x H' → gTup K 2 (gCons (gName i1) (gCons (gName i2) gNil)) x (wipe σ vs) H' fun σ2 H2 => wipe σ2 vs = wipe σ vs ∧ tt σ2 H2 fun b H3 => if b = true then te σ2 H3 fun z H4 => ∃ acc, H4 Dd = some (.lst acc) ∧ acc.length < sizeLine ∧ Nx (upd H4 Dd (.lst (acc ++ [z]))) else Nx H3) := by
  refine ⟨fun i m H => m = xs.length - i ∧ i ≤ xs.length ∧ Pv i H, ⟨xs.length, by omega, Nat.zero_le _, h0⟩, ?_⟩
  rintro i m H ⟨rfl, hi, pp⟩
  obtain ⟨q1, q2⟩ := hq i H hi pp
  by_cases hlt : i < xs.length
  · have g1 : xs[i]? = some xs[i] := List.getElem?_eq_getElem hlt
    have g2 : ys[i]? = some ys[i] := List.getElem?_eq_getElem (by omega)
    refine .inr ⟨⟨xs, ys, _, _, q1, q2, g1, g2⟩, Pv (i + 1), fun H' p' => ⟨xs.length - (i + 1), by omega, rfl, hlt, p'⟩, fun v H' y => ?_⟩
    obtain ⟨T, x, y, rfl, nT, rfl, f1, f2⟩ := y
    exact ⟨T, [x, y], rfl, st_of upd_same, rfl, _, _, rfl, _, _, rfl, rfl, hs i x y H T (f1 xs q1) (f2 ys q2) pp nT⟩
  · have e : i = xs.length := by omega
    subst e
    exact .inl ⟨⟨xs, ys, q1, q2, .inl (Nat.le_refl _)⟩, hd H pp⟩
section
variable {P : Program} {w : World} {K : PySem.W.Frag} {mg : Str → Option Value} {base : Heap}
def spSame (n : Nat) : Sp := fun vs H Q _ => ∃ x y, vs = [x, y] ∧ Eqn n H x y ∧ ∀ H', Ex H H' → Q (.bl true) H'
theorem ok_same {f : Addr} {fd : FuncData} (F : Fun K "_law_same" "_law_same" sSame f fd) (T : SameK mg) (bS : Binds K fd ["found", "due"] []) (gS : mg "_law_same" = some (.ref f)) : ∀ (n k : Nat), FnOk P w K mg base CX0 (k + 1 + n) f fd ["found", "due"] (spSame n)
  | 0, k => by
    have nd := scSame.nd
    refine F.ok scSame (fun vs H Q E h => ?_) (fun cdv A outer s H vs Q E hr h => ?_)
    · obtain ⟨x, y, rfl, _⟩ := h
      rfl
    · obtain ⟨x, y, rfl, ⟨z, rfl, rfl⟩, q⟩ := h
      refine ⟨_, pss_cons (ps_if (PW.pt (pw_or (pt_cmpR op_isN (pv 1) pe_non (nomark _)) (pw_or1 (pt_val (pe_callB call_isi (by rfl) T.isi (by decide +kernel) (pa_cons (pv 1) (pa_cons (pe_bltn (v := .ty "bool") (by rfl) T.bool (by decide +kernel) rfl) pa_nil))))))) (pss_one (ps_never)) pss_nil) (pss_cons (ps_if (pt_val (pe_callB call_isi (by rfl) T.isi (by decide +kernel) (pa_cons (pv 1) (pa_cons (pe_bltn (v := .ty "str") (by rfl) T.str (by decide +kernel) rfl) pa_nil)))) (pss_one (ps_ret (pe_and (pe_callB call_isi (by rfl) T.isi (by decide +kernel) (pa_cons (pv 0) (pa_cons (pe_bltn (v := .ty "str") (by rfl) T.str (by decide +kernel) rfl) pa_nil))) (pe_one (pe_cmpR op_eq (pv 0) (pv 1) (nomark _)))))) pss_nil) pss_never), ?_⟩
      refine ⟨_, rfl, rfl, _, rfl, iteF ⟨_, rfl, _, _, _, _, false, rfl, .ty _, .base (.str z), kit_ty (by decide +kernel), _, rfl, iteF ?_⟩⟩
      refine ⟨_, rfl, _, _, _, _, true, rfl, .ty _, .base (.str z), kit_ty (by decide +kernel), _, rfl, iteT ⟨_, rfl, _, _, _, _, true, rfl, .ty _, .base (.str z), kit_ty (by decide +kernel), _, rfl, iteT ⟨_, rfl, _, rfl, rfl, ?_⟩⟩⟩
      rw [decide_eq_true rfl]
      exact q _ (Ex.refl _)
  | n + 1, k => by
    have nd := scSame.nd
    have G0 : FnOk P w K mg base CX0 (k + 1 + n) f fd ["found", "due"] (spSame n) := ok_same F T bS gS n k
    refine F.ok scSame (fun vs H Q E h => ?_) (fun cdv A outer s H vs Q E hr h => ?_)
    · obtain ⟨x, y, rfl, _⟩ := h
      rfl
    · obtain ⟨x, y, rfl, hE, q⟩ := h
      refine ⟨_, pss_cons (ps_if (PW.pt (pw_or (pt_cmpR op_isN (pv 1) pe_non (nomark _)) (pw_or1 (pt_val (pe_callB call_isi (by rfl) T.isi (by decide +kernel) (pa_cons (pv 1) (pa_cons (pe_bltn (v := .ty "bool") (by rfl) T.bool (by decide +kernel) rfl) pa_nil))))))) (pss_one (ps_never)) pss_nil) (pss_cons (ps_if (pt_val (pe_callB call_isi (by rfl) T.isi (by decide +kernel) (pa_cons (pv 1) (pa_cons (pe_bltn (v := .ty "str") (by rfl) T.str (by decide +kernel) rfl) pa_nil)))) (pss_one (ps_ret (pe_and (pe_callB call_isi (by rfl) T.isi (by decide +kernel) (pa_cons (pv 0) (pa_cons (pe_bltn (v := .ty "str") (by rfl) T.str (by decide +kernel) rfl) pa_nil))) (pe_one (pe_cmpR op_eq (pv 0) (pv 1) (nomark _)))))) pss_nil) (pss_cons (ps_if (pt_val (pe_callB call_isi (by rfl) T.isi (by decide +kernel) (pa_cons (pv 1) (pa_cons (pe_bltn (v := .ty "int") (by rfl) T.int (by decide +kernel) rfl) pa_nil)))) (pss_one (ps_never)) pss_nil) (pss_cons (ps_if (PW.pt (pw_or (pt_cmpR op_ne (pe_callB call_isi (by rfl) T.isi (by decide +kernel) (pa_cons (pv 1) (pa_cons (pe_bltn (v := .ty "tuple") (by rfl) T.tuple (by decide +kernel) rfl) pa_nil))) (pe_callB call_isi (by rfl) T.isi (by decide +kernel) (pa_cons (pv 0) (pa_cons (pe_bltn (v := .ty "tuple") (by rfl) T.tuple (by decide +kernel) rfl) pa_nil))) (nomark _)) (pw_or1 (pt_cmpR op_ne (pe_callB call_isi (by rfl) T.isi (by decide +kernel) (pa_cons (pv 1) (pa_cons (pe_bltn (v := .ty "list") (by rfl) T.list (by decide +kernel) rfl) pa_nil))) (pe_callB call_isi (by rfl) T.isi (by decide +kernel) (pa_cons (pv 0) (pa_cons (pe_bltn (v := .ty "list") (by rfl) T.list (by decide +kernel) rfl) pa_nil))) (nomark _))))) (pss_one (ps_never)) pss_nil) (pss_one (ps_ret (pe_and (pe_cmpR op_eq (pe_callB call_len_seq (by rfl) T.len PySem.boot_len (pa_cons (pv 0) pa_nil)) (pe_callB call_len_seq (by rfl) T.len PySem.boot_len (pa_cons (pv 1) pa_nil)) (nomark _)) (pe_one (pe_callB (cr_all rfl) (by rfl) T.all (by decide +kernel) (pa_cons (pe_lc (own := [("one", 2), ("other", 3)]) (g := gTup K 2 (gCons (gName 2) (gCons (gName 3) gNil))) (tt := tYes) (te := tCall (spSame n) [] E0 (tCons (tVar 2) (tCons (tVar 3) tNil))) rfl nd (pi_zipA (by rfl) T.zip (pa_cons (pv 0) (pa_cons (pv 1) pa_nil))) (blkOk_by (own := [("one", 2), ("other", 3)]) (N := nSame) (sc := defScope sSame) (by decide +kernel)) (fun _ _ _ _ _ => pg_tup rfl (pgs_cons (pg_name (i := 2) nd rfl (.inl rfl)) (pgs_cons (pg_name (i := 3) nd rfl (.inl rfl)) pgs_nil))) (fun _ _ _ _ _ => pts_nil) (fun _ _ _ _ _ => pe_call G0 hr (by rfl) gS F.kp bS .nil pass0 (pa_cons (pv 2) (pa_cons (pv 3) pa_nil)))) pa_nil))))))))), ?_⟩
      rcases hE with ⟨z, rfl, rfl⟩ | ⟨a, b, xs, ys, rfl, rfl, ha, hb, hl, hlen, hall⟩
      · refine ⟨_, rfl, rfl, _, rfl, iteF ⟨_, rfl, _, _, _, _, false, rfl, .ty _, .base (.str z), kit_ty (by decide +kernel), _, rfl, iteF ?_⟩⟩
        refine ⟨_, rfl, _, _, _, _, true, rfl, .ty _, .base (.str z), kit_ty (by decide +kernel), _, rfl, iteT ⟨_, rfl, _, _, _, _, true, rfl, .ty _, .base (.str z), kit_ty (by decide +kernel), _, rfl, iteT ⟨_, rfl, _, rfl, rfl, ?_⟩⟩⟩
        rw [decide_eq_true rfl]
        exact q _ (Ex.refl _)
      · refine ⟨_, rfl, rfl, _, rfl, iteF ⟨_, rfl, _, _, _, _, false, rfl, .ty _, .base (.tup hb), kit_ty (by decide +kernel), _, rfl, iteF ?_⟩⟩
        refine ⟨_, rfl, _, _, _, _, false, rfl, .ty _, .base (.tup hb), kit_ty (by decide +kernel), _, rfl, iteF ?_⟩
        refine ⟨_, rfl, _, _, _, _, false, rfl, .ty _, .base (.tup hb), kit_ty (by decide +kernel), _, rfl, iteF ?_⟩
        refine ⟨_, rfl, _, _, _, _, true, rfl, .ty _, .base (.tup hb), kit_ty (by decide +kernel), _, rfl, _, _, _, _, true, rfl, .ty _, .base (.tup ha), kit_ty (by decide +kernel), rfl, _, rfl, iteF ?_⟩
        refine ⟨_, rfl, _, _, _, _, false, rfl, .ty _, .base (.tup hb), kit_ty (by decide +kernel), _, rfl, _, _, _, _, false, rfl, .ty _, .base (.tup ha), kit_ty (by decide +kernel), rfl, _, rfl, iteF ?_⟩
        refine ⟨_, rfl, a, _, rfl, .inr (st_of ha), _, rfl, b, _, rfl, .inr (st_of hb), rfl, _, rfl, ?_⟩
        rw [hl, decide_eq_true rfl]
        refine iteT ⟨_, rfl, _, rfl, a, b, xs, ys, rfl, .inr ⟨st_of ha, st_of hb, fun D nD => ?_⟩⟩
        have xD := Ex.new (o := .lst []) nD
        refine lc_zipT (xs := xs) (ys := ys) hl (fun i H' => Ex H H' ∧ H' D = some (.lst ((List.replicate i true).map V.bl))) ⟨xD, upd_same⟩ (fun i H' _ hh => ⟨st_of (hh.1 _ _ ha), st_of (hh.1 _ _ hb)⟩) ?_ ?_
        · rintro i x y H' Tp hx hy ⟨eH, hD⟩ nT
          have hi := (List.getElem?_eq_some_iff.mp hx).1
          have eT : Ex H' (upd H' Tp (.tup [x, y])) := Ex.new nT
          refine ⟨rfl, yesT ⟨_, rfl, _, rfl, x, y, rfl, Eqn.ex (eH.trans eT) n x y (hall i x y hx hy), fun H2 e2 => ⟨_, e2 _ _ (eT _ _ hD), ?_, ((eH.trans eT).trans e2).mut nD, ?_⟩⟩⟩
          · rw [List.length_map, List.length_replicate]
            exact sz_lt (by omega)
          · rw [upd_same, List.replicate_succ', List.map_append]
            rfl
        · rintro H' ⟨eH, hD⟩
          refine ⟨D, List.replicate xs.length true, rfl, sq_of hD, ?_⟩
          rw [show (List.replicate xs.length true).all id = true by
            rw [List.all_eq_true]
            intro z hz
            exact List.eq_of_mem_replicate hz]
          exact q H' eH
theorem str_at {W : List Str} {p : Nat} {x : Str} (h : W[p]? = some x) : atI (W.map V.str) (p : Int) = some (.str x) := by
  refine atI_nat ?_
  rw [List.getElem?_map, h]
  rfl
end
end Eh
set_option Elab.async false
set_option linter.all false
set_option maxRecDepth 100000
set_option maxHeartbeats 4000000
namespace Eh
open PySem PySem.Spec PyProof.Rows L2 Evl RZ
theorem lc_zip {K : PySem.W.Frag} {a b : Addr} {xs ys : List V} {tt : TT} {te : TE} {σ : L2.St} {H1 : Hp} {Dd : Addr} {Qd : Hp → Prop} {i1 i2 : Nat} {vs : List Nat} (hl : xs.length = ys.length) (Pv : Nat → Hp → Prop) (h0 : Pv 0 (upd H1 Dd (.lst []))) (hq : ∀ i H, i ≤ xs.length → Pv i H → SqL K H a xs ∧ SqL K H b ys)
    (hs : ∀ i x y H T, xs[i]? = some x → ys[i]? = some y → Pv i H → H T = none → wipe (((wipe σ vs).set i1 (some x)).set i2 (some y)) vs = wipe σ vs ∧ tt (((wipe σ vs).set i1 (some x)).set i2 (some y)) (upd H T (.tup [x, y])) fun b H3 => if b = true then te (((wipe σ vs).set i1 (some x)).set i2 (some y)) H3 fun z H4 => ∃ acc, H4 Dd = some (.lst acc) ∧ acc.length < sizeLine ∧ Pv (i + 1) (upd H4 Dd (.lst (acc ++ [z]))) else Pv (i + 1) H3)
    (hd : ∀ H, Pv xs.length H → Qd H) :
    ∃ W : Nat → Nat → Hp → Prop, (∃ m, W 0 m (upd H1 Dd (.lst []))) ∧ ∀ i m H, W i m H → ((Itz K a b).stop i H ∧ Qd H) ∨ ((Itz K a b).go i H ∧ ∃ Nx : Hp → Prop, (∀ H', Nx H' → ∃ m', m' < m ∧ W (i + 1) m' H') ∧ ∀ x H', (Itz K a b).yld i H x H' → gTup K 2 (gCons (gName i1) (gCons (gName i2) gNil)) x (wipe σ vs) H' fun σ2 H2 => wipe σ2 vs = wipe σ vs ∧ tt σ2 H2 fun b H3 => if b = true then te σ2 H3 fun z H4 => ∃ acc, H4 Dd = some (.lst acc) ∧ acc.length < sizeLine ∧ Nx (upd H4 Dd (.lst (acc ++ [z]))) else Nx H3) := by
  refine ⟨fun i m H => m = xs.length - i ∧ i ≤ xs.length ∧ Pv i H, ⟨xs.length, by omega, Nat.zero_le _, h0⟩, ?_⟩
  rintro i m H ⟨rfl, hi, pp⟩
  obtain ⟨q1, q2⟩ := hq i H hi pp
  by_cases hlt : i < xs.length
  · have g1 : xs[i]? = some xs[i] := List.getElem?_eq_getElem hlt
    have g2 : ys[i]? = some ys[i] := List.getElem?_eq_getElem (by omega)
    refine .inr ⟨⟨xs, ys, _, _, q1, q2, g1, g2⟩, Pv (i + 1), fun H' p' => ⟨xs.length - (i + 1), by omega, rfl, hlt, p'⟩, fun v H' y => ?_⟩
    obtain ⟨T, x, y, rfl, nT, rfl, f1, f2⟩ := y
    exact ⟨T, [x, y], rfl, st_of upd_same, rfl, _, _, rfl, _, _, rfl, rfl, hs i x y H T (f1 xs q1) (f2 ys q2) pp nT⟩
  · have e : i = xs.length := by omega
    subst e
    exact .inl ⟨⟨xs, ys, q1, q2, .inl (Nat.le_refl _)⟩, hd H pp⟩
section
variable {P : Program} {w : World} {K : PySem.W.Frag} {mg : Str → Option Value} {base : Heap}
def spSameL : Sp := fun vs H Q _ => ∃ (a b : Addr) (ws : List Str), vs = [.ref a, .ref b] ∧ H a = some (lS ws) ∧ H b = some (lS ws) ∧ ws.length ≤ 10000 ∧ ∀ H', Ex H H' → Q (.bl true) H'
theorem ok_sameL {f : Addr} {fd : FuncData} {k : Nat} (F : Fun K "_law_same" "_law_same" sSame f fd) (T : SameK mg) (bS : Binds K fd ["found", "due"] []) (gS : mg "_law_same" = some (.ref f)) : FnOk P w K mg base CX0 (k + 2) f fd ["found", "due"] spSameL := by
  have nd := scSame.nd
  have G0 : FnOk P w K mg base CX0 (k + 1 + 0) f fd ["found", "due"] (spSame 0) := ok_same F T bS gS 0 k
  refine F.ok scSame (fun vs H Q E h => ?_) (fun cdv A outer s H vs Q E hr h => ?_)
  · obtain ⟨a, b, ws, rfl, _⟩ := h
    rfl
  · obtain ⟨a, b, ws, rfl, ha, hb, hlen, q⟩ := h
    refine ⟨_, pss_cons (ps_if (PW.pt (pw_or (pt_cmpR op_isN (pv 1) pe_non (nomark _)) (pw_or1 (pt_val (pe_callB call_isi (by rfl) T.isi (by decide +kernel) (pa_cons (pv 1) (pa_cons (pe_bltn (v := .ty "bool") (by rfl) T.bool (by decide +kernel) rfl) pa_nil))))))) (pss_one (ps_never)) pss_nil) (pss_cons (ps_if (pt_val (pe_callB call_isi (by rfl) T.isi (by decide +kernel) (pa_cons (pv 1) (pa_cons (pe_bltn (v := .ty "str") (by rfl) T.str (by decide +kernel) rfl) pa_nil)))) (pss_one (ps_ret (pe_and (pe_callB call_isi (by rfl) T.isi (by decide +kernel) (pa_cons (pv 0) (pa_cons (pe_bltn (v := .ty "str") (by rfl) T.str (by decide +kernel) rfl) pa_nil))) (pe_one (pe_cmpR op_eq (pv 0) (pv 1) (nomark _)))))) pss_nil) (pss_cons (ps_if (pt_val (pe_callB call_isi (by rfl) T.isi (by decide +kernel) (pa_cons (pv 1) (pa_cons (pe_bltn (v := .ty "int") (by rfl) T.int (by decide +kernel) rfl) pa_nil)))) (pss_one (ps_never)) pss_nil) (pss_cons (ps_if (PW.pt (pw_or (pt_cmpR op_ne (pe_callB call_isi (by rfl) T.isi (by decide +kernel) (pa_cons (pv 1) (pa_cons (pe_bltn (v := .ty "tuple") (by rfl) T.tuple (by decide +kernel) rfl) pa_nil))) (pe_callB call_isi (by rfl) T.isi (by decide +kernel) (pa_cons (pv 0) (pa_cons (pe_bltn (v := .ty "tuple") (by rfl) T.tuple (by decide +kernel) rfl) pa_nil))) (nomark _)) (pw_or1 (pt_cmpR op_ne (pe_callB call_isi (by rfl) T.isi (by decide +kernel) (pa_cons (pv 1) (pa_cons (pe_bltn (v := .ty "list") (by rfl) T.list (by decide +kernel) rfl) pa_nil))) (pe_callB call_isi (by rfl) T.isi (by decide +kernel) (pa_cons (pv 0) (pa_cons (pe_bltn (v := .ty "list") (by rfl) T.list (by decide +kernel) rfl) pa_nil))) (nomark _))))) (pss_one (ps_never)) pss_nil) (pss_one (ps_ret (pe_and (pe_cmpR op_eq (pe_callB call_len_seq (by rfl) T.len PySem.boot_len (pa_cons (pv 0) pa_nil)) (pe_callB call_len_seq (by rfl) T.len PySem.boot_len (pa_cons (pv 1) pa_nil)) (nomark _)) (pe_one (pe_callB (cr_all rfl) (by rfl) T.all (by decide +kernel) (pa_cons (pe_lc (own := [("one", 2), ("other", 3)]) (g := gTup K 2 (gCons (gName 2) (gCons (gName 3) gNil))) (tt := tYes) (te := tCall (spSame 0) [] E0 (tCons (tVar 2) (tCons (tVar 3) tNil))) rfl nd (pi_zipA (by rfl) T.zip (pa_cons (pv 0) (pa_cons (pv 1) pa_nil))) (blkOk_by (own := [("one", 2), ("other", 3)]) (N := nSame) (sc := defScope sSame) (by decide +kernel)) (fun _ _ _ _ _ => pg_tup rfl (pgs_cons (pg_name (i := 2) nd rfl (.inl rfl)) (pgs_cons (pg_name (i := 3) nd rfl (.inl rfl)) pgs_nil))) (fun _ _ _ _ _ => pts_nil) (fun _ _ _ _ _ => pe_call G0 hr (by rfl) gS F.kp bS .nil pass0 (pa_cons (pv 2) (pa_cons (pv 3) pa_nil)))) pa_nil))))))))), ?_⟩
    refine ⟨_, rfl, rfl, _, rfl, iteF ⟨_, rfl, _, _, _, _, false, rfl, .ty _, .base (.lst hb), kit_ty (by decide +kernel), _, rfl, iteF ?_⟩⟩
    refine ⟨_, rfl, _, _, _, _, false, rfl, .ty _, .base (.lst hb), kit_ty (by decide +kernel), _, rfl, iteF ?_⟩
    refine ⟨_, rfl, _, _, _, _, false, rfl, .ty _, .base (.lst hb), kit_ty (by decide +kernel), _, rfl, iteF ?_⟩
    refine ⟨_, rfl, _, _, _, _, false, rfl, .ty _, .base (.lst hb), kit_ty (by decide +kernel), _, rfl, _, _, _, _, false, rfl, .ty _, .base (.lst ha), kit_ty (by decide +kernel), rfl, _, rfl, iteF ?_⟩
    refine ⟨_, rfl, _, _, _, _, true, rfl, .ty _, .base (.lst hb), kit_ty (by decide +kernel), _, rfl, _, _, _, _, true, rfl, .ty _, .base (.lst ha), kit_ty (by decide +kernel), rfl, _, rfl, iteF ?_⟩
    refine ⟨_, rfl, a, _, rfl, .inl (sq_of ha), _, rfl, b, _, rfl, .inl (sq_of hb), rfl, _, rfl, ?_⟩
    rw [decide_eq_true rfl]
    refine iteT ⟨_, rfl, _, rfl, a, b, ws.map V.str, ws.map V.str, rfl, .inl ⟨sq_of ha, sq_of hb, fun D nD => ?_⟩⟩
    have xD := Ex.new (o := .lst []) nD
    refine lc_zip (xs := ws.map V.str) (ys := ws.map V.str) rfl (fun i H' => Ex H H' ∧ H' D = some (.lst ((List.replicate i true).map V.bl))) ⟨xD, upd_same⟩ (fun i H' _ hh => ⟨sq_of (hh.1 _ _ ha), sq_of (hh.1 _ _ hb)⟩) ?_ ?_
    · rintro i x y H' Tp hx hy ⟨eH, hD⟩ nT
      have hi := (List.getElem?_eq_some_iff.mp hx).1
      have eT : Ex H' (upd H' Tp (.tup [x, y])) := Ex.new nT
      rw [List.length_map] at hi
      rw [List.getElem?_map] at hx hy
      obtain ⟨z, hz, rfl⟩ := Option.map_eq_some_iff.mp hx
      rw [hz] at hy
      cases hy
      refine ⟨rfl, yesT ⟨_, rfl, _, rfl, _, _, rfl, ⟨z, rfl, rfl⟩, fun H2 e2 => ⟨_, e2 _ _ (eT _ _ hD), ?_, ((eH.trans eT).trans e2).mut nD, ?_⟩⟩⟩
      · rw [List.length_map, List.length_replicate]
        exact sz_lt (by omega)
      · rw [upd_same, List.replicate_succ', List.map_append]
        rfl
    · rintro H' ⟨eH, hD⟩
      refine ⟨D, List.replicate (ws.map V.str).length true, rfl, sq_of hD, ?_⟩
      rw [show (List.replicate (ws.map V.str).length true).all id = true by
        rw [List.all_eq_true]
        intro z hz
        exact List.eq_of_mem_replicate hz]
      exact q H' eH
end
end Eh
set_option Elab.async false
set_option linter.all false
set_option maxRecDepth 100000
set_option maxHeartbeats 4000000
namespace Eh
open PySem PySem.Spec PyProof.Rows L2 NdefX
/-! an error class whose __init__ says super().__init__(text), then self.f = f -/
/-- __init__(self, f): the field is there behind it -/
def spInit (K : PySem.W.Frag) (C : Addr) (f : Str) : Sp := fun vs H Q _ => ∃ (a : Addr) (n : Int), vs = [.ref a, .int n] ∧ n.natAbs.log2 < 1900 ∧ H a = some (exo a C none) ∧
  ∀ dx, H dx = none → dx ≠ a → Q .non (upd (upd H dx (exd dx [(f, .int n)])) a (exo a C (some dx)))
theorem upd_self {H : Hp} {a : Addr} {o : HO} (h : H a = some o) : upd H a o = H := by
  funext b
  by_cases e : b = a
  · rw [e, upd_same, h]
  · rw [upd_ne e]
/-- what is written of the class and its __init__ -/
structure InitC (P : Program) (K : PySem.W.Frag) (mg : Str → Option Value) (C fI : Addr) (qual f : Str) (st : Stmt) (J : Expr) (fd : FuncData) : Prop where
  ox : OexC K C
  iC : PySem.W.findIn K (.ref C) "__init__" = some (some (.ref fI))
  tI : PySem.W.typeIn K (.ref fI) = some (.type "function")
  noF : PySem.W.findIn K (.ref C) f = some none
  sup : PySem.W.ks_superIn K C C "__init__" = some (some (.builtin "ValueError.__init__"))
  subV : PySem.W.subIn K (.ref C) (.type "ValueError") = some true
  mro : PySem.W.mroIn K C (.ref C) = some true
  opq : PySem.W.nsIn K cStatics "thirdparty.any" = some none
  msu : mg "super" = none
  top : (P.main.scope.names.lookup ("super" : Str)).isSome = false
  ex : ∃ (oc : Value) (od : Option Addr) (kV doc pm : Value) (an : Option Addr) (cda : Addr) (ct : Value) (osl : Array (Option Value)) (cc : Addr),
    fd = PySem.W.ksFn "__init__" qual (defArgs st) (defBody st) (defScope st) .none kV doc pm an (.ref cda) ct cc ∧ K.lookup fI = some ⟨oc, od, .func fd, osl⟩ ∧ PySem.W.codeIn K (.ref cda) qual = true ∧
    (∃ (cl : Value) (cld : Option Addr) (csl : Array (Option Value)), K.lookup cc = some ⟨cl, cld, .cell (some (.ref C)), csl⟩) ∧
    ∃ (ccl : Value) (cdd : Option Addr) (ccs : Array (Option Value)) (vs : Array Value) (file : Str) (tf : Tok), K.lookup cda = some ⟨ccl, cdd, .fields vs, ccs⟩ ∧ vs[2]? = some (.str file tf) ∧ ((P.main.file : Str) == file) = true
  bi : Binds K fd ["self", f] []
  sc : NScope ["self", f, "__class__"] ["self", f] ["__class__"] (defScope st)
  ksu : (defScope st).names.lookup ("super" : Str) = some .globalImplicit
  kse : (defScope st).names.lookup ("self" : Str) = some .local
  kfd : (defScope st).names.lookup f = some .local
  par : ((defArgs st).posonlyargs ++ (defArgs st).args).head?.map (·.arg) = some "self"
  fdb : (f == ("__debug__" : Str)) = false
  fcd : (f == ("__classdict__" : Str)) = false
  body : ∃ p0 p1 p2 p3 p4 q1 q2 q3 q4 : Pos, defBody st = [.Expr (.Call (.Attribute (.Call (.Name "super" p0) [] [] p1) "__init__" p2) [J] [] p3) p4, .Assign [.Attribute (.Name "self" q1) f q2] (.Name f q3) q4] ∧
    (∀ env : Env, ∃ pl : Sem Bool, eval (.Call (.Attribute (.Call (.Name "super" p0) [] [] p1) "__init__" p2) [J] [] p3) env = (do
      let ov ← attributeBase (.Call (.Name "super" p0) [] [] p1) "__init__" env (eval (.Call (.Name "super" p0) [] [] p1) env)
      standAt p2.atName
      let (f, first) ← holding [ov] (getMethod ov "__init__" pl)
      callWith p3 f first (backTo p3 (starEach [J] env)) [])) ∧ (∀ env : Env, swapsWith (.Call (.Attribute (.Call (.Name "super" p0) [] [] p1) "__init__" p2) [J] [] p3) none p4.line env = pure false) ∧
    (∀ env : Env, starEach [J] env = (false, eval J env) :: starEach [] env) ∧ (∀ env : Env, swapsWith (.Name f q3) (some (.Attribute (.Name "self" q1) f q2)) q4.line env = pure false)
  txt : ∀ X : Cx, X.N = (["self", f, "__class__"] : List Str) → X.env.scope = defScope st → ∃ tJ : TE, PE X J tJ ∧ ∀ (σ : L2.St) (H : Hp) (n : Int) (Q : VK), n.natAbs.log2 < 1900 → σ[1]? = some (some (V.int n)) → (∀ z : Str, Q (.str z) H) → tJ σ H Q
theorem isCell_of {h : Heap} {c : Addr} {cl : Value} {cld : Option Addr} {csl : Array (Option Value)} {v : Option Value} (e : h.get? c = some ⟨cl, cld, .cell v, csl⟩) : h.IsCell c v := ⟨_, e, rfl⟩
/-- the bound ValueError.__init__, called -/
theorem call_mw {X : Cx} {pins : List (Addr × Obj)} {σ : L2.St} {H : Hp} {s : Shared} {a C u : Addr} {us : List Value} {Q : Value → Shared → Prop} {A : Around} {E : Value → Shared → Prop} (T : OexC X.K C) (I : Inv X pins σ H s) (e : H a = some (exo a C none)) (hu : s.heap.get? u = some (PySem.W.kxs_mw "ValueError.__init__" a))
    (hl : us.length ≤ sizeLine) (h : ∀ s', Inv X pins σ H s' → Q .none s') : wpAny (model X.prog X.w) A (call (.ref u) us) Q E s := by
  obtain ⟨nm, q, N, bs, bm, sn, sub, ab, col, dd, k0, k1, k2, k3, k5, hC, hbm⟩ := T.cls
  obtain ⟨t1, ho⟩ := exo_at I.hok e
  obtain ⟨hp, g, d, t, os⟩ := s
  refine wpAny_call (codeAny_of_tree ?_)
  show wpAny _ A.in1 (callAny (.ref u) ⟨us, []⟩) _ _ _
  simp only [callAny]
  refine wpAny_bind (wpAny_load hu ?_)
  simp only [PySem.W.kxs_mw, show (Value.type "method-wrapper" == Value.type "method" || Value.type "method-wrapper" == Value.type "builtin_function_or_method" || Value.type "method-wrapper" == Value.type "method-wrapper") = true by decide, if_true]
  refine PySem.W.KFB.if_so (by decide) ?_
  refine wpAny_bind (PySem.W.check_bound_init F.excBase_ValueError.toExcCallFacts (I.kIn _ _ hC) ho rfl ?_)
  refine wpAny_bind (wpAny_pure (wpAny_pure ?_))
  refine ⟨plainId_quiet F.excBase_ValueError.init.plain _, codeAny_builtin F.excBase_ValueError.initEntry ?_⟩
  refine PySem.W.exc_init_tree (cls := .ref C) (t0 := t1) (dv := none) (c2 := .none) (c3 := .none) (b4 := .bool false) ho hl fun h' k hx _ => ?_
  have J := I.write (t' := t) (x := a) (e := a) (o := exo a C none) (by rw [e]; exact True.intro) (.inl rfl) k ⟨_, hx⟩ (exo_ok hx)
  rw [upd_self e] at J
  exact h _ J
theorem fn_init {P : Program} {w : World} {K : PySem.W.Frag} {mg : Str → Option Value} {base : Heap} {C fI : Addr} {qual f : Str} {st : Stmt} {J : Expr} {fd : FuncData} {k : Nat} (T : InitC P K mg C fI qual f st J fd) : FnOk P w K mg base CX0 (k + 1) fI fd ["self", f] (spInit K C f) := by
  obtain ⟨oc, od, kV, doc, pm, an, cda, ct, osl, cc, rfl, lk, hcd, ⟨ccl', cld, csl, hcell⟩, ccl, cdd, ccs, vsC, file, tf, hcode, hvs, hfile⟩ := T.ex
  obtain ⟨p0, p1, p2, p3, p4, q1, q2, q3, q4, hbody, hev, hsw, hst, hsw2⟩ := T.body
  refine ⟨fun vs H Q E h => ?_, fun A outer s H args us vs Q E hr e0 hb r hsp => ?_⟩
  · obtain ⟨a, n, rfl, _⟩ := h
    rfl
  obtain ⟨a, n, rfl, hn, ha, hq⟩ := hsp
  have KX : K.In s.heap := e0.mod.kin.keeps fun b o e => (e0.bs b o e).1
  have lim : s.heap.NoLimit := e0.mod.nolimit.keeps fun b o e => (e0.bs b o e).1
  have S := T.sc
  have CA : CellsAt [("__class__", cc)] ["__class__"] [some (V.ref C)] s.heap H := by
    have one : ∀ y c, List.lookup y [(("__class__" : Str), cc)] = some c → y = "__class__" ∧ c = cc := fun y c e => by
      have := PySem.mem_of_lookup e
      simp at this
      exact this
    refine ⟨rfl, fun y c e => ?_, fun x y c e1 e2 => (one x c e1).1.trans (one y c e2).1.symm, fun i y e => ?_⟩
    · obtain ⟨_, rfl⟩ := one y c e
      exact ⟨(e0.bs _ _ (e0.mod.kin _ _ hcell)).2, _, isCell_of (KX _ _ hcell)⟩
    · cases i with
      | zero =>
        cases e
        refine ⟨cc, by simp [List.lookup], fun v ev => ?_⟩
        cases ev
        exact ⟨.ref C, rfl, isCell_of (KX _ _ hcell)⟩
      | succ i => simp at e
  refine ks_codeAny_call_defAt (fd := PySem.W.ksFn "__init__" qual (defArgs st) (defBody st) (defScope st) .none kV doc pm an (.ref cda) ct cc) (body := defBody st) (binds := (["self", f] : List Str).zip us) hr.depth (KX _ _ lk) rfl lim (PySem.W.codeRec_of KX hcd) rfl hb S.nocell (fun ⟨n, _⟩ hy => S.par n (List.of_mem_zip hy).1) (fun h₁ hns kp => ?_) S.co S.gen S.kind
  have I : Inv (ncx CX0 P w K mg base ["self", f, "__class__"] ⟨"__init__", qual, defArgs st, defBody st, defScope st, [("__class__", cc)], cda⟩ fI A outer s H E) [] (startF ["self", f, "__class__"] [.ref a, .int n] [some (.ref C)]) H { s with heap := h₁, toks := s.toks + ((["self", f] : List Str).zip us).length } := inv_startN S hr.hd e0 rfl r CA hns kp
  cases r with
  | @cons _ u0 _ ur ra rr =>
  cases rr with
  | @cons _ u1 _ ur' rn rnil =>
  cases rnil
  obtain rfl : u0 = Value.ref a := ra
  generalize hX : ncx CX0 P w K mg base ["self", f, "__class__"] ⟨"__init__", qual, defArgs st, defBody st, defScope st, [("__class__", cc)], cda⟩ fI A outer s H E = X at I
  have eP : X.prog = P := by rw [← hX]; rfl
  have eW : X.w = w := by rw [← hX]; rfl
  have eK : X.K = K := by rw [← hX]; rfl
  have eN : X.N = (["self", f, "__class__"] : List Str) := by rw [← hX]; rfl
  have eE : X.env = PySem.W.ksEnv qual (defScope st) s.heap.objs.size fI (.ref cda) cc := by rw [← hX]; rfl
  have eA : X.A = A.deeper X.env := by rw [← hX]; rfl
  have eM : X.mg = mg := by rw [← hX]; rfl
  have hks : X.env.scope = defScope st := by rw [eE]
  have key : _root_.PySem.wpAt (model X.prog X.w) X.A (.func (defBody st) X.env) (execs (defBody st) X.env) (SP X [] { nx := fun _ H' => Q .non H', rt := Q }) X.xe { s with heap := h₁, toks := s.toks + ((["self", f] : List Str).zip [Value.ref a, u1]).length } := by
    obtain ⟨ar, har, har'⟩ : ∃ ar : Arg, ((defArgs st).posonlyargs ++ (defArgs st).args).head? = some ar ∧ ar.arg = "self" := by
      have := T.par
      cases e : ((defArgs st).posonlyargs ++ (defArgs st).args).head? with
      | none => rw [e] at this; cases this
      | some ar => rw [e] at this; exact ⟨ar, rfl, Option.some.inj this⟩
    have kS : X.env.kindOf "super" = some .globalImplicit := by rw [eE]; exact T.ksu
    have kC : X.env.kindOf "__class__" = some .free := by rw [eE]; exact S.frk _ (List.mem_singleton.mpr rfl)
    have kE : X.env.kindOf "self" = some .local := by rw [eE]; exact T.kse
    have X1 := I.kIn
    rw [eK] at X1
    have ox : OexC X.K C := by rw [eK]; exact T.ox
    obtain ⟨t1, ho⟩ := exo_at I.hok ha
    obtain ⟨nm, q, N', bs, bm, sn, sub, ab, col, dd, k0, k1, k2, k3, k5, hC, hbm⟩ := T.ox.cls
    have hC1 := X1 _ _ hC
    have IA : PySem.W.InstAt h₁ a ({ cls := .ref C, dict := none, data := .fields #[.ref t1, .none, .none, .none, .bool false, .none] } : Obj) C none := ⟨ho, rfl, rfl, trivial⟩
    rw [hbody]
    obtain ⟨pl, hev1⟩ := hev X.env
    refine ks_wpAt_execs_cons (ks_wpAt_Expr_any (ks_wpAt_MethodCall (pl := pl) (ks_wpAt_super_base (f := fI) (cc := cda) kS kC (by decide) (by rw [eE]) (X1 _ _ lk) rfl har (by rw [eE]) (X1 _ _ hcode) rfl hvs (by rw [eP]; exact hfile) (by rw [eP]; exact T.top) ?_) hev1) I.quiet (hsw X.env))
    obtain ⟨mb, hb1, hb2⟩ := I.mod.blt
    refine PySem.W.ks_loadName_global I.ok.kind kS (Calls.loadGlobal_builtin (by rw [I.ok.glob]; exact I.mod.glob.keeps I.bk) (by rw [eM]; exact T.msu) (by rw [I.ok.blt]; exact hb1.keeps I.bk) ((hb2 "super" (by decide)).trans PyProof.Rows.Boot.«super») ⟨rfl, ?_⟩)
    refine wpAny_loadName_free (c := cc) (v := .ref C) I.ok.kind kC (by rw [eE]; simp [List.lookup]) ⟨_, X1 _ _ hcell, rfl⟩ ?_
    rw [har']
    have ndP : (["self", f] : List Str).Nodup := by
      have q := S.nd.sublist (List.take_sublist 2 _)
      exact q
    refine wpAny_loadName_local (v := .ref a) I.ok.kind kE (by rw [eE]; exact hns) (zip_look (i := 0) ndP rfl rfl) ?_
    refine ks_wpAny_isType_cls hC1 rfl ⟨rfl, ?_⟩
    refine ks_wpAny_call_super hC1 rfl ho rfl (fun c e => by cases e) (PySem.W.looks_mroIn X1 T.mro) (fun h2 e2 k2 => ?_)
    have I2 : Inv X [] _ H { s with heap := h2, toks := _ } := I.kept (t' := s.toks + ((["self", f] : List Str).zip [Value.ref a, u1]).length) k2
    have X2 : K.In h2 := X1.keeps k2
    have IA2 : PySem.W.InstAt h2 a ({ cls := .ref C, dict := none, data := .fields #[.ref t1, .none, .none, .none, .bool false, .none] } : Obj) C none := ⟨k2 _ _ ho, rfl, rfl, trivial⟩
    have hcl : PySem.W.clsIn K C = some { name := nm, bases := bs, mro := .ref C :: bm, ns := N', qualname := q, hasDict := true, slotNames := sn, subclasses := sub, abstract := ab, collection := col, hasDel := false } := by unfold PySem.W.clsIn; rw [hC] <;> rfl
    have hsup := T.sup
    unfold PySem.W.ks_superIn at hsup
    rw [hcl] at hsup
    have hI : PySem.W.Looks (model X.prog X.w) h2 (isInstance (.ref a) (.type "ValueError")) true := IA2.type.andThen (PySem.W.looks_subIn X2 T.subV)
    refine PySem.W.kxs_getMethod PySem.W.kxs_ValueError e2 (PySem.W.looks_opaque X2 T.opq) (l₀ := .ref C :: bm) (fun A Q E s k q => wpAny_bind ((PySem.W.looks_clsIn X2 hcl) A _ E s k (wpAny_pure q))) rfl X2 hsup hI (PySem.W.ks_ne X2 IA2 hcl) (by decide) ?_
    have I3 : Inv X [] _ H { s with heap := h2.push (PySem.W.kxs_mw "ValueError.__init__" a), toks := _ } := I2.kept (t' := s.toks + ((["self", f] : List Str).zip [Value.ref a, u1]).length + 1) fun b o e => Heap.get?_push_of_some _ e
    have I4 : Inv X [(h2.objs.size, PySem.W.kxs_mw "ValueError.__init__" a)] _ H _ := I3.pins_of fun p hp => by
      rw [List.mem_singleton.mp hp]
      exact ⟨Heap.get?_push_at rfl rfl, I2.hok.fresh (Nat.le_refl _), Nat.ne_of_gt I2.lt, I2.nofs (Nat.le_refl _), fun v z => by cases z⟩
    obtain ⟨tJ, pJ, rJ⟩ := T.txt X eN hks
    have hu1 : ∃ t, u1 = Value.int n t := rn
    have hσ : (startF (["self", f, "__class__"] : List Str) [V.ref a, V.int n] [some (V.ref C)]) = [some (V.ref a), some (.int n), some (.ref C)] := rfl
    have aft : ∀ s6, Inv X [] [some (V.ref a), some (.int n), some (.ref C)] H s6 → wpAny (model X.prog X.w) X.A (execs [.Assign [.Attribute (.Name "self" q1) f q2] (.Name f q3) q4] X.env) (SP X [] { nx := fun _ H' => Q .non H', rt := Q }) X.xe s6 := fun s6 I6 => by
      refine (pss_one (ps_ost (pe_var (i := 0) (by rw [eN]; rfl) (.inl (by rw [hks]; exact T.kse))) (pe_var (i := 1) (by rw [eN]; rfl) (.inl (by rw [hks]; exact T.kfd)) T.fdb T.fcd) (hsw2 X.env))).run [] s6 _ H _ I6 ?_
      refine ⟨_, rfl, _, rfl, a, C, rfl, ox, by rw [eK]; exact T.noF, .inl ⟨ha, fun dx n1 n2 => hq dx n1 n2⟩⟩
    rw [hst]
    refine PySem.W.kxs_callWith (i := "ValueError.__init__") (x := a) rfl (Calls.evalArgs_plain ?_)
    refine Calls.spliced_cons (thn (pJ.run _ _ _ _ _ I4 (rJ _ H n (fun v H' => (∃ z, v = V.str z) ∧ H' = H) hn rfl fun z => ⟨⟨z, rfl⟩, rfl⟩)) fun u s5 ⟨v, H5, I5, r5, ⟨z, ez⟩, eH⟩ => ?_)
    subst eH
    refine Calls.spliced_nil ⟨(I5.pin (h2.objs.size, PySem.W.kxs_mw "ValueError.__init__" a) (List.mem_append_right _ (List.mem_singleton.mpr rfl))).1, ?_⟩
    refine call_mw ox I5 ha (I5.pin (h2.objs.size, PySem.W.kxs_mw "ValueError.__init__" a) (List.mem_append_right _ (List.mem_singleton.mpr rfl))).1 (by show 1 ≤ sizeLine; rw [sizeLine_eq]; omega) fun s6 I6 => ?_
    have I7 : Inv X [] _ H5 s6 := I6.pins_of fun p hp => (List.not_mem_nil hp).elim
    exact wpAt_of_wpAny (aft s6 I7)
  subst hX
  refine ks_wpAt_mono key (fun fl s' hs => ?_) (fun e s' hs => hs)
  have fin : ∀ {σ' : L2.St} {H' : Hp} {v : V} {u : Value}, Inv (ncx CX0 P w K mg base ["self", f, "__class__"] ⟨"__init__", qual, defArgs st, defBody st, defScope st, [("__class__", cc)], cda⟩ fI A outer s H E) [] σ' H' s' → L2.RelV v u → Q v H' → CE outer P w H s Q u s' :=
    fun {σ' H' v u} J rv q => ⟨v, H', J.os, J.bare, J.base, J.hok, rv, q⟩
  cases fl with
  | ret u =>
    obtain ⟨v, σ', H', J, rv, q⟩ := hs
    exact fin J rv q
  | next =>
    obtain ⟨σ', H', J, q⟩ := hs
    exact fin (v := V.non) (u := Value.none) J rfl q
  | brk =>
    obtain ⟨_, _, _, q⟩ := hs
    exact False.elim q
  | cont =>
    obtain ⟨_, _, _, q⟩ := hs
    exact False.elim q
/-- C(e): a new error -/
theorem pmk_err {X : Cx} {x qual f : Str} {C fI : Addr} {st : Stmt} {J e : Expr} {fd : FuncData} {ta : TA} {p pos : Pos} {k : Nat} (T : InitC X.prog X.K X.mg C fI qual f st J fd) (hr : Room (k + 2) X.A) (hg : Gl X x) (hm : X.mg x = some (.ref C)) (ha : PA X [e] ta)
    (hdb : (x == ("__debug__" : Str)) = false := by decide) (he : starEach [e] X.env = (false, eval e X.env) :: starEach [] X.env := by rfl) : PMk X (.Call (.Name x p) [e] [] pos) (tMkO C (spInit X.K C f) [] ta) := by
  have G : FnOk X.prog X.w X.K X.mg X.base CX0 (k + 1) fI fd ["self", f] (spInit X.K C f) := fn_init T
  exact pmk_oex T.ox T.iC T.tI G hr T.bi .nil pass0 hg hm ha hdb he rfl
/-- .. its own dict at d holds f -/
theorem mk_rd {K : PySem.W.Frag} {C : Addr} {f : Str} {n : Int} {H1 : Hp} {Q : XK} (hn : n.natAbs.log2 < 1900) (q : ∀ d, H1 d = none → Q (.ref C) (some d) (upd H1 d (.xd [(f, .int n)]))) : ([V.int n] : List V).length ≤ 1000 ∧ ∀ a, H1 a = none → spInit K C f (.ref a :: ([V.int n] ++ [])) (upd H1 a (exo a C none))
      (fun v H2 => v = .non ∧ ∃ (d : Addr) (fs : List (Str × V)), H2 a = some (exo a C (some d)) ∧ H2 d = some (exd d fs) ∧ H1 d = none ∧ Q (.ref C) (some d) (upd (del H2 a) d (.xd fs))) (fun _ _ _ => False) := by
  refine ⟨by show 1 ≤ 1000; decide, fun a na => ⟨a, n, rfl, hn, upd_same, fun dx n1 n2 => ⟨rfl, dx, [(f, .int n)], upd_same, ?_, ?_, ?_⟩⟩⟩
  · rw [upd_ne n2, upd_same]
  · rw [upd_ne n2] at n1
    exact n1
  · rw [upd_ne n2] at n1
    have e : upd (del (upd (upd (upd H1 a (exo a C none)) dx (exd dx [(f, .int n)])) a (exo a C (some dx))) a) dx (.xd [(f, .int n)]) = upd H1 dx (.xd [(f, .int n)]) := by
      funext b
      by_cases hb : b = dx
      · rw [hb, upd_same, upd_same]
      · rw [upd_ne hb, upd_ne hb]
        by_cases hba : b = a
        · rw [hba, del_same, na]
        · rw [del_ne hba, upd_ne hba, upd_ne hb, upd_ne hba]
    rw [e]
    exact q dx n1
end Eh
set_option Elab.async false
set_option linter.all false
set_option maxRecDepth 100000
set_option maxHeartbeats 4000000
namespace Eh
open PySem PySem.Spec PyProof.Rows L2 NdefX
/-! a caught error that is kept: except X as n: y = n; behind the suite it is an object of ours -/
/-- at a: an exception that was raised, its class cls, its dict d -/
def exv (a : Addr) (cls : Value) (d : Option Addr) : HO := .ext fun h => ∃ (oe : Obj) (vs : Array Value), h.get? a = some oe ∧ Zc cls d oe ∧ oe.data = .fields vs
theorem exv_ok {P : Program} {w : World} {H : Hp} {h : Heap} {a : Addr} {cls : Value} {d : Option Addr} {oe : Obj} {vs : Array Value} (e : h.get? a = some oe) (z : Zc cls d oe) (hd : oe.data = .fields vs) : ObjOk P w H h a (exv a cls d) :=
  ⟨⟨oe, vs, e, z, hd⟩, ⟨oe, e⟩, fun _ _ ⟨o, v, q, r⟩ k => ⟨o, v, k o q, r⟩⟩
theorem exv_at {P : Program} {w : World} {H : Hp} {h : Heap} {a : Addr} {cls : Value} {d : Option Addr} (hok : HOk P w H h) (e : H a = some (exv a cls d)) : ∃ (oe : Obj) (vs : Array Value), h.get? a = some oe ∧ Zc cls d oe ∧ oe.data = .fields vs := by
  have x : ObjOk P w H h a (.ext fun h => ∃ (oe : Obj) (vs : Array Value), h.get? a = some oe ∧ Zc cls d oe ∧ oe.data = .fields vs) := hok a _ e
  exact x.1
section
variable {X : Cx} {pins : List (Addr × Obj)} {σ : L2.St} {H : Hp} {s : Shared}
/-- an object that was not there at the entry is tracked from now on -/
theorem Inv_track {a : Addr} {o : HO} {oe : Obj} (I : Inv X ((a, oe) :: pins) σ H s) (n0 : X.s_0.heap.get? a = none) (np : ∀ p ∈ X.pn ++ pins, p.1 ≠ a) (nc : ∀ x c, X.env.cells.lookup x = some c → c ≠ a) (new : ObjOk X.prog X.w (upd H a o) s.heap a o) : Inv X pins σ (upd H a o) s := by
  obtain ⟨ha, hn, nL, nF, _⟩ := I.pin (a, oe) (List.mem_append_right _ List.mem_cons_self)
  have ne0 : ∀ b u, X.s_0.heap.get? b = some u → b ≠ a := fun b u e z => by
    rw [z, n0] at e
    cases e
  refine ⟨I.ok, I.os, I.bare, ⟨I.base.keep, I.base.slot, fun b u e n hx => ?_, I.base.there, fun b xs e => ?_, fun b u v e => ?_, fun b ps e => ?_⟩, I.loc, I.cell, ?_, fun x c e => ?_, fun p hp => ?_, fun b u e => ?_, I.len⟩
  · rw [upd_ne (ne0 b u e)]
    exact I.base.free b u e n hx
  · have q := I.base.tups b xs e
    rw [upd_ne (ne_of_none q hn)]
    exact q
  · have q := I.base.frzs b u v e
    rw [upd_ne (ne_of_none q hn)]
    exact q
  · obtain ⟨m, q⟩ := I.base.tbls b ps e
    exact ⟨m, by rw [upd_ne (ne_of_none q hn)]; exact q⟩
  · rw [upd_ne (Ne.symm nL)]
    exact I.free
  · rw [upd_ne (nc x c e)]
    exact I.freeC x c e
  · have hp' : p ∈ X.pn ++ (a, oe) :: pins := by
      rcases List.mem_append.mp hp with z | z
      · exact List.mem_append_left _ z
      · exact List.mem_append_right _ (List.mem_cons_of_mem _ z)
    obtain ⟨e, n, ne, nf, d⟩ := I.pin p hp'
    exact ⟨e, by rw [upd_ne (np p hp)]; exact n, ne, nf, d⟩
  · by_cases hb : b = a
    · subst hb
      rw [upd_same] at e
      cases e
      exact new
    · rw [upd_ne hb] at e
      exact (I.hok b u e).stay (fun c v _ q => q) (fun c q => by rw [upd_ne (ne_of_none q hn)]; exact q) fun c xs q => by rw [upd_ne (ne_of_none q hn)]; exact q
theorem Inv_unsuite {a : Addr} {q : Addr × Obj} {pn' : List (Addr × Obj)} (I : Inv (X.suite a (q :: (X.pn ++ pins))) pn' σ H s) (ok : X.Ok) : Inv X (q :: pins) σ H s :=
  ⟨ok, I.os, I.bare, I.base, I.loc, I.cell, I.free, I.freeC, fun p hp => by
    refine I.pin p (List.mem_append_left _ ?_)
    rcases List.mem_append.mp hp with z | z
    · exact List.mem_cons_of_mem _ (List.mem_append_left _ z)
    · rcases List.mem_cons.mp z with z | z
      · rw [z]; exact List.mem_cons_self
      · exact List.mem_cons_of_mem _ (List.mem_append_right _ z), I.hok, I.len⟩
end
section
variable {X : Cx} {pins : List (Addr × Obj)}
/-- an error at a that is about to be looked at by X's except clause; I0: the state without it, at i0 -/
structure Air (X : Cx) (pins : List (Addr × Obj)) (B : Heap) (a : Addr) (cls : Value) (d : Option Addr) (σ : L2.St) (H : Hp) (i0 s1 : Shared) : Prop where
  inv : Inv X pins σ H i0
  gnd : ∀ b o, i0.heap.get? b = some o → b ∉ frs X.stack → B.get? b = some o
  ups : i0.heap.UpToSlots s1.heap
  non : H a = none
  sos : s1.os = i0.os
  gen : AllBare s1.gens
/-- .. when it is down: h1 the heap -/
structure Down (X : Cx) (pins : List (Addr × Obj)) (a : Addr) (cls : Value) (d : Option Addr) (σ : L2.St) (H : Hp) (i0 : Shared) (oe : Obj) (s1 : Shared) : Prop where
  inv : Inv X pins σ H s1
  obj : s1.heap.get? a = some oe
  zc : Zc cls d oe
  rcd : ∃ vs, oe.data = .fields vs
  loc : a ≠ X.env.locals
  frm : a ∉ X.fs
  no0 : X.s_0.heap.get? a = none
  noP : ∀ p ∈ X.pn ++ pins, p.1 ≠ a
  noC : ∀ y c, X.env.cells.lookup y = some c → c ≠ a
theorem Air.down {B h1 : Heap} {a : Addr} {cls : Value} {d : Option Addr} {σ : L2.St} {H : Hp} {i0 s1 : Shared} (A : Air X pins B a cls d σ H i0 s1) (hs : X.stack = X.env :: X.outer) (hex : X.ex = []) (hf : X.env.frame = some X.env.locals)
    (fl : HandSPX.FlyingZ B (X.env :: X.outer) a (Zc cls d) h1) (up : s1.heap.UpToSlots h1) : ∃ oe, Down X pins a cls d σ H i0 oe { s1 with heap := h1 } := by
  obtain ⟨oe, vs, eo, zo, dat⟩ := fl.there
  have out : a ∉ frs (X.env :: X.outer) := fun m => by
    obtain ⟨_, o, q, ng⟩ := fl.2.2.1.mem m
    rw [eo] at q
    cases q
    exact ng _ dat
  have gone : i0.heap.get? a = none := by
    cases q : i0.heap.get? a with
    | none => rfl
    | some o =>
      have z := A.gnd a o q (by rw [hs]; exact out)
      rw [fl.2.1] at z
      cases z
  have off : ∀ {b : Addr} {o : Obj}, i0.heap.get? b = some o → b ≠ a := fun {b o} q z => by
    rw [z, gone] at q
    cases q
  refine ⟨oe, A.inv.landed A.gnd fl.1 (A.ups.trans up) A.sos A.gen, eo, zo, ⟨vs, dat⟩, fun z => ?_, fun m => ?_, ?_, fun p m => off (A.inv.pin p m).1, fun y c q => ?_⟩
  · exact out (List.mem_filterMap.mpr ⟨X.env, .head _, by rw [hf, z]⟩)
  · obtain ⟨v, m1, m2⟩ := List.mem_filterMap.mp m
    exact out (List.mem_filterMap.mpr ⟨v, .tail _ m1, m2⟩)
  · cases q : X.s_0.heap.get? a with
    | none => rfl
    | some o =>
      obtain ⟨o', z⟩ := A.inv.base.there a o q (by rw [hex]; exact fun z => nomatch z)
      exact absurd rfl (off z)
  · obtain ⟨_, o, q2, _⟩ := A.inv.cell y c q
    exact off q2
variable {x n : Str} {c : Value} {i : Nat} {body suite : List Stmt} {b₀ : Stmt} {np pos pos' : Pos} {tb : WX → TS} {ts : Addr → Value → Option Addr → TS} {σ : L2.St} {H : Hp} {i0 s1 : Shared} {a : Addr} {cls : Value} {d : Option Addr} {oe : Obj} {D : Ends}
/-- the clause's class is read, its suite run, its name goes, the error is kept -/
theorem Down.runs {B : Heap} (U : Down X pins a cls d σ H i0 oe s1) (fl : HandSPX.FlyingZ B (X.env :: X.outer) a (Zc cls d) s1.heap) (A : Air X pins B a cls d σ H i0 s1) (hs : X.stack = X.env :: X.outer) (hex : X.ex = []) (hf : X.env.frame = some X.env.locals)
    (hN : X.N.Nodup) (hi : X.N[i]? = some n) (hln : X.env.kindOf n = some .local) (hc : Names X x c) (ht : PySem.W.exmOne X.K cls c = some true)
    (hsu : ∀ (a : Addr) (oe : Obj) (cls : Value) (d : Option Addr) (pn : List (Addr × Obj)), Zc cls d oe → (∃ vs, oe.data = .fields vs) → PSs (X.suite a ((a, oe) :: pn)) (b₀ :: suite) (ts a cls d))
    (q : ts a cls d { nx := fun σ' H' => D.nx (σ'.set i none) (upd H' a (exv a cls d)), rt := fun _ _ => False, bk := fun _ _ => False, ct := fun _ _ => False } (σ.set i (some (.ref a))) H) :
    wpAny (model X.prog X.w) X.A (handleBy (.ref a) X.env [.ExceptHandler (some (.Name x np)) (some n) (b₀ :: suite) pos']) (SP X pins D) X.xe s1 := by
  obtain ⟨vs, dat⟩ := U.rcd
  have V := U.inv.suite U.obj dat A.non U.loc U.frm
  refine wpAny_handleBy_cons (codeAny_handlers_test ?_) (fun z => by cases z)
  have ty : PySem.W.Looks (model X.prog X.w) s1.heap (typeOf (.ref a)) cls := fun _ _ _ _ kk qq => wpAny_typeOf_ref (kk _ _ U.obj) (by rw [U.zc.1]; exact qq)
  have mt := PySem.W.exm_one (M := model X.prog X.w) U.inv.kIn ty ht
  have nm : ∀ {Q1 : Value → Shared → Prop} {E1 : Value → Shared → Prop}, Q1 c s1 → wpAny (model X.prog X.w) (X.A.mark (some (.ref a))) (eval (.Name x np) X.env) Q1 E1 s1 := fun {Q1 E1} qq => by
    rcases hc with ⟨g1, g2, g3 | ⟨g3, g4, g5⟩⟩
    · exact ld_glob (X := X.suite a ((a, oe) :: (X.pn ++ pins))) V g1 g3 qq g2
    · exact ld_blt (X := X.suite a ((a, oe) :: (X.pn ++ pins))) V g1 g3 g4 qq g5 g2
  refine nm (mt.here (codeAny_handlers_suite_as ?_))
  refine HandSPX.lands_againZ fl fun h2 fl2 up2 => ?_
  obtain ⟨oe2, U2⟩ := A.down hs hex hf fl2 up2
  obtain ⟨vs2, dat2⟩ := U2.rcd
  refine store_ok (X := X.suite a ((a, oe2) :: (X.pn ++ pins))) (v := .ref a) (U2.inv.suite U2.obj dat2 A.non U2.loc U2.frm) hN hi (.inl hln) rfl (fun s3 V3 => ?_) (.inr hln)
  refine wpAny_mono ((hsu a oe2 cls d (X.pn ++ pins) U2.zc ⟨vs2, dat2⟩).run [] s3 _ H _ V3 q) (fun fl s4 e => ?_) (fun _ _ z => z.elim)
  cases fl with
  | next =>
    obtain ⟨σ4, H4, V4, q4⟩ := e
    exact gone_ok (Inv_unsuite V4 U.inv.ok) hN hi hln fun s5 V5 => ⟨_, _, Inv_track V5 U.no0 U.noP U.noC (exv_ok (V5.pin (a, oe2) (List.mem_append_right _ (.head _))).1 U2.zc dat2), q4⟩
  | brk => obtain ⟨_, _, _, z⟩ := e; exact z.elim
  | cont => obtain ⟨_, _, _, z⟩ := e; exact z.elim
  | ret v => obtain ⟨_, _, _, _, _, z⟩ := e; exact z.elim
/-- try: body / except x as n: suite, every error of the body being one of x -/
def wKeep (K : PySem.W.Frag) (c : Value) (i : Nat) (ts : Addr → Value → Option Addr → TS) (D : Ends) : WX := fun cls d σ H =>
  PySem.W.exmOne K cls c = some true ∧ ∀ a, H a = none → ts a cls d { nx := fun σ' H' => D.nx (σ'.set i none) (upd H' a (exv a cls d)), rt := fun _ _ => False, bk := fun _ _ => False, ct := fun _ _ => False } (σ.set i (some (.ref a))) H
theorem ps_try_keep (hs : X.stack = X.env :: X.outer) (hex : X.ex = []) (hf : X.env.frame = some X.env.locals) (hN : X.N.Nodup) (hi : X.N[i]? = some n) (hln : X.env.kindOf n = some .local) (hc : Names X x c)
    (hb : ∀ (W : WX) (pn : List (Addr × Obj)) (xe : Value → Shared → Prop), Takes (X.tr pn xe) W → PassesOwn (model X.prog X.w) X.A X.env xe → PSs (X.tr pn xe) body (tb W))
    (hsu : ∀ (a : Addr) (oe : Obj) (cls : Value) (d : Option Addr) (pn : List (Addr × Obj)), Zc cls d oe → (∃ vs, oe.data = .fields vs) → PSs (X.suite a ((a, oe) :: pn)) (b₀ :: suite) (ts a cls d)) :
    PS X (.Try body [.ExceptHandler (some (.Name x np)) (some n) (b₀ :: suite) pos'] [] [] pos) (fun D σ H => tb (wKeep X.K c i ts D) D σ H) := by
  refine ⟨fun pins s σ H D I h => wpAny_Try_except ?_⟩
  have frm : X.A.frames = some (X.env :: X.outer) := by rw [I.ok.frames, hs]
  have up0 : ∀ (h : Heap), h.UpToSlots h := fun h => Heap.UpToSlots.of_keeps fun _ _ e => e
  have body0 := (hb (wKeep X.K c i ts D) (X.pn ++ pins) (fun e t1 => wpAny (model X.prog X.w) X.A (noteFrame e X.env) (fun _ t2 => wpAny (model X.prog X.w) X.A (setFlight e none) (fun _ t3 => wpAny (model X.prog X.w) X.A (handleBy e X.env [.ExceptHandler (some (.Name x np)) (some n) (b₀ :: suite) pos']) (SP X pins D) X.xe t3) X.xe t2) X.xe t1)
    (fun u t1 air => by
      obtain ⟨a, B, i0, _, σ0, H0, cls, d, rfl, J, gnd, ups, sky, na, so, ag, hm, hy⟩ := air
      have A : Air X pins B a cls d σ0 H0 i0 t1 := ⟨J.ofTry I.ok, gnd, ups, na, so, ag⟩
      refine Sky.land Zc.steady frm hf (show Sky B (X.env :: X.outer) a (Zc cls d) X.env.locals t1.heap from hs ▸ sky) fun h1 fl1 up1 => ?_
      obtain ⟨oe, U⟩ := A.down hs hex hf fl1 up1
      exact U.runs fl1 ⟨A.inv, gnd, ups.trans up1, na, so, ag⟩ hs hex hf hN hi hln hc hm hsu (hy a na)) PassesOwn.looking).run [] s σ H D (I.toTry _) h
  refine wpAny_mono body0 (fun fl t1 e => ?_) (fun _ _ e => e)
  cases fl with
  | next => obtain ⟨σ1, H1, J, q⟩ := e; exact wpAny_execs_nil ⟨σ1, H1, J.ofTry I.ok, q⟩
  | brk => obtain ⟨σ1, H1, J, q⟩ := e; exact ⟨σ1, H1, J.ofTry I.ok, q⟩
  | cont => obtain ⟨σ1, H1, J, q⟩ := e; exact ⟨σ1, H1, J.ofTry I.ok, q⟩
  | ret u => obtain ⟨v, σ1, H1, J, r, q⟩ := e; exact ⟨v, σ1, H1, J.ofTry I.ok, r, q⟩
end
end Eh
set_option Elab.async false
set_option linter.all false
set_option maxRecDepth 100000
set_option maxHeartbeats 4000000
namespace Eh
open PySem PySem.Spec PyProof.Rows L2 NdefX
/-! isinstance and the field of a caught error that was kept -/
/-- its own dict, if it has one, is ours -/
def DctOk (H : Hp) (d : Option Addr) : Prop := match d with
  | none => True
  | some dd => ∃ fs, H dd = some (.xd fs)
/-- what is told of an error's class -/
structure ErrC (K : PySem.W.Frag) (C : Addr) : Prop where
  ec : ExcC K C
  xf : XfC K C
theorem inst_exv {P : Program} {w : World} {H : Hp} {h : Heap} {a C : Addr} {d : Option Addr} (hok : HOk P w H h) (e : H a = some (exv a (.ref C) d)) (hd : DctOk H d) : ∃ (oe : Obj) (od : Option Obj), PySem.W.InstAt h a oe C od := by
  obtain ⟨oe, vs, e1, z, dat⟩ := exv_at hok e
  have nc : PySem.W.notCls oe = true := by
    unfold PySem.W.notCls
    rw [dat] <;> rfl
  cases d with
  | none => exact ⟨oe, none, e1, z.1, nc, by rw [z.2]; trivial⟩
  | some dd =>
    obtain ⟨fs, e2⟩ := hd
    have x : ObjOk P w H h dd (.xd fs) := hok dd _ e2
    obtain ⟨mA, hns, _⟩ := x
    obtain ⟨od, ho, _⟩ := lookIn_ns hns
    exact ⟨oe, some od, e1, z.1, nc, by rw [z.2]; exact ho⟩
/-- isinstance(x, c), x such an error -/
def rIsX (K : PySem.W.Frag) : List V → Hp → VK → Prop := fun xs H Q => ∃ (a C : Addr) (d : Option Addr) (c : V) (cv : Value) (b : Bool), xs = [.ref a, c] ∧ H a = some (exv a (.ref C) d) ∧ DctOk H d ∧ ErrC K C ∧ (∀ u, L2.RelV c u → u = cv) ∧ PySem.W.kitOne K (.ref C) cv = some b ∧ Q (.bl b) H
theorem call_isX {X : Cx} : CallR X (.builtin "isinstance") (rIsX X.K) := by
  intro pins s σ H xs us Q I r h
  obtain ⟨a, C, d, c, cv, b, rfl, ea, hd, T, hcv, e, q⟩ := h
  cases r with
  | cons rx rr =>
  cases rr with
  | cons rt rr =>
  cases rr
  cases rx
  have ec := hcv _ rt
  subst ec
  obtain ⟨oe, od, J⟩ := inst_exv I.hok ea hd
  have hcl : (PySem.W.clsIn X.K C).isSome = true := by
    obtain ⟨cd, hc, _⟩ := PySem.W.any_some T.ec.hd
    rw [hc] <;> rfl
  exact PySem.W.kia_one (PySem.W.kitx_exc hcl T.ec.hg T.ec.hk T.ec.hs T.ec.ha T.ec.hn T.ec.ht T.ec.hm) I.kIn J e (fun z => nomatch z) fun tk => ⟨.bl b, H, I.tok tk, rfl, q⟩
/-- x.n, x such an error -/
def tXg (K : PySem.W.Frag) (n : Str) (te : TE) : TE := fun σ H Q => te σ H fun x H1 => ∃ (a C dd : Addr) (fs : List (Str × V)) (v : V), x = .ref a ∧ ErrC K C ∧ PySem.W.findIn K (.ref C) n = some none ∧ H1 a = some (exv a (.ref C) (some dd)) ∧ H1 dd = some (.xd fs) ∧ fs.lookup n = some v ∧ Q v H1
theorem pe_xg {X : Cx} {e : Expr} {te : TE} {pos : Pos} {n : Str} (he : PE X e te) (hb : attributeBase e n X.env (eval e X.env) = eval e X.env := by rfl) : PE X (.Attribute e n pos) (tXg X.K n te) := by
  refine ⟨fun pins s σ H Q I h => ?_⟩
  refine attr_of hb (thn (he.run pins s σ H _ I h) fun u s1 ⟨x, H1, I1, rx, a, C, dd, fs, v, ex, T, hno, ea, ed, l, q⟩ => ?_)
  subst ex
  obtain rfl : u = Value.ref a := rx
  obtain ⟨oe, vs, e1, z, dat⟩ := exv_at I1.hok ea
  have x : ObjOk X.prog X.w H1 s1.heap dd (.xd fs) := I1.hok dd _ ed
  obtain ⟨mA, hns, hr⟩ := x
  obtain ⟨od, ho, hl⟩ := lookIn_ns hns
  obtain ⟨u, hu, ru⟩ := RelO.some_of (v := v) (o := mA n) (by rw [← l]; exact hr n)
  exact HandSPX.exc_get I1.kIn (⟨e1, z.1, by unfold PySem.W.notCls; rw [dat] <;> rfl, by rw [z.2]; exact ho⟩ : PySem.W.InstAt s1.heap a oe C (some od)) T.xf.ga T.xf.gg T.xf.exC (PySem.W.findObj_own T.xf.hdC hno rfl (by rw [hl, hu])) (handed_of ru) ⟨v, H1, I1.tok _, ru, q⟩
end Eh
set_option Elab.async false
set_option linter.all false
set_option maxRecDepth 100000
set_option maxHeartbeats 4000000
namespace Eh
open PySem PySem.Spec PyProof.Rows L2 Evl
def kWords : List Str := ["letter", "shut", "long", "choice", "text", "sheet", "way", "many", "step", "name", "row"]
/-- what the written part tells of the i-th error's class; cs: all of them, CH: HallError -/
structure KindC (K : PySem.W.Frag) (CH : Addr) (cs : List Addr) (i : Nat) : Prop where
  lt : i < 11
  ec : ErrC K (cs.getD i 0)
  kit : ∀ j, j < 11 → PySem.W.kitOne K (.ref (cs.getD i 0)) (.ref (cs.getD j 0)) = some (decide (i = j))
  hall : PySem.W.kitOne K (.ref (cs.getD i 0)) (.ref CH) = some true
  val : PySem.W.kitOne K (.ref (cs.getD i 0)) (.type "ValueError") = some true
  noP : PySem.W.findIn K (.ref (cs.getD i 0)) "place" = some none
  noS : PySem.W.findIn K (.ref (cs.getD i 0)) "size" = some none
/-- the names -/
structure KindM (mg : Str → Option Value) (CH : Addr) (cs : List Addr) : Prop where
  isi : mg "isinstance" = none
  ve : mg "ValueError" = none
  gH : mg "HallError" = some (.ref CH)
  g0 : mg "NoLetter" = some (.ref (cs.getD 0 0))
  g1 : mg "NotShut" = some (.ref (cs.getD 1 0))
  g2 : mg "TooLong" = some (.ref (cs.getD 2 0))
  g3 : mg "NoChoice" = some (.ref (cs.getD 3 0))
  g4 : mg "NoText" = some (.ref (cs.getD 4 0))
  g5 : mg "NoSheet" = some (.ref (cs.getD 5 0))
  g6 : mg "NoOneWay" = some (.ref (cs.getD 6 0))
  g7 : mg "TooMany" = some (.ref (cs.getD 7 0))
  g8 : mg "NoStep" = some (.ref (cs.getD 8 0))
  g9 : mg "NoName" = some (.ref (cs.getD 9 0))
  g10 : mg "NoRow" = some (.ref (cs.getD 10 0))
theorem isx {K : PySem.W.Frag} {a ci : Addr} {d : Option Addr} {c : V} {cv : Value} {b : Bool} {σ : L2.St} {H : Hp} {Q : VK} (h0 : σ[0]? = some (some (.ref a))) (ha : H a = some (exv a (.ref ci) d)) (hd : DctOk H d) (ec : ErrC K ci) (hc : ∀ u, L2.RelV c u → u = cv) (kit : PySem.W.kitOne K (.ref ci) cv = some b) (q : Q (.bl b) H) :
    tCB (rIsX K) (tCons (tVar 0) (tCons (tC c) tNil)) σ H Q := ⟨_, h0, a, ci, d, c, cv, b, rfl, ha, hd, ec, hc, kit, q⟩
end Eh
set_option Elab.async false
set_option linter.all false
set_option maxRecDepth 100000
set_option maxHeartbeats 4000000
namespace Eh
open PySem PySem.Spec PyProof.Rows L2 NdefX
section
variable {K : PySem.W.Frag} {C D : Addr}
theorem kit_yes (ty : PySem.W.typeIn K (.ref D) = some (.type "type")) (is : PySem.W.isClsIn K D = true) (sub : PySem.W.subIn K (.ref C) (.ref D) = some true) : PySem.W.kitOne K (.ref C) (.ref D) = some true := by
  unfold PySem.W.kitOne
  split
  · rfl
  · unfold PySem.W.kitCls
    have e : ((PySem.W.clsIn K D).isSome && PySem.W.typeIn K (.ref D) == some (.type "type")) = true := by
      rw [ty, show (PySem.W.clsIn K D).isSome = true from is]
      rfl
    simp only [e, if_true]
    exact sub
theorem kit_no (ty : PySem.W.typeIn K (.ref D) = some (.type "type")) (is : PySem.W.isClsIn K D = true) (sub : PySem.W.subIn K (.ref C) (.ref D) = some false) (me : PySem.W.subIn K (.ref C) (.ref C) = some true) : PySem.W.kitOne K (.ref C) (.ref D) = some false := by
  unfold PySem.W.kitOne
  split
  · rename_i h
    have z : C = D := Value.ref.inj (beq_iff_eq.mp h)
    rw [← z, me] at sub
    cases sub
  · unfold PySem.W.kitCls
    have e : ((PySem.W.clsIn K D).isSome && PySem.W.typeIn K (.ref D) == some (.type "type")) = true := by
      rw [ty, show (PySem.W.clsIn K D).isSome = true from is]
      rfl
    simp only [e, if_true]
    exact sub
theorem kit_val (sub : PySem.W.subIn K (.ref C) (.type "ValueError") = some true) : PySem.W.kitOne K (.ref C) (.type "ValueError") = some true := by
  unfold PySem.W.kitOne
  rw [if_neg (by simp)]
  unfold PySem.W.kitCls
  have e : PySem.W.kitMeta "ValueError" = true := by decide +kernel
  simp only [e, if_true]
  exact sub
end
/-- f'..{f}' of two parts -/
theorem txt_two {st : Stmt} {f t : Str} {p1 p2 p3 p4 : Pos} (kf : (defScope st).names.lookup f = some .local) (f1 : (f == ("__debug__" : Str)) = false) (f2 : (f == ("__classdict__" : Str)) = false) (ht : t.length ≤ 1000) : ∀ X : Cx, X.N = (["self", f, "__class__"] : List Str) → X.env.scope = defScope st → ∃ tJ : TE, PE X (.JoinedStr [.Constant (.str t) 0 p1, .FormattedValue (.Name f p2) (-1) none p3] p4) tJ ∧ ∀ (σ : L2.St) (H : Hp) (n : Int) (Q : VK), n.natAbs.log2 < 1900 → σ[1]? = some (some (V.int n)) → (∀ z : Str, Q (.str z) H) → tJ σ H Q := by
  intro X eN eS
  refine ⟨_, pe_joined (.cons pe_str (.cons (pe_fmt (pe_var (i := 1) (by rw [eN]; rfl) (.inl (by rw [eS]; exact kf)) f1 f2)) .nil)), fun σ H n Q hn h1 q => ?_⟩
  have l1 : (Str.ofString (toString n)).length ≤ 2000 := by
    have e := int_text_length_le (k := 1920) (by decide) (show n.natAbs.log2 < 1920 by omega)
    rw [PySem.ofString_length]
    omega
  have la : ∀ a b : Str, (a ++ b).length = a.length + b.length := fun a b => by
    show (a.cps ++ b.cps).size = _
    rw [Array.size_append]
    rfl
  have l0 : Str.empty.length = 0 := rfl
  refine ⟨t, rfl, ?_, _, h1, .inr ⟨n, rfl, by omega, _, rfl, ?_, q _⟩⟩
  · rw [la, sizeLine_eq]
    omega
  · rw [la, la, sizeLine_eq]
    omega
/-- f'..{f}..' of three parts -/
theorem txt_three {st : Stmt} {f t t2 : Str} {p1 p2 p3 p4 p5 : Pos} (kf : (defScope st).names.lookup f = some .local) (f1 : (f == ("__debug__" : Str)) = false) (f2 : (f == ("__classdict__" : Str)) = false) (ht : t.length ≤ 1000 ∧ t2.length ≤ 1000) : ∀ X : Cx, X.N = (["self", f, "__class__"] : List Str) → X.env.scope = defScope st → ∃ tJ : TE, PE X (.JoinedStr [.Constant (.str t) 0 p1, .FormattedValue (.Name f p2) (-1) none p3, .Constant (.str t2) 0 p5] p4) tJ ∧ ∀ (σ : L2.St) (H : Hp) (n : Int) (Q : VK), n.natAbs.log2 < 1900 → σ[1]? = some (some (V.int n)) → (∀ z : Str, Q (.str z) H) → tJ σ H Q := by
  intro X eN eS
  refine ⟨_, pe_joined (.cons pe_str (.cons (pe_fmt (pe_var (i := 1) (by rw [eN]; rfl) (.inl (by rw [eS]; exact kf)) f1 f2)) (.cons pe_str .nil))), fun σ H n Q hn h1 q => ?_⟩
  have l1 : (Str.ofString (toString n)).length ≤ 2000 := by
    have e := int_text_length_le (k := 1920) (by decide) (show n.natAbs.log2 < 1920 by omega)
    rw [PySem.ofString_length]
    omega
  have la : ∀ a b : Str, (a ++ b).length = a.length + b.length := fun a b => by
    show (a.cps ++ b.cps).size = _
    rw [Array.size_append]
    rfl
  have l0 : Str.empty.length = 0 := rfl
  obtain ⟨ht, ht2⟩ := ht
  refine ⟨t, rfl, ?_, _, h1, .inr ⟨n, rfl, by omega, _, rfl, ?_, t2, rfl, ?_, q _⟩⟩
  · rw [la, sizeLine_eq]
    omega
  · rw [la, la, sizeLine_eq]
    omega
  · rw [la, la, la, sizeLine_eq]
    omega
end Eh
set_option Elab.async false
set_option linter.all false
set_option maxRecDepth 100000
set_option maxHeartbeats 4000000
namespace Eh
open PySem PySem.Spec PyProof.Rows L2 Evl RZ
abbrev nWritten : List Str := ["great"]
theorem scWritten : FnScope nWritten ["great"] (defScope sWritten) := ⟨rfl, rfl, rfl, by decide +kernel, rfl, by decide +kernel, by decide +kernel⟩
abbrev nKind : List Str := ["caught", "kinds", "names", "found", "kind", "name"]
theorem scKind : FnScope nKind ["caught", "kinds", "names"] (defScope sKind) := ⟨rfl, rfl, rfl, by decide +kernel, rfl, by decide +kernel, by decide +kernel⟩
abbrev nLawNamed : List Str := ["caught", "kinds", "names"]
theorem scLawNamed : FnScope nLawNamed ["caught"] (defScope sLawNamed) := ⟨rfl, rfl, rfl, by decide +kernel, rfl, by decide +kernel, by decide +kernel⟩
abbrev nTold : List Str := ["great", "found", "caught", "e"]
theorem scTold : FnScope nTold ["great"] (defScope sTold) := ⟨rfl, rfl, rfl, by decide +kernel, rfl, by decide +kernel, by decide +kernel⟩
def spWritten (os ls qs : List Str) (n : Nat) (C7 : Addr) : Sp := fun vs H Q E => ∃ (v : V) (W : List Str), vs = [v] ∧ GAt os ls qs H n v W ∧ n ≤ 20 ∧ (W.length ≤ 400 → RetL (W.map V.str) H Q) ∧ (400 < W.length → ∀ H', Ex H H' → E (.ref C7) none H')
/-- what is told of 'x' is x -/
def spKind (K : PySem.W.Frag) : Sp := fun vs H Q _ => ∃ (a kl nl : Addr) (ci : Addr) (bs : List Bool) (ns : List Str) (x : Str), vs = [.ref a, .ref kl, .ref nl] ∧ H a = some (exv a (.ref ci) none) ∧ ErrC K ci ∧ PySem.W.kitOne K (.ref ci) (.type "ValueError") = some true ∧ H kl = some (.lst (bs.map V.bl)) ∧ H nl = some (.lst (ns.map V.str)) ∧ bs.length = ns.length ∧ bs.length ≤ 100 ∧ ((bs.zip ns).filter (·.1)).map (·.2) = [x] ∧ RetV (.str x) H Q
def spNamed (K : PySem.W.Frag) (CH : Addr) (cs : List Addr) : Sp := fun vs H Q _ => ∃ (a : Addr), vs = [.ref a] ∧ KindC K CH cs 7 ∧ H a = some (exv a (.ref (cs.getD 7 0)) none) ∧ RetV (.str "many") H Q
def spTold (os ls qs : List Str) (n : Nat) : Sp := fun vs H Q _ => ∃ (v : V) (W : List Str), vs = [v] ∧ GAt os ls qs H n v W ∧ n ≤ 20 ∧ (W.length ≤ 400 → RetL (W.map V.str) H Q) ∧ (400 < W.length → RetV (.str "many") H Q)
section
variable {P : Program} {w : World} {K : PySem.W.Frag} {mg : Str → Option Value} {base : Heap} {os ls qs : List Str}
theorem ok_written {f fL fT C7 : Addr} {fd fdL fdT : FuncData} {n k : Nat} {tk7 : Tok} (F : Fun K "written" "written" sWritten f fd) (FL : Fun K "length_of" "length_of" sLengthOf fL fdL) (GL : FnOk P w K mg base CX0 (k + 1) fL fdL ["great"] (spLen os ls qs n)) (bL : Binds K fdL ["great"] []) (gL : mg "length_of" = some (.ref fL)) (FT : Fun K "letters_of" "letters_of" sLettersOf fT fdT) (GT : FnOk P w K mg base CX0 (k + 1) fT fdT ["great"] (spLts os ls qs n)) (bT : Binds K fdT ["great"] []) (gT : mg "letters_of" = some (.ref fT)) (mM : mg "MOST_WRITTEN" = some (.int 400 tk7))
    (x7 : PySem.W.excIn K C7 [.type "ValueError", .type "Exception", .type "BaseException", .type "object"] "ValueError.__new__" = true) (g7 : mg "TooMany" = some (.ref C7)) (k7 : PySem.W.keepIn K (.ref C7) = true) (b7 : PySem.W.subIn K (.ref C7) (.type "BaseException") = some true) (t7 : PySem.W.typeIn K (.ref C7) = some (.type "type")) : FnOk P w K mg base (L2.CX P w) (k + 2) f fd ["great"] (spWritten os ls qs n C7) := by
  have nd := scWritten.nd
  refine F.okX scWritten (fun vs H Q E h => ?_) (fun cdv A outer s H vs Q E hr h => ?_)
  · obtain ⟨v, W, rfl, _⟩ := h
    rfl
  · obtain ⟨v, W, rfl, hG, hn, q, qx⟩ := h
    refine ⟨_, pss_cons (ps_if (pt_cmpR op_gt (pe_call GL hr (by rfl) gL FL.kp bL .nil pass0 (pa_cons (pv 0) pa_nil)) (pe_glob (v := .int 400) rfl mM ⟨_, rfl⟩) (nomark _)) (pss_one (ps_raise rfl (takes_of rfl rfl rfl rfl) (SkE.pmk_own1 PySem.F.excBase_ValueError x7 g7 k7 (raises_own b7 t7) rfl (pe_joined (.cons pe_str (.cons (pe_fmt (pe_glob (v := .int 400) rfl mM ⟨_, rfl⟩)) (.cons pe_str .nil))))))) pss_nil)
      (pss_one (ps_ret (pe_call GT hr (by rfl) gT FT.kp bT .nil pass0 (pa_cons (pv 0) pa_nil)))), ?_⟩
    refine ⟨_, rfl, v, W, rfl, hG, hn, fun H1 e1 => ⟨_, _, rfl, rfl, _, rfl, ite2 (fun h => ?_) (fun h => ?_)⟩⟩
    · have h : (400 : Int) < (W.length : Int) := of_decide_eq_true h
      have l1 : (Str.ofString (toString (400 : Int))).length ≤ 2000 := by
        have e := int_text_length_le (k := 1920) (by decide) (show (400 : Int).natAbs.log2 < 1920 by decide)
        rw [PySem.ofString_length]
        omega
      have la : ∀ a b : Str, (a ++ b).length = a.length + b.length := fun a b => by
        show (a.cps ++ b.cps).size = _
        rw [Array.size_append]
        rfl
      have l0 : Str.empty.length = 0 := rfl
      have l2 : ("more than " : Str).length = 10 := by decide +kernel
      have l3 : (" letters" : Str).length = 8 := by decide +kernel
      refine ⟨_, rfl, ?_, .inr ⟨400, rfl, by decide, _, rfl, ?_, _, rfl, ?_, qx (by omega) _ e1⟩⟩
      · rw [la, sizeLine_eq, l0, l2]
        omega
      · rw [la, la, sizeLine_eq, l0, l2]
        omega
      · rw [la, la, la, sizeLine_eq, l0, l2, l3]
        omega
    · have h : ¬ (400 : Int) < (W.length : Int) := fun z => h (decide_eq_true z)
      exact ⟨_, rfl, v, W, rfl, hG.ex e1, hn, by omega, fun p H2 hp e2 h2 => q (by omega) p H2 (fresh_back e1 hp) (e1.trans e2) h2⟩
theorem ok_kind {f : Addr} {fd : FuncData} {k : Nat} (F : Fun K "_law_kind" "_law_kind" sKind f fd) (mzip : mg "zip" = none) (mlen : mg "len" = none) (misi : mg "isinstance" = none) (mve : mg "ValueError" = none) : FnOk P w K mg base CX0 (k + 1) f fd ["caught", "kinds", "names"] (spKind K) := by
  have nd := scKind.nd
  refine F.ok scKind (fun vs H Q E h => ?_) (fun cdv A outer s H vs Q E hr h => ?_)
  · obtain ⟨a, kl, nl, ci, bs, ns, x, rfl, _⟩ := h
    rfl
  · obtain ⟨a, kl, nl, ci, bs, ns, x, rfl, ha, ec, hv, hk, hn, hl, h100, hx, q⟩ := h
    refine ⟨_, pss_cons (ps_setLc (i := 3) (own := [("kind", 4), ("name", 5)]) (g := gTup K 2 (gCons (gName 4) (gCons (gName 5) gNil))) (tt := tB (tVar 4)) (te := tVar 5) rfl nd rfl rfl (sw_true rfl rfl rfl (by decide +kernel)) (pi_zip (by rfl) mzip (pa_cons (pv 1) (pa_cons (pv 2) pa_nil))) (blkOk_by (own := [("kind", 4), ("name", 5)]) (N := nKind) (sc := defScope sKind) (by decide +kernel)) (fun _ _ _ _ _ => pg_tup rfl (pgs_cons (pg_name (i := 4) nd rfl (.inl rfl)) (pgs_cons (pg_name (i := 5) nd rfl (.inl rfl)) pgs_nil))) (fun _ _ _ _ _ => pts_one (pt_val (pv 4))) (fun _ _ _ _ _ => (pv 5)))
      (pss_cons (ps_if (PW.pt (pw_or (pt_cmpR op_ne (pe_callB call_len_seq (by rfl) mlen PySem.boot_len (pa_cons (pv 3) pa_nil)) pe_int (nomark _)) (pw_or1 (pt_not (pt_val (pe_callB call_isX (by rfl) misi (by decide +kernel) (pa_cons (pv 0) (pa_cons (pe_bltn (v := .ty "ValueError") (by rfl) mve (by decide +kernel) rfl) pa_nil)))))))) (pss_one ps_never) pss_nil)
      (pss_one (ps_ret (pe_ix ix_list (pv 3) pe_int (fun _ _ => rfl))))), ?_⟩
    refine ⟨_, rfl, _, rfl, kl, nl, bs.map V.bl, ns.map V.str, rfl, sq_of hk, sq_of hn, fun D nD => ?_⟩
    refine lc_zip (xs := bs.map V.bl) (ys := ns.map V.str) (by rw [List.length_map, List.length_map]; exact hl) (fun i H' => Ex H H' ∧ H' D = some (.lst (((((bs.zip ns).take i).filter (·.1)).map (·.2)).map V.str))) ⟨Ex.new nD, upd_same⟩ (fun i H' _ hh => ⟨sq_of (hh.1 _ _ hk), sq_of (hh.1 _ _ hn)⟩) ?_ ?_
    · rintro i y z H' T hy hz ⟨eH, hD⟩ nT
      rw [List.getElem?_map] at hy hz
      obtain ⟨b, hb, rfl⟩ := Option.map_eq_some_iff.mp hy
      obtain ⟨s, hs, rfl⟩ := Option.map_eq_some_iff.mp hz
      have hzip : (bs.zip ns)[i]? = some (b, s) := by
        rw [List.getElem?_zip_eq_some]
        exact ⟨hb, hs⟩
      have e2 : Ex H' (upd H' T (.tup [.bl b, .str s])) := Ex.new nT
      have tk : (bs.zip ns).take (i + 1) = (bs.zip ns).take i ++ [(b, s)] := by rw [List.take_add_one, hzip]; rfl
      refine ⟨rfl, _, rfl, b, rfl, ?_⟩
      cases b with
      | true =>
        refine iteT ⟨_, rfl, _, e2 _ _ hD, ?_, (eH.trans e2).mut nD, ?_⟩
        · rw [List.length_map, List.length_map]
          have h1 := List.length_filter_le (·.1) ((bs.zip ns).take i)
          rw [List.length_take, List.length_zip] at h1
          exact sz_lt (by omega)
        · rw [upd_same, tk, List.filter_append, List.map_append, List.map_append]
          rfl
      | false =>
        refine iteF ⟨eH.trans e2, ?_⟩
        rw [e2 _ _ hD, tk, List.filter_append, List.map_append, List.map_append]
        show _ = some (HO.lst (_ ++ []))
        rw [List.append_nil]
    · rintro H1 ⟨e1, hD⟩
      rw [List.length_map, List.take_of_length_le (by rw [List.length_zip]; omega), hx] at hD
      refine ⟨_, rfl, D, _, rfl, .inl (sq_of hD), rfl, _, rfl, iteF (isx rfl (e1 _ _ ha) trivial ec (fun u r => r) hv ⟨_, rfl, iteF ?_⟩)⟩
      exact ⟨_, rfl, D, _, _, .str x, rfl, rfl, sq_of hD, (show atI [V.str x] ((0 : Nat) : Int) = _ from atI_nat rfl), q.go e1⟩
theorem ok_named {f fK CH : Addr} {cs : List Addr} {fd fdK : FuncData} {k : Nat} (F : Fun K "_law_named" "_law_named" sLawNamed f fd) (FK : Fun K "_law_kind" "_law_kind" sKind fK fdK) (GK : FnOk P w K mg base CX0 (k + 1) fK fdK ["caught", "kinds", "names"] (spKind K)) (bK : Binds K fdK ["caught", "kinds", "names"] []) (gK : mg "_law_kind" = some (.ref fK)) (M : KindM mg CH cs) : FnOk P w K mg base CX0 (k + 2) f fd ["caught"] (spNamed K CH cs) := by
  have nd := scLawNamed.nd
  refine F.ok scLawNamed (fun vs H Q E h => ?_) (fun cdv A outer s H vs Q E hr h => ?_)
  · obtain ⟨a, rfl, _⟩ := h
    rfl
  · obtain ⟨a, rfl, C, ha, q⟩ := h
    have sz : ∀ n : Nat, n ≤ 100 → n ≤ sizeLine := fun n h => Nat.le_trans h (by decide)
    refine ⟨_, pss_cons (ps_set (i := 1) nd rfl (.inl rfl) (pe_lst (pa_cons (pe_callB call_isX (by rfl) M.isi (by decide +kernel) (pa_cons (pv 0) (pa_cons (pe_glob (v := .ref (cs.getD 3 0)) rfl M.g3 rfl) pa_nil))) (pa_cons (pe_callB call_isX (by rfl) M.isi (by decide +kernel) (pa_cons (pv 0) (pa_cons (pe_glob (v := .ref (cs.getD 0 0)) rfl M.g0 rfl) pa_nil))) (pa_cons (pe_callB call_isX (by rfl) M.isi (by decide +kernel) (pa_cons (pv 0) (pa_cons (pe_glob (v := .ref (cs.getD 9 0)) rfl M.g9 rfl) pa_nil))) pa_nil)))))
      (pss_cons (ps_set (i := 1) nd rfl (.inl rfl) (pe_op op_cat (pv 1) (pe_lst (pa_cons (pe_callB call_isX (by rfl) M.isi (by decide +kernel) (pa_cons (pv 0) (pa_cons (pe_glob (v := .ref (cs.getD 6 0)) rfl M.g6 rfl) pa_nil))) (pa_cons (pe_callB call_isX (by rfl) M.isi (by decide +kernel) (pa_cons (pv 0) (pa_cons (pe_glob (v := .ref (cs.getD 10 0)) rfl M.g10 rfl) pa_nil))) (pa_cons (pe_callB call_isX (by rfl) M.isi (by decide +kernel) (pa_cons (pv 0) (pa_cons (pe_glob (v := .ref (cs.getD 5 0)) rfl M.g5 rfl) pa_nil))) pa_nil))))))
      (pss_cons (ps_set (i := 1) nd rfl (.inl rfl) (pe_op op_cat (pv 1) (pe_lst (pa_cons (pe_callB call_isX (by rfl) M.isi (by decide +kernel) (pa_cons (pv 0) (pa_cons (pe_glob (v := .ref (cs.getD 8 0)) rfl M.g8 rfl) pa_nil))) (pa_cons (pe_callB call_isX (by rfl) M.isi (by decide +kernel) (pa_cons (pv 0) (pa_cons (pe_glob (v := .ref (cs.getD 1 0)) rfl M.g1 rfl) pa_nil))) (pa_cons (pe_callB call_isX (by rfl) M.isi (by decide +kernel) (pa_cons (pv 0) (pa_cons (pe_glob (v := .ref (cs.getD 4 0)) rfl M.g4 rfl) pa_nil))) pa_nil))))))
      (pss_cons (ps_set (i := 1) nd rfl (.inl rfl) (pe_op op_cat (pv 1) (pe_lst (pa_cons (pe_callB call_isX (by rfl) M.isi (by decide +kernel) (pa_cons (pv 0) (pa_cons (pe_glob (v := .ref (cs.getD 2 0)) rfl M.g2 rfl) pa_nil))) (pa_cons (pe_callB call_isX (by rfl) M.isi (by decide +kernel) (pa_cons (pv 0) (pa_cons (pe_glob (v := .ref (cs.getD 7 0)) rfl M.g7 rfl) pa_nil))) pa_nil)))))
      (pss_cons (ps_set (i := 2) nd rfl (.inl rfl) (pe_lst (pa_cons pe_str (pa_cons pe_str (pa_cons pe_str (pa_cons pe_str (pa_cons pe_str (pa_cons pe_str (pa_cons pe_str (pa_cons pe_str (pa_cons pe_str (pa_cons pe_str (pa_cons pe_str pa_nil)))))))))))))
      (pss_one (ps_ret (pe_call GK hr (by rfl) gK FK.kp bK .nil pass0 (pa_cons (pv 0) (pa_cons (pv 1) (pa_cons (pv 2) pa_nil)))))))))), ?_⟩
    refine isx rfl (ha) trivial C.ec (fun u r => r) (C.kit 3 (by decide)) (isx rfl (ha) trivial C.ec (fun u r => r) (C.kit 0 (by decide)) (isx rfl (ha) trivial C.ec (fun u r => r) (C.kit 9 (by decide)) ⟨sz 3 (by decide), fun l1 n1 => ?_⟩))
    have e1 : Ex H _ := Ex.new (o := .lst [.bl false, .bl false, .bl false]) n1
    have h1 : ∀ {H0 : Hp}, (upd H0 l1 (.lst [.bl false, .bl false, .bl false])) l1 = some (.lst [.bl false, .bl false, .bl false]) := upd_same
    refine ⟨_, rfl, (isx rfl (e1 _ _ ha) trivial C.ec (fun u r => r) (C.kit 6 (by decide)) (isx rfl (e1 _ _ ha) trivial C.ec (fun u r => r) (C.kit 10 (by decide)) (isx rfl (e1 _ _ ha) trivial C.ec (fun u r => r) (C.kit 5 (by decide)) ⟨sz 3 (by decide), fun l2 n2 => ⟨l1, l2, _, _, rfl, rfl, Ex.new n2 _ _ h1, upd_same, sz 6 (by decide), fun l3 n3 => ?_⟩⟩)))⟩
    have e3 : Ex H _ := (e1.trans (Ex.new (o := .lst [.bl false, .bl false, .bl false]) n2)).trans (Ex.new (o := .lst [.bl false, .bl false, .bl false, .bl false, .bl false, .bl false]) n3)
    have h3 : ∀ {H0 : Hp}, (upd H0 l3 (.lst [.bl false, .bl false, .bl false, .bl false, .bl false, .bl false])) l3 = some (.lst [.bl false, .bl false, .bl false, .bl false, .bl false, .bl false]) := upd_same
    refine ⟨_, rfl, (isx rfl (e3 _ _ ha) trivial C.ec (fun u r => r) (C.kit 8 (by decide)) (isx rfl (e3 _ _ ha) trivial C.ec (fun u r => r) (C.kit 1 (by decide)) (isx rfl (e3 _ _ ha) trivial C.ec (fun u r => r) (C.kit 4 (by decide)) ⟨sz 3 (by decide), fun l4 n4 => ⟨l3, l4, _, _, rfl, rfl, Ex.new n4 _ _ h3, upd_same, sz 9 (by decide), fun l5 n5 => ?_⟩⟩)))⟩
    have e5 : Ex H _ := (e3.trans (Ex.new (o := .lst [.bl false, .bl false, .bl false]) n4)).trans (Ex.new (o := .lst [.bl false, .bl false, .bl false, .bl false, .bl false, .bl false, .bl false, .bl false, .bl false]) n5)
    have h5 : ∀ {H0 : Hp}, (upd H0 l5 (.lst [.bl false, .bl false, .bl false, .bl false, .bl false, .bl false, .bl false, .bl false, .bl false])) l5 = some (.lst [.bl false, .bl false, .bl false, .bl false, .bl false, .bl false, .bl false, .bl false, .bl false]) := upd_same
    refine ⟨_, rfl, (isx rfl (e5 _ _ ha) trivial C.ec (fun u r => r) (C.kit 2 (by decide)) (isx rfl (e5 _ _ ha) trivial C.ec (fun u r => r) (C.kit 7 (by decide)) ⟨sz 2 (by decide), fun l6 n6 => ⟨l5, l6, _, _, rfl, rfl, Ex.new n6 _ _ h5, upd_same, sz 11 (by decide), fun l7 n7 => ?_⟩⟩))⟩
    have e7 : Ex H _ := (e5.trans (Ex.new (o := .lst [.bl false, .bl true]) n6)).trans (Ex.new (o := .lst [.bl false, .bl false, .bl false, .bl false, .bl false, .bl false, .bl false, .bl false, .bl false, .bl false, .bl true]) n7)
    have h7 : ∀ {H0 : Hp}, (upd H0 l7 (.lst [.bl false, .bl false, .bl false, .bl false, .bl false, .bl false, .bl false, .bl false, .bl false, .bl false, .bl true])) l7 = some (.lst [.bl false, .bl false, .bl false, .bl false, .bl false, .bl false, .bl false, .bl false, .bl false, .bl false, .bl true]) := upd_same
    refine ⟨sz 11 (by decide), fun m1 nm => ?_⟩
    have em := e7.trans (Ex.new (o := .lst ((["choice", "letter", "name", "oneway", "row", "sheet", "step", "shut", "text", "long", "many"] : List Str).map V.str)) nm)
    exact ⟨_, rfl, _, rfl, _, rfl, a, l7, m1, cs.getD 7 0, [false, false, false, false, false, false, false, false, false, false, true], ["choice", "letter", "name", "oneway", "row", "sheet", "step", "shut", "text", "long", "many"], "many", rfl, em _ _ ha, C.ec, C.val, Ex.new nm _ _ h7, upd_same, rfl, by show 11 ≤ 100; decide, rfl, fun H' e' => q.go (em.trans e')⟩
theorem ok_told {f fW fN CH : Addr} {cs : List Addr} {fd fdW fdN : FuncData} {n k : Nat} (F : Fun K "_law_told" "_law_told" sTold f fd) (FW : Fun K "written" "written" sWritten fW fdW) (GW : FnOk P w K mg base (L2.CX P w) (k + 1) fW fdW ["great"] (spWritten os ls qs n (cs.getD 7 0))) (bW : Binds K fdW ["great"] []) (gW : mg "written" = some (.ref fW))
    (FN : Fun K "_law_named" "_law_named" sLawNamed fN fdN) (GN : FnOk P w K mg base CX0 (k + 1) fN fdN ["caught"] (spNamed K CH cs)) (bN : Binds K fdN ["caught"] []) (gN : mg "_law_named" = some (.ref fN)) (M : KindM mg CH cs) (C7 : KindC K CH cs 7) (hx : PySem.W.exmOne K (.ref (cs.getD 7 0)) (.ref CH) = some true) : FnOk P w K mg base CX0 (k + 2) f fd ["great"] (spTold os ls qs n) := by
  have nd := scTold.nd
  refine F.ok scTold (fun vs H Q E h => ?_) (fun cdv A outer s H vs Q E hr h => ?_)
  · obtain ⟨v, W, rfl, _⟩ := h
    rfl
  · obtain ⟨v, W, rfl, hG, hn, q1, q2⟩ := h
    refine ⟨_, pss_cons (ps_set (i := 1) nd rfl (.inl rfl) pe_non) (pss_cons (ps_set (i := 2) nd rfl (.inl rfl) pe_non)
      (pss_cons (ps_try_keep (i := 3) rfl rfl rfl nd rfl rfl ⟨rfl, by decide, .inl M.gH⟩ (fun W pn xe tk _ => pss_one (ps_set (i := 1) nd rfl (.inl rfl) (pe_callS GW hr (by rfl) gW FW.kp bW (fun σ => passAt tk σ) (pa_cons (pv 0) pa_nil)))) (fun a oe cls d pn hz hf => pss_one (ps_set (i := 2) nd rfl (.inl rfl) (pv 3))))
      (pss_one (ps_ret (pe_ifExp (pt_cmpR op_isN (pv 2) pe_non (nomark _)) (pv 1) (pe_call GN hr (by rfl) gN FN.kp bN .nil pass0 (pa_cons (pv 2) pa_nil))))))), ?_⟩
    refine ⟨_, rfl, v, W, rfl, hG, hn, fun h4 p H1 hp e1 h1 => ?_, fun h4 H1 e1 => ?_⟩
    · exact ⟨_, rfl, rfl, _, rfl, iteT ⟨_, rfl, q1 h4 p H1 hp e1 h1⟩⟩
    · exact ⟨hx, fun a na => ⟨_, rfl, _, rfl, rfl, _, rfl, iteF ⟨_, rfl, a, rfl, C7, upd_same, fun H2 e2 => q2 h4 H2 ((e1.trans (Ex.new na)).trans e2)⟩⟩⟩
end
end Eh
set_option Elab.async false
set_option linter.all false
set_option maxRecDepth 100000
set_option maxHeartbeats 4000000
namespace Eh
open PySem PySem.Spec PyProof.Rows L2 Evl
abbrev nLawNearBound : List Str := ["pot", "sheet", "a", "c", "pair", "many", "found", "half"]
theorem scLawNearBound : FnScope nLawNearBound ["pot", "sheet"] (defScope sLawNearBound) := ⟨rfl, rfl, rfl, by decide +kernel, rfl, by decide +kernel, by decide +kernel⟩
abbrev nLawOfNothing : List Str := ["sheet", "a", "c", "vast", "found"]
theorem scLawOfNothing : FnScope nLawOfNothing ["sheet"] (defScope sLawOfNothing) := ⟨rfl, rfl, rfl, by decide +kernel, rfl, by decide +kernel, by decide +kernel⟩
/-! great words that are made where no letter is drawn -/
def EvG (os ls qs : List Str) (te : TE) (σ : L2.St) (H : Hp) (n : Nat) : Prop := ∀ H1, Ex H H1 → ∀ Q : VK, (∀ v W H2, Ex H1 H2 → GAt os ls qs H2 n v W → Q v H2) → te σ H1 Q
def EvGs (os ls qs : List Str) (ta : TA) (σ : L2.St) (H : Hp) (n m : Nat) : Prop := ∀ H1, Ex H H1 → ∀ Q : List V → Hp → Prop, (∀ vs Ws H2, Ex H1 H2 → All2 (GAt os ls qs H2 n) vs Ws → vs.length = m → Q vs H2) → ta σ H1 Q
section
variable {os ls qs : List Str} {σ : L2.St} {H : Hp} {te ta tc tk : TE} {n m : Nat}
theorem EvG.le (h : EvG os ls qs te σ H n) (hm : n ≤ m) : EvG os ls qs te σ H m := fun H1 e Q q => h H1 e Q fun v W H2 e2 g => q v W H2 e2 (g.le hm)
theorem EvG.mono {H' : Hp} (e : Ex H H') (h : EvG os ls qs te σ H n) : EvG os ls qs te σ H' n := fun H1 e1 Q q => h H1 (e.trans e1) Q q
theorem eg_var {i : Nat} {v : V} {W : List Str} (h : σ[i]? = some (some v)) (g : GAt os ls qs H n v W) : EvG os ls qs (tVar i) σ H n := fun H1 e Q q => ⟨v, h, q v W H1 (Ex.refl _) (g.ex e)⟩
theorem eg_word {tw : TA} {W : List Str} (h : EvA tw σ H (W.map V.str)) (hl : W.length ≤ 60) (hm : ∀ x ∈ W, x ∈ os ++ ls ++ qs) (hb : bal os qs W 0 = some 0) : EvG os ls qs (tTup (tCons (tC (.str "word")) (tCons (tTup tw) tNil))) σ H 1 := fun H1 e Q q =>
  h H1 e _ fun H2 e2 => ⟨by rw [List.length_map]; exact sz_of (by omega), fun u nu => ⟨by show 2 ≤ sizeLine; decide, fun t nt => q (.ref t) W _ (e2.trans ((Ex.new nu).trans (Ex.new nt))) ⟨t, _, [], [], rfl, upd_same, .word (Ex.new nt _ _ upd_same) hl hm hb⟩⟩⟩
theorem eg_nil : EvG os ls qs (tTup (tCons (tC (.str "word")) (tCons (tTup tNil) tNil))) σ H 1 := eg_word (W := []) ea_nil (Nat.zero_le _) (fun x h => (List.not_mem_nil h).elim) rfl
theorem eg_two {a c : Str} (hS : Sht os ls qs) (ha : a ∈ os) (hc : c ∈ qs) (h1 : Ev ta σ H (.str a)) (h2 : Ev tc σ H (.str c)) : EvG os ls qs (tTup (tCons (tC (.str "word")) (tCons (tTup (tCons ta (tCons tc tNil))) tNil))) σ H 1 := eg_word (W := [a, c]) (ea_cons h1 (ea_cons h2 ea_nil)) (by show 2 ≤ 60; decide) (fun x h => by
  rcases List.mem_cons.mp h with e | e
  · rw [e]; exact List.mem_append.mpr (.inl (List.mem_append.mpr (.inl ha)))
  · rw [List.mem_singleton.mp e]; exact List.mem_append.mpr (.inr hc)) (by
  rw [show [a, c] = [a] ++ [c] from rfl, bal_app, bal_one_op ha]
  exact bal_one_cl hS hc 0)
theorem eg_again {k : Nat} (h : EvG os ls qs te σ H n) (h1 : Ev tk σ H (.int (k : Int))) (hk : k < 2 ^ 200) : EvG os ls qs (tTup (tCons (tC (.str "again")) (tCons tk (tCons te tNil)))) σ H (n + 1) := fun H1 e Q q =>
  h1 H1 e _ fun H2 e2 => h H2 (e.trans e2) _ fun v W H3 e3 g => ⟨by show 3 ≤ sizeLine; decide, fun t nt => q (.ref t) _ _ ((e2.trans e3).trans (Ex.new nt)) ⟨t, _, [v], [W], rfl, upd_same, .again hk (g.ex (Ex.new nt))⟩⟩
theorem eg_wrap {k : Nat} {a c : Str} (ha : a ∈ os) (hc : c ∈ qs) (h : EvG os ls qs te σ H n) (h1 : Ev tk σ H (.int (k : Int))) (hk : k < 2 ^ 200) (h2 : Ev ta σ H (.str a)) (h3 : Ev tc σ H (.str c)) : EvG os ls qs (tTup (tCons (tC (.str "wrap")) (tCons tk (tCons ta (tCons te (tCons tc tNil)))))) σ H (n + 1) := fun H1 e Q q =>
  h1 H1 e _ fun H2 e2 => h2 H2 (e.trans e2) _ fun H3 e3 => h H3 ((e.trans e2).trans e3) _ fun v W H4 e4 g => h3 H4 (((e.trans e2).trans e3).trans e4) _ fun H5 e5 => ⟨by show 5 ≤ sizeLine; decide, fun t nt => q (.ref t) _ _ ((((e2.trans e3).trans e4).trans e5).trans (Ex.new nt)) ⟨t, _, [v], [W], rfl, upd_same, .wrap hk ha hc (g.ex (e5.trans (Ex.new nt)))⟩⟩
theorem egs_nil : EvGs os ls qs tNil σ H n 0 := fun H1 e Q q => q [] [] H1 (Ex.refl _) trivial rfl
theorem egs_cons {tr : TA} (h : EvG os ls qs te σ H n) (hr : EvGs os ls qs tr σ H n m) : EvGs os ls qs (tCons te tr) σ H n (m + 1) := fun H1 e Q q =>
  h H1 e _ fun v W H2 e2 g => hr H2 (e.trans e2) _ fun vs Ws H3 e3 gs hl => q (v :: vs) (W :: Ws) H3 (e2.trans e3) ⟨g.ex e3, gs⟩ (by rw [List.length_cons, hl])
theorem eg_row {tr : TA} (h : EvGs os ls qs tr σ H n m) (hm : m ≤ 8) : EvG os ls qs (tTup (tCons (tC (.str "row")) (tCons (tTup tr) tNil))) σ H (n + 1) := fun H1 e Q q =>
  h H1 e _ fun vs Ws H2 e2 gs hl => ⟨sz_of (by omega), fun u nu => ⟨by show 2 ≤ sizeLine; decide, fun t nt => q (.ref t) Ws.flatten _ (e2.trans ((Ex.new nu).trans (Ex.new nt))) ⟨t, _, vs, Ws, rfl, upd_same, .row (Ex.new nt _ _ upd_same) (All2.mono (fun v W g => g.ex ((Ex.new nu).trans (Ex.new nt))) _ _ gs) (by omega)⟩⟩⟩
theorem All2.app {R : V → List Str → Prop} : ∀ (vs us : List V) (Ws Us : List (List Str)), All2 R vs Ws → All2 R us Us → All2 R (vs ++ us) (Ws ++ Us)
  | [], us, [], Us, _, h => h
  | v :: vs, us, W :: Ws, Us, h, h' => ⟨h.1, All2.app vs us Ws Us h.2 h'⟩
  | [], _, _ :: _, _, h, _ => h.elim
  | _ :: _, _, [], _, h, _ => h.elim
end
theorem last_at {xs : List Str} (h : xs ≠ []) : ∃ x ∈ xs, atI (xs.map V.str) (-1) = some (.str x) := by
  obtain ⟨x, hx⟩ : ∃ x, x = xs.getLast h := ⟨_, rfl⟩
  refine ⟨x, hx ▸ List.getLast_mem h, ?_⟩
  rw [← List.dropLast_concat_getLast h, ← hx, List.map_append]
  exact atI_last _ _
section
variable {os ls qs : List Str} {σ : L2.St} {H : Hp} {te tl : TE} {ta tr : TA} {n m i : Nat} {D : Ends} {tz : TS} {Q : VK} {QA : List V → Hp → Prop} {K : PySem.W.Frag}
theorem q_asgG (h : EvG os ls qs te σ H n) (k : ∀ v W H1, Ex H H1 → GAt os ls qs H1 n v W → tz D (σ.set i (some v)) H1) : tSeq (tAsg te (gName i)) tz D σ H := h H (Ex.refl H) _ fun v W H1 e g => k v W H1 e g
theorem g_lst (h : EvGs os ls qs ta σ H n m) (hm : m ≤ 1000) (k : ∀ vs Ws H2 l, Ex H H2 → All2 (GAt os ls qs H2 n) vs Ws → vs.length = m → H2 l = none → Q (.ref l) (upd H2 l (.lst vs))) : tLst ta σ H Q := h H (Ex.refl _) _ fun vs Ws H2 e2 gs hl => ⟨sz_of (by omega), fun l nl => k vs Ws H2 l e2 gs hl nl⟩
theorem q_asgGs (h : EvGs os ls qs ta σ H n m) (hm : m ≤ 1000) (k : ∀ vs Ws H2 l, Ex H H2 → All2 (GAt os ls qs H2 n) vs Ws → vs.length = m → H2 l = none → tz D (σ.set i (some (.ref l))) (upd H2 l (.lst vs))) : tSeq (tAsg (tLst ta) (gName i)) tz D σ H := h H (Ex.refl _) _ fun vs Ws H2 e2 gs hl => ⟨sz_of (by omega), fun l nl => k vs Ws H2 l e2 gs hl nl⟩
theorem q_appG {l : Addr} {xs : List V} (hl : H l = some (.lst xs)) (ha : Ev tl σ H (.ref l)) (h : EvG os ls qs te σ H n) (hz : xs.length < 100000) (k : ∀ v W H1, Ex H H1 → GAt os ls qs H1 n v W → tz D σ (upd H1 l (.lst (xs ++ [v])))) : tSeq (tDrop (tBM K "list" rAppend tl (tCons te tNil))) tz D σ H := ha H (Ex.refl H) _ fun H1 e1 =>
  ⟨Or.inl ⟨rfl, xs, sq_of (e1 l _ hl)⟩, h H1 e1 _ fun v W H2 e2 g => ⟨l, xs, v, rfl, rfl, e2 l _ (e1 l _ hl), sz_lt hz, k v W H2 (e1.trans e2) g⟩⟩
theorem g_cons (h : EvG os ls qs te σ H n) (k : ∀ v W H2, Ex H H2 → GAt os ls qs H2 n v W → tr σ H2 fun xs H3 => QA (v :: xs) H3) : tCons te tr σ H QA := h H (Ex.refl _) _ fun v W H2 e2 g => k v W H2 e2 g
end
/-- great words in a list -/
def GsAt (os ls qs : List Str) (H : Hp) (l : Addr) (m : Nat) : Prop := ∃ vs Ws, H l = some (.lst vs) ∧ All2 (GAt os ls qs H 6) vs Ws ∧ vs.length ≤ m
def spNear : Sp := fun vs H Q _ => ∃ (p c s : Addr) (ns : List Int) (os ls qs : List Str), vs = [.ref p, .ref s] ∧ Pot p c ns H ∧ Sht os ls qs ∧ SheetAt H s os ls qs ∧ ∀ l H', GsAt os ls qs H' l 5 → Keep p H H' → Pot p c ns H' → l ≠ p → Q (.ref l) H'
def spNoth : Sp := fun vs H Q _ => ∃ (s : Addr) (os ls qs : List Str), vs = [.ref s] ∧ Sht os ls qs ∧ SheetAt H s os ls qs ∧ ∀ l H', H l = none → Ex H H' → GsAt os ls qs H' l 6 → Q (.ref l) H'
theorem k198 {k : Nat} (h : k ≤ 1000) : k < 2 ^ 200 := by rw [two200]; omega
theorem k60 : (1000000000000000000000000000000000000000000000000000000000000 : Nat) < 2 ^ 200 := by rw [two200]; decide
theorem ev_60 {σ : L2.St} {H : Hp} : Ev (tOp (rI CPow fun i j => .int (i ^ j.toNat)) (tC (.int 10)) (tC (.int 60))) σ H (.int ((1000000000000000000000000000000000000000000000000000000000000 : Nat) : Int)) := ev_is (ev_op ev_c ev_c (rv_I ⟨by decide, by decide, by decide⟩)) (by
  show V.int ((10 : Int) ^ (60 : Int).toNat) = _
  rw [ten60]
  rfl)
theorem Sht.o0 {os ls qs : List Str} (hS : Sht os ls qs) : os ≠ [] := fun z => by have := hS.o1; rw [z] at this; exact absurd this (by decide)
theorem Sht.c0 {os ls qs : List Str} (hS : Sht os ls qs) : qs ≠ [] := fun z => by have := hS.c1; rw [z] at this; exact absurd this (by decide)
/-- one more in a list -/
theorem GsAt.add {os ls qs : List Str} {H : Hp} {l : Addr} {v : V} {vs : List V} {Ws : List (List Str)} {W : List Str} {m : Nat} (hl : H l = some (.lst vs)) (hA : All2 (GAt os ls qs H 6) vs Ws) (hm : vs.length ≤ m) (g : GAt os ls qs H 6 v W) : GsAt os ls qs (upd H l (.lst (vs ++ [v]))) l (m + 1) :=
  ⟨vs ++ [v], Ws ++ [W], upd_same, All2.mono (fun v W z => GAt.keep (keep_lst hl) _ _ _ z) _ _ (All2.snoc g _ _ hA), by rw [List.length_append]; exact Nat.succ_le_succ hm⟩
section
variable {P : Program} {w : World} {K : PySem.W.Frag} {mg : Str → Option Value} {base : Heap}
theorem ok_near {f fP : Addr} {fd fdP : FuncData} {k : Nat} (F : Fun K "_law_near_bound" "_law_near_bound" sLawNearBound f fd) (Fpick : Fun K "_law_pick" "_law_pick" sPick fP fdP) (Gpick : FnOk P w K mg base CX0 (k + 1) fP fdP ["pot", "many"] spPick) (bpick : Binds K fdP ["pot", "many"] []) (gpick : mg "_law_pick" = some (.ref fP)) (mlen : mg "len" = none) : FnOk P w K mg base CX0 (k + 2) f fd ["pot", "sheet"] spNear := by
  have nd := scLawNearBound.nd
  refine F.ok scLawNearBound (fun vs H Q E h => ?_) (fun cdv A outer s H vs Q E hr h => ?_)
  · obtain ⟨p, c, s, ns, os, ls, qs, rfl, _⟩ := h
    rfl
  · obtain ⟨p, c, s, ns, os, ls, qs, rfl, hP, hS, hs, q⟩ := h
    refine ⟨_, (pss_cons (ps_set (i := 2) nd rfl (.inl rfl) (pe_ix ix_tup (pe_ix ix_tup (pv 1) pe_int (fun _ _ => rfl)) (pe_call Gpick hr (by rfl) gpick Fpick.kp bpick .nil pass0 (pa_cons (pv 0) (pa_cons (pe_callB call_len_seq (by rfl) mlen PySem.boot_len (pa_cons (pe_ix ix_tup (pv 1) pe_int (fun _ _ => rfl)) pa_nil)) pa_nil))) (fun _ _ => rfl)))
      (pss_cons (ps_set (i := 3) nd rfl (.inl rfl) (pe_ix ix_tup (pe_ix ix_tup (pv 1) pe_int (fun _ _ => rfl)) (pe_call Gpick hr (by rfl) gpick Fpick.kp bpick .nil pass0 (pa_cons (pv 0) (pa_cons (pe_callB call_len_seq (by rfl) mlen PySem.boot_len (pa_cons (pe_ix ix_tup (pv 1) pe_int (fun _ _ => rfl)) pa_nil)) pa_nil))) (fun _ _ => rfl)))
      (pss_cons (ps_set (i := 4) nd rfl (.inl rfl) (pe_tup (pa_cons pe_str (pa_cons (pe_tup (pa_cons (pv 2) (pa_cons (pv 3) pa_nil))) pa_nil))))
      (pss_cons (ps_set (i := 5) nd rfl (.inl rfl) (pe_op op_add pe_int (pe_call Gpick hr (by rfl) gpick Fpick.kp bpick .nil pass0 (pa_cons (pv 0) (pa_cons pe_int pa_nil)))))
      (pss_cons (ps_set (i := 6) nd rfl (.inl rfl) (pe_lst (pa_cons (pe_tup (pa_cons pe_str (pa_cons (pv 5) (pa_cons (pv 4) pa_nil)))) (pa_cons (pe_tup (pa_cons pe_str (pa_cons (pv 5) (pa_cons (pv 2) (pa_cons (pe_tup (pa_cons pe_str (pa_cons (pe_tup pa_nil) pa_nil))) (pa_cons (pv 3) pa_nil)))))) (pa_cons (pe_tup (pa_cons pe_str (pa_cons (pe_op op_sub (pv 5) pe_int) (pa_cons (pv 2) (pa_cons (pv 4) (pa_cons (pv 3) pa_nil)))))) pa_nil)))))
      (pss_cons (ps_set (i := 7) nd rfl (.inl rfl) (pe_tup (pa_cons pe_str (pa_cons pe_int (pa_cons (pv 4) pa_nil)))))
      (pss_cons (ps_expr (pe_bm PySem.F.plainAttrs_list PySem.F.slot_list_append PySem.F.type_list_append mt_append (pv 6) (pa_cons (pe_tup (pa_cons pe_str (pa_cons (pe_tup (pa_cons (pv 7) (pa_cons (pe_tup (pa_cons pe_str (pa_cons (pe_tup pa_nil) pa_nil))) (pa_cons (pe_tup (pa_cons pe_str (pa_cons (pe_op op_sub (pv 5) pe_int) (pa_cons (pv 2) (pa_cons (pe_tup (pa_cons pe_str (pa_cons pe_int (pa_cons (pv 7) pa_nil)))) (pa_cons (pv 3) pa_nil)))))) pa_nil)))) pa_nil))) pa_nil)))
      (pss_cut (ps_if (pt_cmpR (op_neD hr.units) (pe_ix ix_tup (pv 1) pe_int (fun _ _ => rfl)) (pe_tup pa_nil) (nomark _)) (pss_one (ps_expr (pe_bm PySem.F.plainAttrs_list PySem.F.slot_list_append PySem.F.type_list_append mt_append (pv 6) (pa_cons (pe_tup (pa_cons pe_str (pa_cons (pe_op op_add pe_int (pe_call Gpick hr (by rfl) gpick Fpick.kp bpick .nil pass0 (pa_cons (pv 0) (pa_cons pe_int pa_nil)))) (pa_cons (pe_tup (pa_cons pe_str (pa_cons (pe_tup (pa_cons (pe_ix ix_tup (pe_ix ix_tup (pv 1) pe_int (fun _ _ => rfl)) (pe_un un_neg pe_int) (fun _ _ => rfl)) pa_nil)) pa_nil))) pa_nil)))) pa_nil)))) pss_nil)
      (pss_one (ps_ret (pv 6))))))))))), ?_⟩
    obtain ⟨ao, ap, ac, g0, g1, g2, g3⟩ := hs
    refine draw_rd hP rfl rfl g0 (show atI [V.ref ao, .ref ap, .ref ac] 0 = some (.ref ao) from rfl) g1 hS.o0 (by have := hS.o4; omega) fun a H1 ha kp1 hP1 => ?_
    have kt1 : ∀ b xs, H b = some (.tup xs) → H1 b = some (.tup xs) := fun b xs z => kp1 _ _ (hP.ne_tup z) z
    refine draw_rd hP1 rfl rfl (kt1 _ _ g0) (show atI [V.ref ao, .ref ap, .ref ac] 2 = some (.ref ac) from rfl) (kt1 _ _ g3) hS.c0 (by have := hS.c4; omega) fun z H2 hz kp2 hP2 => ?_
    have kp02 := kp1.trans kp2
    refine q_asgG (n := 1) (eg_two hS ha hz (ev_var rfl) (ev_var rfl)) fun pr W1 H3 e3 hpr => ?_
    have hP3 := hP2.ex e3
    refine ⟨_, rfl, p, c, ns, 4, rfl, by decide, by decide, hP3, fun v H4 hv kp4 hP4 => ⟨_, _, rfl, rfl, ?_⟩⟩
    have kp04 := (kp02.trans (Keep.ofEx e3)).trans kp4
    have hpr4 := hpr.kp hP3 kp4
    have em : (198 : Int) + (v : Int) = ((198 + v : Nat) : Int) := by omega
    have em1 : ((198 + v : Nat) : Int) - 1 = ((197 + v : Nat) : Int) := by omega
    have em2 : ((198 + v : Nat) : Int) - 100 = ((98 + v : Nat) : Int) := by omega
    show tSeq _ _ _ [some (.ref p), some (.ref s), some (.str a), some (.str z), some pr, some (.int ((198 : Int) + (v : Int))), none, none] H4
    rw [em]
    refine q_asgGs (n := 6) (m := 3) (egs_cons ((eg_again (eg_var rfl hpr4) (ev_var rfl) (k198 (by omega))).le (by decide)) (egs_cons ((eg_wrap ha hz eg_nil (ev_var rfl) (k198 (by omega)) (ev_var rfl) (ev_var rfl)).le (by decide)) (egs_cons ((eg_wrap ha hz (eg_var rfl hpr4) (ev_is (ev_op (ev_var rfl) ev_c rv_I0) (congrArg V.int em1)) (k198 (by omega)) (ev_var rfl) (ev_var rfl)).le (by decide)) egs_nil))) (by decide) fun vs Ws H5 l e5 hA hm nl => ?_
    have e6 := e5.trans (Ex.new (o := .lst vs) nl)
    have hA6 : All2 (GAt os ls qs _ 6) vs Ws := All2.mono (fun v W g => g.ex (Ex.new (o := .lst vs) nl)) _ _ hA
    have hl6 : (upd H5 l (.lst vs)) l = some (.lst vs) := upd_same
    have hpl := (hP4.ex e5).ne_new nl
    show tSeq _ _ _ [some (.ref p), some (.ref s), some (.str a), some (.str z), some pr, some (.int ((198 + v : Nat) : Int)), some (.ref l), none] (upd H5 l (.lst vs))
    generalize upd H5 l (.lst vs) = H6 at e6 hA6 hl6
    have hpr6 := hpr4.ex e6
    -- half
    refine q_asgG (n := 2) (eg_again (k := 100) (eg_var rfl hpr6) ev_c (k198 (by decide))) fun hf W2 H7 e7 hhf => ?_
    have em0 : (0 : Int) = ((0 : Nat) : Int) := rfl
    refine q_appG (n := 5) (e7 _ _ hl6) (ev_var rfl) (eg_row (n := 4) (m := 3) (egs_cons ((eg_var rfl hhf).le (by decide)) (egs_cons (eg_nil.le (by decide)) (egs_cons ((eg_wrap ha hz (eg_again (k := 0) (eg_var rfl hhf) ev_c (k198 (by decide))) (ev_is (ev_op (ev_var rfl) ev_c rv_I0) (congrArg V.int em2)) (k198 (by omega)) (ev_var rfl) (ev_var rfl)).le (by decide)) egs_nil))) (by decide)) (by omega) fun rw_ W3 H8 e8 hrw => ?_
    have e68 := e7.trans e8
    have hl8 : H8 l = some (.lst vs) := e68 _ _ hl6
    have G9 := GsAt.add (v := rw_) hl8 (All2.mono (fun v W g => g.ex e68) _ _ hA6) (m := 3) (by omega) (hrw.le (by decide))
    have kp8 : Keep p H H8 := kp04.trans (Keep.ofEx (e6.trans e68))
    have hP8 := hP4.ex (e6.trans e68)
    have nlH : H l = none := kp04.fresh hpl.1.symm (fresh_back e5 nl)
    have kp9 : Keep p H (upd H8 l (.lst (vs ++ [rw_]))) := kp8.new nlH
    have hP9 : Pot p c ns (upd H8 l (.lst (vs ++ [rw_]))) := hP8.new hpl.1 hpl.2
    generalize upd H8 l (.lst (vs ++ [rw_])) = H9 at G9 kp9 hP9
    refine ⟨fun σ' H' => (∃ y7, σ' = [some (.ref p), some (.ref s), some (.str a), some (.str z), some pr, some (.int ((198 + v : Nat) : Int)), some (.ref l), y7]) ∧ GsAt os ls qs H' l 5 ∧ Keep p H H' ∧ Pot p c ns H', ?_, ?_⟩
    · have h0 : H9 s = _ := kp9 _ _ (hP.ne_tup g0) g0
      have h2 : H9 ap = _ := kp9 _ _ (hP.ne_tup g2) g2
      have hps : ∀ x ∈ ls, ∀ d ∈ cs x, az d := fun x hx => (hS.lt x (List.mem_append.mpr (.inl (List.mem_append.mpr (.inr hx))))).1
      obtain ⟨vs9, Ws9, hl9, hA9, hm9⟩ := G9
      refine s_when (b := !decide (ls = [])) (et_test (ev_opU (ev_op (ev_var rfl) ev_c (rv_ixT (st_of h0) (show atI [V.ref ao, .ref ap, .ref ac] 1 = some (.ref ap) from rfl))) (eu_tup ea_nil (by decide)) fun u H6 hu e6 => fun H7 e7 Q qq => ⟨.tuple (ls.map PyData.str), .tuple [], .tup (st_of (e7 _ _ (e6 _ _ h2))) (dpStrs ls), .tup (st_of (e7 _ _ hu)) .nil, shapedT hps, shapedT0, by rw [eqv_nilT]; exact qq H7 (Ex.refl _)⟩)) (fun hb HA eA => ?_) (fun hb HA eA => ⟨⟨_, rfl⟩, ⟨vs9, Ws9, eA _ _ hl9, All2.mono (fun v W g => g.ex eA) _ _ hA9, by omega⟩, kp9.trans (Keep.ofEx eA), hP9.ex eA⟩)
      have l0 : ls ≠ [] := fun z => by rw [decide_eq_true z] at hb; cases hb
      obtain ⟨x, hx, hat⟩ := last_at l0
      have hPA := hP9.ex eA
      refine ⟨_, rfl, .inl ⟨rfl, _, sq_of (eA _ _ hl9)⟩, _, rfl, p, c, ns, 5, rfl, by decide, by decide, hPA, fun v5 HB hv5 kpB hPB => ⟨_, _, rfl, rfl, ?_⟩⟩
      have kAB := (kp9.trans (Keep.ofEx eA)).trans kpB
      have lB : HB l = some (.lst vs9) := kpB _ _ hpl.1.symm (eA _ _ hl9)
      have ek : (398 : Int) + (v5 : Int) = ((398 + v5 : Nat) : Int) := by omega
      have hAB : All2 (GAt os ls qs HB 6) vs9 Ws9 := All2.mono (fun v W g => (g.ex eA).kp hPA kpB) _ _ hA9
      refine g_cons (n := 1) (eg_word (W := [x]) (ea_cons (ev_op (ev_op (ev_var rfl) ev_c (rv_ixT (st_of (kAB _ _ (hP.ne_tup g0) g0)) (show atI [V.ref ao, .ref ap, .ref ac] 1 = some (.ref ap) from rfl))) (ev_un ev_c ru_neg) (rv_ixT (st_of (kAB _ _ (hP.ne_tup g2) g2)) hat)) ea_nil) (by show 1 ≤ 60; decide) (fun y hy => by rw [List.mem_singleton.mp hy]; exact List.mem_append.mpr (.inl (List.mem_append.mpr (.inr hx)))) (bal_one_pl hS hx 0)) fun wv Ww HC eC hwv => ⟨by show 3 ≤ sizeLine; decide, fun t nt => ?_⟩
      have eCt := eC.trans (Ex.new (o := .tup [.str "again", .int ((398 : Int) + (v5 : Int)), wv]) nt)
      have ht : (upd HC t (.tup [.str "again", .int ((398 : Int) + (v5 : Int)), wv])) t = some (.tup [.str "again", .int ((398 + v5 : Nat) : Int), wv]) := by rw [upd_same, ek]
      have hwt := hwv.ex (Ex.new (o := .tup [.str "again", .int ((398 : Int) + (v5 : Int)), wv]) nt)
      refine ⟨l, _, _, rfl, rfl, eCt _ _ lB, sz_lt (by omega), ⟨_, rfl⟩, GsAt.add (m := 4) (W := (List.replicate (398 + v5) Ww).flatten) (eCt _ _ lB) (All2.mono (fun v W g => g.ex eCt) _ _ hAB) hm9 (GAt.le (n := 2) (by decide) ⟨t, _, [wv], [Ww], rfl, ht, .again (k198 (by omega)) hwt⟩), (kAB.trans (Keep.ofEx eCt)).new nlH, (hPB.ex eCt).new hpl.1 hpl.2⟩
    · rintro σ' H' ⟨⟨y7, rfl⟩, G, kp', hP'⟩
      exact ⟨_, rfl, q l H' G kp' hP' hpl.1.symm⟩
theorem ok_nothing {f : Addr} {fd : FuncData} {k : Nat} (F : Fun K "_law_of_nothing" "_law_of_nothing" sLawOfNothing f fd)  : FnOk P w K mg base CX0 (k + 1) f fd ["sheet"] spNoth := by
  have nd := scLawOfNothing.nd
  refine F.ok scLawOfNothing (fun vs H Q E h => ?_) (fun cdv A outer s H vs Q E hr h => ?_)
  · obtain ⟨s, os, ls, qs, rfl, _⟩ := h
    rfl
  · obtain ⟨s, os, ls, qs, rfl, hS, hs, q⟩ := h
    refine ⟨_, (pss_cons (ps_set (i := 1) nd rfl (.inl rfl) (pe_ix ix_tup (pe_ix ix_tup (pv 0) pe_int (fun _ _ => rfl)) (pe_un un_neg pe_int) (fun _ _ => rfl)))
      (pss_cons (ps_set (i := 2) nd rfl (.inl rfl) (pe_ix ix_tup (pe_ix ix_tup (pv 0) pe_int (fun _ _ => rfl)) (pe_un un_neg pe_int) (fun _ _ => rfl)))
      (pss_cons (ps_set (i := 3) nd rfl (.inl rfl) (pe_tup (pa_cons pe_str (pa_cons (pe_op op_pow pe_int pe_int) (pa_cons (pe_tup (pa_cons pe_str (pa_cons (pe_op op_pow pe_int pe_int) (pa_cons (pv 1) (pa_cons (pe_tup (pa_cons pe_str (pa_cons (pe_tup pa_nil) pa_nil))) (pa_cons (pv 2) pa_nil)))))) pa_nil)))))
      (pss_cons (ps_set (i := 4) nd rfl (.inl rfl) (pe_lst (pa_cons (pe_tup (pa_cons pe_str (pa_cons pe_int (pa_cons (pv 3) pa_nil)))) (pa_cons (pe_tup (pa_cons pe_str (pa_cons (pe_op op_pow pe_int pe_int) (pa_cons (pe_tup (pa_cons pe_str (pa_cons (pe_op op_pow pe_int pe_int) (pa_cons (pe_tup (pa_cons pe_str (pa_cons (pe_tup pa_nil) pa_nil))) pa_nil)))) pa_nil)))) (pa_cons (pe_tup (pa_cons pe_str (pa_cons (pe_tup pa_nil) pa_nil))) pa_nil)))))
      (pss_cons (ps_expr (pe_bm PySem.F.plainAttrs_list PySem.F.slot_list_append PySem.F.type_list_append mt_append (pv 4) (pa_cons (pe_tup (pa_cons pe_str (pa_cons (pe_tup (pa_cons (pe_tup (pa_cons pe_str (pa_cons pe_int (pa_cons (pe_tup (pa_cons pe_str (pa_cons (pe_tup (pa_cons (pv 3) (pa_cons (pv 3) pa_nil))) pa_nil))) pa_nil)))) (pa_cons (pe_tup (pa_cons pe_str (pa_cons (pe_tup (pa_cons (pv 1) (pa_cons (pv 2) pa_nil))) pa_nil))) pa_nil))) pa_nil))) pa_nil)))
      (pss_one (ps_ret (pe_op op_cat (pv 4) (pe_lst (pa_cons (pe_tup (pa_cons pe_str (pa_cons pe_int (pa_cons (pv 1) (pa_cons (pe_tup (pa_cons pe_str (pa_cons pe_int (pa_cons (pv 3) pa_nil)))) (pa_cons (pv 2) pa_nil)))))) (pa_cons (pe_tup (pa_cons pe_str (pa_cons pe_int (pa_cons (pv 1) (pa_cons (pv 3) (pa_cons (pv 2) pa_nil)))))) pa_nil))))))))))), ?_⟩
    obtain ⟨ao, ap, ac, g0, g1, g2, g3⟩ := hs
    obtain ⟨a, ha, hat⟩ := last_at hS.o0
    obtain ⟨z, hz, hzt⟩ := last_at hS.c0
    refine q_asg (ev_op (ev_op (ev_var rfl) ev_c (rv_ixT (st_of g0) (show atI [V.ref ao, .ref ap, .ref ac] 0 = some (.ref ao) from rfl))) (ev_un ev_c ru_neg) (rv_ixT (st_of g1) hat)) fun H1 e1 => ?_
    refine q_asg (ev_op (ev_op (ev_var rfl) ev_c (rv_ixT (st_of (e1 _ _ g0)) (show atI [V.ref ao, .ref ap, .ref ac] 2 = some (.ref ac) from rfl))) (ev_un ev_c ru_neg) (rv_ixT (st_of (e1 _ _ g3)) hzt)) fun H2 e2 => ?_
    refine q_asgG (ls := ls) (n := 3) (eg_again (eg_wrap ha hz eg_nil ev_60 k60 (ev_var rfl) (ev_var rfl)) ev_60 k60) fun vast Wv H3 e3 hv => ?_
    have e03 := (e1.trans e2).trans e3
    refine q_asgGs (n := 6) (m := 3) (egs_cons ((eg_again (k := 0) (eg_var rfl hv) ev_c (k198 (by decide))).le (by decide)) (egs_cons ((eg_again (eg_again eg_nil ev_60 k60) ev_60 k60).le (by decide)) (egs_cons ((eg_row (n := 0) (m := 0) egs_nil (by decide)).le (by decide)) egs_nil))) (by decide) fun vs Ws H4 l e4 hA hm nl => ?_
    have e5 := e4.trans (Ex.new (o := .lst vs) nl)
    have hA5 : All2 (GAt os ls qs _ 6) vs Ws := All2.mono (fun v W g => g.ex (Ex.new (o := .lst vs) nl)) _ _ hA
    have hl5 : (upd H4 l (.lst vs)) l = some (.lst vs) := upd_same
    have nl3 : H3 l = none := fresh_back e4 nl
    show tSeq _ _ _ [some (.ref s), some (.str a), some (.str z), some vast, some (.ref l)] (upd H4 l (.lst vs))
    generalize upd H4 l (.lst vs) = H5 at e5 hA5 hl5
    have hv5 := hv.ex e5
    refine q_appG (n := 6) hl5 (ev_var rfl) (eg_row (n := 5) (m := 2) (egs_cons ((eg_again (k := 0) (eg_row (n := 3) (m := 2) (egs_cons (eg_var rfl hv5) (egs_cons (eg_var rfl hv5) egs_nil)) (by decide)) ev_c (k198 (by decide))).le (by decide)) (egs_cons ((eg_two hS ha hz (ev_var rfl) (ev_var rfl)).le (by decide)) egs_nil)) (by decide)) (by omega) fun rw_ W3 H6 e6 hrw => ?_
    have G7 := GsAt.add (v := rw_) (e6 _ _ hl5) (All2.mono (fun v W g => g.ex e6) _ _ hA5) (m := 3) (by omega) hrw
    have e7 : Ex H3 (upd H6 l (.lst (vs ++ [rw_]))) := (e5.trans e6).mut nl3
    generalize upd H6 l (.lst (vs ++ [rw_])) = H7 at G7 e7
    obtain ⟨vs7, Ws7, hl7, hA7, hm7⟩ := G7
    have hv7 := hv.ex e7
    refine ⟨_, rfl, g_lst (n := 6) (m := 2) (egs_cons ((eg_wrap (k := 1) ha hz (eg_again (k := 0) (eg_var rfl hv7) ev_c (k198 (by decide))) ev_c (k198 (by decide)) (ev_var rfl) (ev_var rfl)).le (by decide)) (egs_cons ((eg_wrap (k := 0) ha hz (eg_var rfl hv7) ev_c (k198 (by decide)) (ev_var rfl) (ev_var rfl)).le (by decide)) egs_nil)) (by decide) fun us Us H8 l2 e8 hU hu nl2 => ?_⟩
    have e9 := e8.trans (Ex.new (o := .lst us) nl2)
    refine ⟨l, l2, _, _, rfl, rfl, e9 _ _ hl7, upd_same, sz_of (by omega), fun r nr => ?_⟩
    have e10 := e9.trans (Ex.new (o := .lst (vs7 ++ us)) nr)
    refine q r _ (fresh_back ((e03.trans e7).trans e9) nr) ((e03.trans e7).trans e10) ⟨vs7 ++ us, Ws7 ++ Us, upd_same, All2.app _ _ _ _ (All2.mono (fun v W g => g.ex e10) _ _ hA7) (All2.mono (fun v W g => g.ex ((Ex.new (o := .lst us) nl2).trans (Ex.new (o := .lst (vs7 ++ us)) nr))) _ _ hU), by rw [List.length_append]; omega⟩
end
end Eh
set_option Elab.async false
set_option linter.all false
set_option maxRecDepth 100000
set_option maxHeartbeats 4000000
namespace Eh
open PySem PySem.Spec PyProof.Rows L2 Evl
abbrev nLaw : List Str := ["script", "pot", "sheet", "some", "great", "turn", "found", "due", "k"]
theorem scLaw : FnScope nLaw ["script"] (defScope sLaw) := ⟨rfl, rfl, rfl, by decide +kernel, rfl, by decide +kernel, by decide +kernel⟩
def spEx (sp : List Str → List Str → List Str → Sp) : Sp := fun vs H Q E => ∃ os ls qs, sp os ls qs vs H Q E
def spSameB : Sp := fun vs H Q E => spSame 0 vs H Q E ∨ spSameL vs H Q E
def spLaw (K : PySem.W.Frag) : Sp := fun vs H Q _ => ∃ (a : Addr) (ns : List Int), vs = [.ref a] ∧ SqL K H a (ns.map V.int) ∧ ns.length ≤ 63 ∧ ∀ H', Q (.bl true) H'
section
variable {P : Program} {w : World} {K : PySem.W.Frag} {mg : Str → Option Value} {base : Heap}
theorem fn_ex {CX : CXT} {k : Nat} {f : Addr} {fd : FuncData} {ps : List Str} {sp : List Str → List Str → List Str → Sp} (h : ∀ os ls qs, FnOk P w K mg base CX k f fd ps (sp os ls qs)) : FnOk P w K mg base CX k f fd ps (spEx sp) := ⟨fun _ _ _ _ ⟨os, ls, qs, z⟩ => (h os ls qs).1 _ _ _ _ z, fun _ _ _ _ _ _ _ _ a b c d e ⟨os, ls, qs, z⟩ => (h os ls qs).2 _ _ _ _ _ _ _ _ a b c d e z⟩
theorem fn_or {CX : CXT} {k : Nat} {f : Addr} {fd : FuncData} {ps : List Str} {s1 s2 : Sp} (h1 : FnOk P w K mg base CX k f fd ps s1) (h2 : FnOk P w K mg base CX k f fd ps s2) : FnOk P w K mg base CX k f fd ps (fun vs H Q E => s1 vs H Q E ∨ s2 vs H Q E) := ⟨fun _ _ _ _ z => z.elim (fun z => h1.1 _ _ _ _ z) (fun z => h2.1 _ _ _ _ z), fun _ _ _ _ _ _ _ _ a b c d e z => z.elim (fun z => h1.2 _ _ _ _ _ _ _ _ a b c d e z) (fun z => h2.2 _ _ _ _ _ _ _ _ a b c d e z)⟩
theorem ok_law {f fpot fsheet fnear_bound fof_nothing fgreat ftold fsize fwrite fsame : Addr} {fd dpot dsheet dnear_bound dof_nothing dgreat dtold dsize dwrite dsame : FuncData} {k : Nat} (F : Fun K "law" "law" sLaw f fd) (Fpot : Fun K "_law_pot" "_law_pot" sPot fpot dpot) (Gpot : FnOk P w K mg base CX0 (k + 1) fpot dpot ["script"] (spPot K)) (bpot : Binds K dpot ["script"] []) (gpot : mg "_law_pot" = some (.ref fpot)) (Fsheet : Fun K "_law_sheet" "_law_sheet" sSheet fsheet dsheet) (Gsheet : FnOk P w K mg base CX0 (k + 1) fsheet dsheet ["pot", "most"] spSheet) (bsheet : Binds K dsheet ["pot", "most"] []) (gsheet : mg "_law_sheet" = some (.ref fsheet)) (Fnear_bound : Fun K "_law_near_bound" "_law_near_bound" sLawNearBound fnear_bound dnear_bound) (Gnear_bound : FnOk P w K mg base CX0 (k + 1) fnear_bound dnear_bound ["pot", "sheet"] spNear) (bnear_bound : Binds K dnear_bound ["pot", "sheet"] []) (gnear_bound : mg "_law_near_bound" = some (.ref fnear_bound)) (Fof_nothing : Fun K "_law_of_nothing" "_law_of_nothing" sLawOfNothing fof_nothing dof_nothing) (Gof_nothing : FnOk P w K mg base CX0 (k + 1) fof_nothing dof_nothing ["sheet"] spNoth) (bof_nothing : Binds K dof_nothing ["sheet"] []) (gof_nothing : mg "_law_of_nothing" = some (.ref fof_nothing)) (Fgreat : Fun K "_law_great" "_law_great" sLawGreat fgreat dgreat) (Ggreat : FnOk P w K mg base CX0 (k + 1) fgreat dgreat ["pot", "sheet", "deep", "big"] (spGreat 4)) (bgreat : Binds K dgreat ["pot", "sheet", "deep", "big"] []) (ggreat : mg "_law_great" = some (.ref fgreat)) (Ftold : Fun K "_law_told" "_law_told" sTold ftold dtold) (Gtold : FnOk P w K mg base CX0 (k + 1) ftold dtold ["great"] ((spEx fun os ls qs => spTold os ls qs 6))) (btold : Binds K dtold ["great"] []) (gtold : mg "_law_told" = some (.ref ftold)) (Fsize : Fun K "_law_size" "_law_size" sSize fsize dsize) (Gsize : FnOk P w K mg base CX0 (k + 1) fsize dsize ["great"] ((spEx fun os ls qs => spSize os ls qs 6))) (bsize : Binds K dsize ["great"] []) (gsize : mg "_law_size" = some (.ref fsize)) (Fwrite : Fun K "_law_write" "_law_write" sLawWrite fwrite dwrite) (Gwrite : FnOk P w K mg base CX0 (k + 1) fwrite dwrite ["great"] ((spEx fun os ls qs => spWrite os ls qs 6))) (bwrite : Binds K dwrite ["great"] []) (gwrite : mg "_law_write" = some (.ref fwrite)) (Fsame : Fun K "_law_same" "_law_same" sSame fsame dsame) (Gsame : FnOk P w K mg base CX0 (k + 1) fsame dsame ["found", "due"] spSameB) (bsame : Binds K dsame ["found", "due"] []) (gsame : mg "_law_same" = some (.ref fsame)) (misinstance : mg "isinstance" = none) (mlist : mg "list" = none) (mrange : mg "range" = none) : FnOk P w K mg base CX0 (k + 2) f fd ["script"] (spLaw K) := by
  have nd := scLaw.nd
  refine F.ok scLaw (fun vs H Q E h => ?_) (fun cdv A outer s H vs Q E hr h => ?_)
  · obtain ⟨a, ns, rfl, _⟩ := h
    rfl
  · obtain ⟨a, ns, rfl, hA, hns, q⟩ := h
    refine ⟨_, (pss_cons (ps_set (i := 1) nd rfl (.inr rfl) (pe_call Gpot hr (by rfl) gpot Fpot.kp bpot .nil pass0 (pa_cons (pv 0) pa_nil)))
      (pss_cons (ps_set (i := 2) nd rfl (.inr rfl) (pe_call Gsheet hr (by rfl) gsheet Fsheet.kp bsheet .nil pass0 (pa_cons (pv 1) (pa_cons pe_int pa_nil))))
      (pss_cons (ps_set (i := 3) nd rfl (.inl rfl) (pe_op op_cat (pe_call Gnear_bound hr (by rfl) gnear_bound Fnear_bound.kp bnear_bound .nil pass0 (pa_cons (pv 1) (pa_cons (pv 2) pa_nil))) (pe_call Gof_nothing hr (by rfl) gof_nothing Fof_nothing.kp bof_nothing .nil pass0 (pa_cons (pv 2) pa_nil))))
      (pss_cons (ps_set (i := 3) nd rfl (.inl rfl) (pe_op op_cat (pe_op op_cat (pv 3) (pe_lc (own := [("k", 8)]) (g := gName 8) (tt := tYes) (te := (tCall (spGreat 4) [] E0 (tCons (tVar 1) (tCons (tVar 2) (tCons (tC (.int 2)) (tCons (tC (.bl false)) tNil)))))) rfl nd (pi_range1 (by rfl) mrange (pa_cons pe_int pa_nil)) (blkOk_by (own := [("k", 8)]) (N := nLaw) (sc := defScope sLaw) (by decide +kernel)) (fun _ _ _ _ _ => pg_name (i := 8) nd rfl (.inl rfl)) (fun _ _ _ _ _ => pts_nil) (fun _ _ _ _ _ => (pe_call Ggreat hr (by rfl) ggreat Fgreat.kp bgreat .nil pass0 (pa_cons (pv 1) (pa_cons (pv 2) (pa_cons pe_int (pa_cons pe_bl pa_nil)))))))) (pe_lst (pa_cons (pe_call Ggreat hr (by rfl) ggreat Fgreat.kp bgreat .nil pass0 (pa_cons (pv 1) (pa_cons (pv 2) (pa_cons pe_int (pa_cons pe_bl pa_nil))))) pa_nil))))
      (pss_cons (ps_for PassesOwn.never rfl (pi_list (pv 3)) (pg_name (i := 4) nd rfl (.inl rfl)) (pss_one (ps_for PassesOwn.never rfl (pi_range1 (by rfl) mrange (pa_cons pe_int pa_nil)) (pg_name (i := 5) nd rfl (.inl rfl)) (pss_cons (ps_set (i := 6) nd rfl (.inl rfl) (pe_call Gtold hr (by rfl) gtold Ftold.kp btold .nil pass0 (pa_cons (pv 4) pa_nil)))
      (pss_cons (ps_set (i := 7) nd rfl (.inl rfl) pe_str)
      (pss_cons (ps_if (pt_cmpR op_lt (pe_call Gsize hr (by rfl) gsize Fsize.kp bsize .nil pass0 (pa_cons (pv 4) pa_nil)) pe_int (nomark _)) (pss_one (ps_set (i := 7) nd rfl (.inl rfl) (pe_call Gwrite hr (by rfl) gwrite Fwrite.kp bwrite .nil pass0 (pa_cons (pv 4) pa_nil)))) pss_nil)
      (pss_cons (ps_if (pt_not (pt_val (pe_call Gsame hr (by rfl) gsame Fsame.kp bsame .nil pass0 (pa_cons (pv 6) (pa_cons (pv 7) pa_nil))))) (pss_one (ps_never)) pss_nil)
      (pss_one (ps_if (pt_val (pe_callB call_isi (by rfl) misinstance (by decide +kernel) (pa_cons (pv 6) (pa_cons (pe_bltn (v := .ty "list") (by rfl) mlist (by decide +kernel) rfl) pa_nil)))) (pss_one (ps_expr (pe_bm0 PySem.F.plainAttrs_list PySem.F.slot_list_clear PySem.F.type_list_clear mt_clear (pv 6)))) pss_nil)))))))))
      (pss_one (ps_ret pe_bl))))))), ?_⟩
    refine ⟨_, rfl, a, ns, rfl, hA, hns, fun p c ms H1 e1 hP1 np nc => ?_⟩
    refine ⟨_, rfl, p, c, ms, 4, rfl, by decide, by decide, hP1, fun os ls qs sh H2 hS hs2 kp2 hP2 => ?_⟩
    refine ⟨_, rfl, _, rfl, p, c, sh, ms, os, ls, qs, rfl, hP2, hS, hs2, fun l H3 G3 kp3 hP3 lp => ⟨_, rfl, sh, os, ls, qs, rfl, hS, hs2.keep hP2 kp3, fun l2 H4 nl2 e4 G4 => ?_⟩⟩
    obtain ⟨vs, Ws, hl3, hA3, hm3⟩ := G3
    obtain ⟨us, Us, hl4, hA4, hm4⟩ := G4
    refine ⟨l, l2, _, _, rfl, rfl, e4 _ _ hl3, hl4, sz_of (by omega), fun r nr => ?_⟩
    have e5 : Ex H4 (upd H4 r (.lst (vs ++ us))) := Ex.new nr
    have hA5 : All2 (GAt os ls qs (upd H4 r (.lst (vs ++ us))) 6) (vs ++ us) (Ws ++ Us) := All2.app _ _ _ _ (All2.mono (fun v W g => g.ex (e4.trans e5)) _ _ hA3) (All2.mono (fun v W g => g.ex e5) _ _ hA4)
    have hP4 : Pot p c ms H4 := hP3.ex e4
    have rp := (hP4.ne_new nr).1.symm
    have hP5 := hP4.ex e5
    have hs5 := (hs2.keep hP2 kp3).ex (e4.trans e5)
    have hr5 : (upd H4 r (.lst (vs ++ us))) r = some (.lst (vs ++ us)) := upd_same
    have hlen : (vs ++ us).length ≤ 11 := by rw [List.length_append]; omega
    show tSeq _ _ _ [some (.ref a), some (.ref p), some (.ref sh), some (.ref r), none, none, none, none, none] (upd H4 r (.lst (vs ++ us)))
    generalize upd H4 r (.lst (vs ++ us)) = H5 at e5 hA5 hP5 hs5 hr5
    generalize vs ++ us = xs at hA5 hr5 hlen
    generalize Ws ++ Us = Xs at hA5
    refine ⟨_, rfl, 3, rfl, by decide, by decide, fun D nD => ?_⟩
    have pD := hP5.ne_new nD
    refine lc_range (lo := 0) (n := 3) (fun i H' => ∃ (ps : List V) (Ps : List (List Str)), ps.length = i ∧ H' D = some (.lst ps) ∧ All2 (GAt os ls qs H' 6) ps Ps ∧ Keep p H5 H' ∧ Pot p c ms H') ?_ ?_ ?_
    · exact ⟨[], [], rfl, upd_same, trivial, (Keep.refl p H5).new nD, hP5.new pD.1 pD.2⟩
    · rintro i H' hi ⟨ps, Ps, hl, hD, hA, kp', hP'⟩
      refine ⟨rfl, yesT ⟨_, rfl, _, rfl, p, c, sh, ms, os, ls, qs, 2, false, rfl, by decide, hP', hS, hs5.keep hP5 kp', fun x W H6 hx _ kp6 hP6 => ?_⟩⟩
      have hD6 := kp6 _ _ pD.1.symm hD
      have kt : ∀ b xs, H6 b = some (.tup xs) → (upd H6 D (.lst (ps ++ [x]))) b = some (.tup xs) := keep_lst hD6
      exact ⟨_, hD6, sz_lt (by omega), ps ++ [x], Ps ++ [W], by rw [List.length_append, hl]; rfl, upd_same, All2.snoc (GAt.keep kt _ _ _ (hx.le (by decide))) _ _ (All2.mono (fun v W h => GAt.keep kt _ _ _ (h.kp hP' kp6)) _ _ hA), (kp'.trans kp6).new nD, hP6.new pD.1 pD.2⟩
    · rintro H6 ⟨ps, Ps, hl, hD, hA, kp6, hP6⟩
      have hl3' : ps.length = 3 := hl
      have hr6 : H6 r = some (.lst xs) := kp6 _ _ rp hr5
      refine ⟨r, D, _, _, rfl, rfl, hr6, hD, sz_of (by omega), fun r2 nr2 => ?_⟩
      have e7 : Ex H6 (upd H6 r2 (.lst (xs ++ ps))) := Ex.new nr2
      have pr2 := hP6.ne_new nr2
      refine ⟨_, rfl, _, rfl, p, c, sh, ms, os, ls, qs, 3, true, rfl, by decide, hP6.ex e7, hS, (hs5.keep hP5 kp6).ex e7, fun x W H8 hx _ kp8 hP8 => ⟨by show 1 ≤ sizeLine; decide, fun l3 nl3 => ?_⟩⟩
      have e9 : Ex H8 (upd H8 l3 (.lst [x])) := Ex.new nl3
      have h8 : H8 r2 = some (.lst (xs ++ ps)) := kp8 _ _ pr2.1.symm upd_same
      refine ⟨r2, l3, _, _, rfl, rfl, e9 _ _ h8, upd_same, sz_of (by rw [List.length_append]; show _ + 1 ≤ _; omega), fun r4 nr4 => ?_⟩
      have e10 := e9.trans (Ex.new (o := .lst (xs ++ ps ++ [x])) nr4)
      have hAll : All2 (GAt os ls qs (upd (upd H8 l3 (.lst [x])) r4 (.lst (xs ++ ps ++ [x]))) 6) (xs ++ ps ++ [x]) (Xs ++ Ps ++ [W]) := by
        refine All2.app _ _ _ _ (All2.app _ _ _ _ ?_ ?_) ⟨(hx.le (by decide)).ex e10, trivial⟩
        · exact All2.mono (fun v W g => (((g.kp hP5 kp6).ex e7).kp (hP6.ex e7) kp8).ex e10) _ _ hA5
        · exact All2.mono (fun v W g => ((g.ex e7).kp (hP6.ex e7) kp8).ex e10) _ _ hA
      have hr4 : (upd (upd H8 l3 (.lst [x])) r4 (.lst (xs ++ ps ++ [x]))) r4 = some (.lst (xs ++ ps ++ [x])) := upd_same
      show tSeq _ _ _ [some (.ref a), some (.ref p), some (.ref sh), some (.ref r4), none, none, none, none, none] (upd (upd H8 l3 (.lst [x])) r4 (.lst (xs ++ ps ++ [x])))
      generalize upd (upd H8 l3 (.lst [x])) r4 (.lst (xs ++ ps ++ [x])) = HZ at hAll hr4
      generalize xs ++ ps ++ [x] = gs at hAll hr4
      generalize Xs ++ Ps ++ [W] = Gs at hAll
      clear e10 e9 h8 e7 pr2 hr6 hA hD kp6 hP6 hx kp8 hP8
      refine ⟨_, rfl, r4, rfl, ⟨_, sq_of hr4⟩, for_list (xs := gs) (fun i σ H' => (∃ y4 y5 y6 y7, σ = [some (.ref a), some (.ref p), some (.ref sh), some (.ref r4), y4, y5, y6, y7, none]) ∧ Ex HZ H') ⟨⟨_, _, _, _, rfl⟩, Ex.refl _⟩ (fun i σ H' _ hh => sq_of (hh.2 _ _ hr4)) ?_ ?_⟩
      · rintro i g σ H' hi ⟨⟨y4, y5, y6, y7, rfl⟩, eH⟩
        obtain ⟨W, hW, hg⟩ := All2.at _ _ hAll i g hi
        refine ⟨2, rfl, by decide, by decide, for_range (lo := 0) (n := 2) (fun i σ H' => (∃ y5 y6 y7, σ = [some (.ref a), some (.ref p), some (.ref sh), some (.ref r4), some g, y5, y6, y7, none]) ∧ Ex HZ H') ⟨⟨_, _, _, rfl⟩, eH⟩ ?_ ?_⟩
        · rintro j σ H2 hj ⟨⟨y5, y6, y7, rfl⟩, e2⟩
          refine ⟨_, rfl, os, ls, qs, g, W, rfl, hg.ex e2, by decide, fun h4 r H3 nr e3 hr3 => ?_, fun h4 H3 e3 => ?_⟩
          · have e03 := e2.trans e3
            refine ⟨_, rfl, os, ls, qs, g, W, rfl, hg.ex e03, by decide, fun H4 e4 => ⟨_, _, rfl, rfl, _, rfl, ite2 (fun _ => ?_) (fun h => absurd (decide_eq_true (show (W.length : Int) < 401 by omega)) h)⟩⟩
            have e04 := e03.trans e4
            refine ⟨_, rfl, os, ls, qs, g, W, rfl, hg.ex e04, by decide, h4, fun d H5 nd5 e5 hd5 => ?_⟩
            refine ⟨_, rfl, _, rfl, .inr ⟨r, d, W, rfl, e5 _ _ (e4 _ _ hr3), hd5, by omega, fun H6 e6 => ⟨_, rfl, iteF ?_⟩⟩⟩
            have hr6 : H6 r = some (.lst (W.map V.str)) := e6 _ _ (e5 _ _ (e4 _ _ hr3))
            refine ⟨_, rfl, _, _, _, _, true, rfl, .ty _, .base (.lst hr6), kit_ty (by decide +kernel), _, rfl, iteT ?_⟩
            exact ⟨_, rfl, .inl ⟨rfl, _, sq_of hr6⟩, r, _, rfl, rfl, hr6, ⟨_, _, _, rfl⟩, ((e04.trans e5).trans e6).mut (fresh_back e2 nr)⟩
          · have e03 := e2.trans e3
            refine ⟨_, rfl, os, ls, qs, g, W, rfl, hg.ex e03, by decide, fun H4 e4 => ⟨_, _, rfl, rfl, _, rfl, ite2 (fun h => absurd (of_decide_eq_true h) (show ¬ (W.length : Int) < 401 by omega)) (fun _ => ?_)⟩⟩
            refine ⟨_, rfl, _, rfl, .inl ⟨_, _, rfl, ⟨_, rfl, rfl⟩, fun H6 e6 => ⟨_, rfl, iteF ?_⟩⟩⟩
            exact ⟨_, rfl, _, _, _, _, false, rfl, .ty _, .base (.str _), kit_ty (by decide +kernel), _, rfl, iteF ⟨⟨_, _, _, rfl⟩, (e03.trans e4).trans e6⟩⟩
        · rintro σ H2 ⟨⟨y5, y6, y7, rfl⟩, e2⟩
          exact ⟨⟨_, _, _, _, rfl⟩, e2⟩
      · rintro σ H' ⟨⟨y4, y5, y6, y7, rfl⟩, eH⟩
        exact q _
end
end Eh
set_option Elab.async false
set_option linter.all false
set_option maxRecDepth 100000
set_option maxHeartbeats 4000000
namespace Eh
open PySem PySem.Spec PyProof.Rows L2 Evl NdefX
theorem all_mk {l : PySem.W.OpenLaw} {w : World} {K : PySem.W.Frag} {h : Heap} {mg : Str → Option Value} {fa f0 f1 f2 f3 f4 f5 f6 f7 f8 f9 f10 f11 f12 f13 f14 f15 f16 f17 f18 f19 f20 : Addr} (X : K.In h) (G : h.Ns mainGlobals mg) (hfa : mg "law" = some (.ref fa))
    {od0 an0 : Option Addr} {sl0 : Array (Option Value)} {oc0 kV0 dc0 pm0 cd0 ct0 : Value}
    {od1 an1 : Option Addr} {sl1 : Array (Option Value)} {oc1 kV1 dc1 pm1 cd1 ct1 : Value}
    {od2 an2 : Option Addr} {sl2 : Array (Option Value)} {oc2 kV2 dc2 pm2 cd2 ct2 : Value}
    {od3 an3 : Option Addr} {sl3 : Array (Option Value)} {oc3 kV3 dc3 pm3 cd3 ct3 : Value}
    {od4 an4 : Option Addr} {sl4 : Array (Option Value)} {oc4 kV4 dc4 pm4 cd4 ct4 : Value}
    {od5 an5 : Option Addr} {sl5 : Array (Option Value)} {oc5 kV5 dc5 pm5 cd5 ct5 : Value}
    {od6 an6 : Option Addr} {sl6 : Array (Option Value)} {oc6 kV6 dc6 pm6 cd6 ct6 : Value}
    {od7 an7 : Option Addr} {sl7 : Array (Option Value)} {oc7 kV7 dc7 pm7 cd7 ct7 : Value}
    {od8 an8 : Option Addr} {sl8 : Array (Option Value)} {oc8 kV8 dc8 pm8 cd8 ct8 : Value}
    {od9 an9 : Option Addr} {sl9 : Array (Option Value)} {oc9 kV9 dc9 pm9 cd9 ct9 : Value}
    {od10 an10 : Option Addr} {sl10 : Array (Option Value)} {oc10 kV10 dc10 pm10 cd10 ct10 : Value}
    {od11 an11 : Option Addr} {sl11 : Array (Option Value)} {oc11 kV11 dc11 pm11 cd11 ct11 : Value}
    {od12 an12 : Option Addr} {sl12 : Array (Option Value)} {oc12 kV12 dc12 pm12 cd12 ct12 : Value}
    {od13 an13 : Option Addr} {sl13 : Array (Option Value)} {oc13 kV13 dc13 pm13 cd13 ct13 : Value}
    {od14 an14 : Option Addr} {sl14 : Array (Option Value)} {oc14 kV14 dc14 pm14 cd14 ct14 : Value}
    {od15 an15 : Option Addr} {sl15 : Array (Option Value)} {oc15 kV15 dc15 pm15 cd15 ct15 : Value}
    {od16 an16 : Option Addr} {sl16 : Array (Option Value)} {oc16 kV16 dc16 pm16 cd16 ct16 : Value}
    {od17 an17 : Option Addr} {sl17 : Array (Option Value)} {oc17 kV17 dc17 pm17 cd17 ct17 : Value}
    {od18 an18 : Option Addr} {sl18 : Array (Option Value)} {oc18 kV18 dc18 pm18 cd18 ct18 : Value}
    {od19 an19 : Option Addr} {sl19 : Array (Option Value)} {oc19 kV19 dc19 pm19 cd19 ct19 : Value}
    {od20 an20 : Option Addr} {sl20 : Array (Option Value)} {oc20 kV20 dc20 pm20 cd20 ct20 : Value}
    {CH C0 C1 C2 C3 C4 C5 C6 C7 C8 C9 C10 : Addr}
    {tkW : Tok}
    (a0 : PySem.W.nsIn K mainGlobals "parts_in" = some (some (.ref f0)))
    (l0 : K.lookup f0 = some ⟨oc0, od0, .func (PySem.W.fnOf "parts_in" "parts_in" (defArgs sPartsIn) (defBody sPartsIn) (defScope sPartsIn) .none kV0 dc0 pm0 an0 cd0 ct0), sl0⟩)
    (c0 : PySem.W.codeIn K cd0 "parts_in" = true)
    (k0 : PySem.W.keepIn K (.ref f0) = true)
    (a1 : PySem.W.nsIn K mainGlobals "length_of" = some (some (.ref f1)))
    (l1 : K.lookup f1 = some ⟨oc1, od1, .func (PySem.W.fnOf "length_of" "length_of" (defArgs sLengthOf) (defBody sLengthOf) (defScope sLengthOf) .none kV1 dc1 pm1 an1 cd1 ct1), sl1⟩)
    (c1 : PySem.W.codeIn K cd1 "length_of" = true)
    (k1 : PySem.W.keepIn K (.ref f1) = true)
    (a2 : PySem.W.nsIn K mainGlobals "written" = some (some (.ref f2)))
    (l2 : K.lookup f2 = some ⟨oc2, od2, .func (PySem.W.fnOf "written" "written" (defArgs sWritten) (defBody sWritten) (defScope sWritten) .none kV2 dc2 pm2 an2 cd2 ct2), sl2⟩)
    (c2 : PySem.W.codeIn K cd2 "written" = true)
    (k2 : PySem.W.keepIn K (.ref f2) = true)
    (a3 : PySem.W.nsIn K mainGlobals "letters_of" = some (some (.ref f3)))
    (l3 : K.lookup f3 = some ⟨oc3, od3, .func (PySem.W.fnOf "letters_of" "letters_of" (defArgs sLettersOf) (defBody sLettersOf) (defScope sLettersOf) .none kV3 dc3 pm3 an3 cd3 ct3), sl3⟩)
    (c3 : PySem.W.codeIn K cd3 "letters_of" = true)
    (k3 : PySem.W.keepIn K (.ref f3) = true)
    (a4 : PySem.W.nsIn K mainGlobals "_law_blend" = some (some (.ref f4)))
    (l4 : K.lookup f4 = some ⟨oc4, od4, .func (PySem.W.fnOf "_law_blend" "_law_blend" (defArgs sBlend) (defBody sBlend) (defScope sBlend) .none kV4 dc4 pm4 an4 cd4 ct4), sl4⟩)
    (c4 : PySem.W.codeIn K cd4 "_law_blend" = true)
    (k4 : PySem.W.keepIn K (.ref f4) = true)
    (a5 : PySem.W.nsIn K mainGlobals "_law_pot" = some (some (.ref f5)))
    (l5 : K.lookup f5 = some ⟨oc5, od5, .func (PySem.W.fnOf "_law_pot" "_law_pot" (defArgs sPot) (defBody sPot) (defScope sPot) .none kV5 dc5 pm5 an5 cd5 ct5), sl5⟩)
    (c5 : PySem.W.codeIn K cd5 "_law_pot" = true)
    (k5 : PySem.W.keepIn K (.ref f5) = true)
    (a6 : PySem.W.nsIn K mainGlobals "_law_pick" = some (some (.ref f6)))
    (l6 : K.lookup f6 = some ⟨oc6, od6, .func (PySem.W.fnOf "_law_pick" "_law_pick" (defArgs sPick) (defBody sPick) (defScope sPick) .none kV6 dc6 pm6 an6 cd6 ct6), sl6⟩)
    (c6 : PySem.W.codeIn K cd6 "_law_pick" = true)
    (k6 : PySem.W.keepIn K (.ref f6) = true)
    (a7 : PySem.W.nsIn K mainGlobals "_law_letters" = some (some (.ref f7)))
    (l7 : K.lookup f7 = some ⟨oc7, od7, .func (PySem.W.fnOf "_law_letters" "_law_letters" (defArgs sLetters) (defBody sLetters) (defScope sLetters) .none kV7 dc7 pm7 an7 cd7 ct7), sl7⟩)
    (c7 : PySem.W.codeIn K cd7 "_law_letters" = true)
    (k7 : PySem.W.keepIn K (.ref f7) = true)
    (a8 : PySem.W.nsIn K mainGlobals "_law_sheet" = some (some (.ref f8)))
    (l8 : K.lookup f8 = some ⟨oc8, od8, .func (PySem.W.fnOf "_law_sheet" "_law_sheet" (defArgs sSheet) (defBody sSheet) (defScope sSheet) .none kV8 dc8 pm8 an8 cd8 ct8), sl8⟩)
    (c8 : PySem.W.codeIn K cd8 "_law_sheet" = true)
    (k8 : PySem.W.keepIn K (.ref f8) = true)
    (a9 : PySem.W.nsIn K mainGlobals "_law_shut" = some (some (.ref f9)))
    (l9 : K.lookup f9 = some ⟨oc9, od9, .func (PySem.W.fnOf "_law_shut" "_law_shut" (defArgs sShut) (defBody sShut) (defScope sShut) .none kV9 dc9 pm9 an9 cd9 ct9), sl9⟩)
    (c9 : PySem.W.codeIn K cd9 "_law_shut" = true)
    (k9 : PySem.W.keepIn K (.ref f9) = true)
    (a10 : PySem.W.nsIn K mainGlobals "_law_same" = some (some (.ref f10)))
    (l10 : K.lookup f10 = some ⟨oc10, od10, .func (PySem.W.fnOf "_law_same" "_law_same" (defArgs sSame) (defBody sSame) (defScope sSame) .none kV10 dc10 pm10 an10 cd10 ct10), sl10⟩)
    (c10 : PySem.W.codeIn K cd10 "_law_same" = true)
    (k10 : PySem.W.keepIn K (.ref f10) = true)
    (a11 : PySem.W.nsIn K mainGlobals "_law_kind" = some (some (.ref f11)))
    (l11 : K.lookup f11 = some ⟨oc11, od11, .func (PySem.W.fnOf "_law_kind" "_law_kind" (defArgs sKind) (defBody sKind) (defScope sKind) .none kV11 dc11 pm11 an11 cd11 ct11), sl11⟩)
    (c11 : PySem.W.codeIn K cd11 "_law_kind" = true)
    (k11 : PySem.W.keepIn K (.ref f11) = true)
    (a12 : PySem.W.nsIn K mainGlobals "_law_count" = some (some (.ref f12)))
    (l12 : K.lookup f12 = some ⟨oc12, od12, .func (PySem.W.fnOf "_law_count" "_law_count" (defArgs sLawCount) (defBody sLawCount) (defScope sLawCount) .none kV12 dc12 pm12 an12 cd12 ct12), sl12⟩)
    (c12 : PySem.W.codeIn K cd12 "_law_count" = true)
    (k12 : PySem.W.keepIn K (.ref f12) = true)
    (a13 : PySem.W.nsIn K mainGlobals "_law_great" = some (some (.ref f13)))
    (l13 : K.lookup f13 = some ⟨oc13, od13, .func (PySem.W.fnOf "_law_great" "_law_great" (defArgs sLawGreat) (defBody sLawGreat) (defScope sLawGreat) .none kV13 dc13 pm13 an13 cd13 ct13), sl13⟩)
    (c13 : PySem.W.codeIn K cd13 "_law_great" = true)
    (k13 : PySem.W.keepIn K (.ref f13) = true)
    (a14 : PySem.W.nsIn K mainGlobals "_law_size" = some (some (.ref f14)))
    (l14 : K.lookup f14 = some ⟨oc14, od14, .func (PySem.W.fnOf "_law_size" "_law_size" (defArgs sSize) (defBody sSize) (defScope sSize) .none kV14 dc14 pm14 an14 cd14 ct14), sl14⟩)
    (c14 : PySem.W.codeIn K cd14 "_law_size" = true)
    (k14 : PySem.W.keepIn K (.ref f14) = true)
    (a15 : PySem.W.nsIn K mainGlobals "_law_write" = some (some (.ref f15)))
    (l15 : K.lookup f15 = some ⟨oc15, od15, .func (PySem.W.fnOf "_law_write" "_law_write" (defArgs sLawWrite) (defBody sLawWrite) (defScope sLawWrite) .none kV15 dc15 pm15 an15 cd15 ct15), sl15⟩)
    (c15 : PySem.W.codeIn K cd15 "_law_write" = true)
    (k15 : PySem.W.keepIn K (.ref f15) = true)
    (a16 : PySem.W.nsIn K mainGlobals "_law_named" = some (some (.ref f16)))
    (l16 : K.lookup f16 = some ⟨oc16, od16, .func (PySem.W.fnOf "_law_named" "_law_named" (defArgs sLawNamed) (defBody sLawNamed) (defScope sLawNamed) .none kV16 dc16 pm16 an16 cd16 ct16), sl16⟩)
    (c16 : PySem.W.codeIn K cd16 "_law_named" = true)
    (k16 : PySem.W.keepIn K (.ref f16) = true)
    (a17 : PySem.W.nsIn K mainGlobals "_law_told" = some (some (.ref f17)))
    (l17 : K.lookup f17 = some ⟨oc17, od17, .func (PySem.W.fnOf "_law_told" "_law_told" (defArgs sTold) (defBody sTold) (defScope sTold) .none kV17 dc17 pm17 an17 cd17 ct17), sl17⟩)
    (c17 : PySem.W.codeIn K cd17 "_law_told" = true)
    (k17 : PySem.W.keepIn K (.ref f17) = true)
    (a18 : PySem.W.nsIn K mainGlobals "_law_near_bound" = some (some (.ref f18)))
    (l18 : K.lookup f18 = some ⟨oc18, od18, .func (PySem.W.fnOf "_law_near_bound" "_law_near_bound" (defArgs sLawNearBound) (defBody sLawNearBound) (defScope sLawNearBound) .none kV18 dc18 pm18 an18 cd18 ct18), sl18⟩)
    (c18 : PySem.W.codeIn K cd18 "_law_near_bound" = true)
    (k18 : PySem.W.keepIn K (.ref f18) = true)
    (a19 : PySem.W.nsIn K mainGlobals "_law_of_nothing" = some (some (.ref f19)))
    (l19 : K.lookup f19 = some ⟨oc19, od19, .func (PySem.W.fnOf "_law_of_nothing" "_law_of_nothing" (defArgs sLawOfNothing) (defBody sLawOfNothing) (defScope sLawOfNothing) .none kV19 dc19 pm19 an19 cd19 ct19), sl19⟩)
    (c19 : PySem.W.codeIn K cd19 "_law_of_nothing" = true)
    (k19 : PySem.W.keepIn K (.ref f19) = true)
    (a20 : PySem.W.nsIn K mainGlobals "law" = some (some (.ref f20)))
    (l20 : K.lookup f20 = some ⟨oc20, od20, .func (PySem.W.fnOf "law" "law" (defArgs sLaw) (defBody sLaw) (defScope sLaw) .none kV20 dc20 pm20 an20 cd20 ct20), sl20⟩)
    (c20 : PySem.W.codeIn K cd20 "law" = true)
    (k20 : PySem.W.keepIn K (.ref f20) = true)
    (z0 : PySem.W.nsIn K mainGlobals "len" = some none)
    (z1 : PySem.W.nsIn K mainGlobals "list" = some none)
    (z2 : PySem.W.nsIn K mainGlobals "enumerate" = some none)
    (z3 : PySem.W.nsIn K mainGlobals "range" = some none)
    (z4 : PySem.W.nsIn K mainGlobals "min" = some none)
    (z5 : PySem.W.nsIn K mainGlobals "tuple" = some none)
    (z6 : PySem.W.nsIn K mainGlobals "isinstance" = some none)
    (z7 : PySem.W.nsIn K mainGlobals "int" = some none)
    (z8 : PySem.W.nsIn K mainGlobals "bool" = some none)
    (z9 : PySem.W.nsIn K mainGlobals "str" = some none)
    (z10 : PySem.W.nsIn K mainGlobals "all" = some none)
    (z11 : PySem.W.nsIn K mainGlobals "zip" = some none)
    (z12 : PySem.W.nsIn K mainGlobals "sum" = some none)
    (z13 : PySem.W.nsIn K mainGlobals "ValueError" = some none)
    (aH : PySem.W.nsIn K mainGlobals "HallError" = some (some (.ref CH)))
    (aC0 : PySem.W.nsIn K mainGlobals "NoLetter" = some (some (.ref C0)))
    (aC1 : PySem.W.nsIn K mainGlobals "NotShut" = some (some (.ref C1)))
    (aC2 : PySem.W.nsIn K mainGlobals "TooLong" = some (some (.ref C2)))
    (aC3 : PySem.W.nsIn K mainGlobals "NoChoice" = some (some (.ref C3)))
    (aC4 : PySem.W.nsIn K mainGlobals "NoText" = some (some (.ref C4)))
    (aC5 : PySem.W.nsIn K mainGlobals "NoSheet" = some (some (.ref C5)))
    (aC6 : PySem.W.nsIn K mainGlobals "NoOneWay" = some (some (.ref C6)))
    (aC7 : PySem.W.nsIn K mainGlobals "TooMany" = some (some (.ref C7)))
    (aC8 : PySem.W.nsIn K mainGlobals "NoStep" = some (some (.ref C8)))
    (aC9 : PySem.W.nsIn K mainGlobals "NoName" = some (some (.ref C9)))
    (aC10 : PySem.W.nsIn K mainGlobals "NoRow" = some (some (.ref C10)))
    (ty0 : PySem.W.typeIn K (.ref C0) = some (.type "type"))
    (is0 : PySem.W.isClsIn K C0 = true)
    (ty1 : PySem.W.typeIn K (.ref C1) = some (.type "type"))
    (is1 : PySem.W.isClsIn K C1 = true)
    (ty2 : PySem.W.typeIn K (.ref C2) = some (.type "type"))
    (is2 : PySem.W.isClsIn K C2 = true)
    (ty3 : PySem.W.typeIn K (.ref C3) = some (.type "type"))
    (is3 : PySem.W.isClsIn K C3 = true)
    (ty4 : PySem.W.typeIn K (.ref C4) = some (.type "type"))
    (is4 : PySem.W.isClsIn K C4 = true)
    (ty5 : PySem.W.typeIn K (.ref C5) = some (.type "type"))
    (is5 : PySem.W.isClsIn K C5 = true)
    (ty6 : PySem.W.typeIn K (.ref C6) = some (.type "type"))
    (is6 : PySem.W.isClsIn K C6 = true)
    (ty7 : PySem.W.typeIn K (.ref C7) = some (.type "type"))
    (is7 : PySem.W.isClsIn K C7 = true)
    (ty8 : PySem.W.typeIn K (.ref C8) = some (.type "type"))
    (is8 : PySem.W.isClsIn K C8 = true)
    (ty9 : PySem.W.typeIn K (.ref C9) = some (.type "type"))
    (is9 : PySem.W.isClsIn K C9 = true)
    (ty10 : PySem.W.typeIn K (.ref C10) = some (.type "type"))
    (is10 : PySem.W.isClsIn K C10 = true)
    (tyH : PySem.W.typeIn K (.ref CH) = some (.type "type"))
    (isH : PySem.W.isClsIn K CH = true)
    (exH : PySem.W.subIn K (.ref CH) (.type "BaseException") = some true)
    (hdH : PySem.W.hasDictIn K CH = true)
    (spc : PySem.W.specialIn K (.builtin "object.__class__") "__get__" = some (some (.builtin "getset_descriptor.__get__")))
    (tkc : PySem.W.takesIn K (.builtin "object.__class__") = some true)
    (sb7_0 : PySem.W.subIn K (.ref C7) (.ref C0) = some false)
    (sb7_1 : PySem.W.subIn K (.ref C7) (.ref C1) = some false)
    (sb7_2 : PySem.W.subIn K (.ref C7) (.ref C2) = some false)
    (sb7_3 : PySem.W.subIn K (.ref C7) (.ref C3) = some false)
    (sb7_4 : PySem.W.subIn K (.ref C7) (.ref C4) = some false)
    (sb7_5 : PySem.W.subIn K (.ref C7) (.ref C5) = some false)
    (sb7_6 : PySem.W.subIn K (.ref C7) (.ref C6) = some false)
    (sb7_7 : PySem.W.subIn K (.ref C7) (.ref C7) = some true)
    (sb7_8 : PySem.W.subIn K (.ref C7) (.ref C8) = some false)
    (sb7_9 : PySem.W.subIn K (.ref C7) (.ref C9) = some false)
    (sb7_10 : PySem.W.subIn K (.ref C7) (.ref C10) = some false)
    (sb7_H : PySem.W.subIn K (.ref C7) (.ref CH) = some true)
    (sv7 : PySem.W.subIn K (.ref C7) (.type "ValueError") = some true)
    (ex7 : PySem.W.subIn K (.ref C7) (.type "BaseException") = some true)
    (hd7 : PySem.W.hasDictIn K C7 = true)
    (ga7 : PySem.W.findIn K (.ref C7) "__getattribute__" = some (some (.builtin "BaseException.__getattribute__")))
    (gg7 : PySem.W.findIn K (.ref C7) "__getattr__" = some none)
    (cc7 : PySem.W.findIn K (.ref C7) "__class__" = some (some (.builtin "object.__class__")))
    (mo7 : PySem.W.mroIn K C7 (.type "object") = some true)
    (nP7 : PySem.W.findIn K (.ref C7) "place" = some none)
    (nS7 : PySem.W.findIn K (.ref C7) "size" = some none)
    (xV7 : PySem.W.excIn K C7 [.type "ValueError", .type "Exception", .type "BaseException", .type "object"] "ValueError.__new__" = true)
    (kC7 : PySem.W.keepIn K (.ref C7) = true)
    (aMW : PySem.W.nsIn K mainGlobals "MOST_WRITTEN" = some (some (.int 400 tkW)))
    : ∃ fd : FuncData, (∀ (s : Shared) (v : Value), BindsTo s fd ⟨[v], []⟩ [("script", v)]) ∧ ∀ base : Heap, K.In base → base.Ns mainGlobals mg → FnOk l.prog w K mg base CX0 21 fa fd ["script"] (spLaw K) := by
  have e := hfa.symm.trans (PySem.W.mg_of X G a20)
  cases e
  have F0 := fun_mk (st := sPartsIn) l0 c0 k0
  have g0 := PySem.W.mg_of X G a0
  have b0 := F0.binds (ps := ["great"]) fun _ _ _ _ _ _ us hl => match us, hl with | [_], _ => rfl
  have F1 := fun_mk (st := sLengthOf) l1 c1 k1
  have g1 := PySem.W.mg_of X G a1
  have b1 := F1.binds (ps := ["great"]) fun _ _ _ _ _ _ us hl => match us, hl with | [_], _ => rfl
  have F2 := fun_mk (st := sWritten) l2 c2 k2
  have g2 := PySem.W.mg_of X G a2
  have b2 := F2.binds (ps := ["great"]) fun _ _ _ _ _ _ us hl => match us, hl with | [_], _ => rfl
  have F3 := fun_mk (st := sLettersOf) l3 c3 k3
  have g3 := PySem.W.mg_of X G a3
  have b3 := F3.binds (ps := ["great"]) fun _ _ _ _ _ _ us hl => match us, hl with | [_], _ => rfl
  have F4 := fun_mk (st := sBlend) l4 c4 k4
  have g4 := PySem.W.mg_of X G a4
  have b4 := F4.binds (ps := ["cell", "at"]) fun _ _ _ _ _ _ us hl => match us, hl with | [_, _], _ => rfl
  have F5 := fun_mk (st := sPot) l5 c5 k5
  have g5 := PySem.W.mg_of X G a5
  have b5 := F5.binds (ps := ["script"]) fun _ _ _ _ _ _ us hl => match us, hl with | [_], _ => rfl
  have F6 := fun_mk (st := sPick) l6 c6 k6
  have g6 := PySem.W.mg_of X G a6
  have b6 := F6.binds (ps := ["pot", "many"]) fun _ _ _ _ _ _ us hl => match us, hl with | [_, _], _ => rfl
  have F7 := fun_mk (st := sLetters) l7 c7 k7
  have g7 := PySem.W.mg_of X G a7
  have b7 := F7.binds (ps := ["pot", "many"]) fun _ _ _ _ _ _ us hl => match us, hl with | [_, _], _ => rfl
  have F8 := fun_mk (st := sSheet) l8 c8 k8
  have g8 := PySem.W.mg_of X G a8
  have b8 := F8.binds (ps := ["pot", "most"]) fun _ _ _ _ _ _ us hl => match us, hl with | [_, _], _ => rfl
  have F9 := fun_mk (st := sShut) l9 c9 k9
  have g9 := PySem.W.mg_of X G a9
  have b9 := F9.binds (ps := ["pot", "sheet", "most"]) fun _ _ _ _ _ _ us hl => match us, hl with | [_, _, _], _ => rfl
  have F10 := fun_mk (st := sSame) l10 c10 k10
  have g10 := PySem.W.mg_of X G a10
  have b10 := F10.binds (ps := ["found", "due"]) fun _ _ _ _ _ _ us hl => match us, hl with | [_, _], _ => rfl
  have F11 := fun_mk (st := sKind) l11 c11 k11
  have g11 := PySem.W.mg_of X G a11
  have b11 := F11.binds (ps := ["caught", "kinds", "names"]) fun _ _ _ _ _ _ us hl => match us, hl with | [_, _, _], _ => rfl
  have F12 := fun_mk (st := sLawCount) l12 c12 k12
  have g12 := PySem.W.mg_of X G a12
  have b12 := F12.binds (ps := ["pot", "big"]) fun _ _ _ _ _ _ us hl => match us, hl with | [_, _], _ => rfl
  have F13 := fun_mk (st := sLawGreat) l13 c13 k13
  have g13 := PySem.W.mg_of X G a13
  have b13 := F13.binds (ps := ["pot", "sheet", "deep", "big"]) fun _ _ _ _ _ _ us hl => match us, hl with | [_, _, _, _], _ => rfl
  have F14 := fun_mk (st := sSize) l14 c14 k14
  have g14 := PySem.W.mg_of X G a14
  have b14 := F14.binds (ps := ["great"]) fun _ _ _ _ _ _ us hl => match us, hl with | [_], _ => rfl
  have F15 := fun_mk (st := sLawWrite) l15 c15 k15
  have g15 := PySem.W.mg_of X G a15
  have b15 := F15.binds (ps := ["great"]) fun _ _ _ _ _ _ us hl => match us, hl with | [_], _ => rfl
  have F16 := fun_mk (st := sLawNamed) l16 c16 k16
  have g16 := PySem.W.mg_of X G a16
  have b16 := F16.binds (ps := ["caught"]) fun _ _ _ _ _ _ us hl => match us, hl with | [_], _ => rfl
  have F17 := fun_mk (st := sTold) l17 c17 k17
  have g17 := PySem.W.mg_of X G a17
  have b17 := F17.binds (ps := ["great"]) fun _ _ _ _ _ _ us hl => match us, hl with | [_], _ => rfl
  have F18 := fun_mk (st := sLawNearBound) l18 c18 k18
  have g18 := PySem.W.mg_of X G a18
  have b18 := F18.binds (ps := ["pot", "sheet"]) fun _ _ _ _ _ _ us hl => match us, hl with | [_, _], _ => rfl
  have F19 := fun_mk (st := sLawOfNothing) l19 c19 k19
  have g19 := PySem.W.mg_of X G a19
  have b19 := F19.binds (ps := ["sheet"]) fun _ _ _ _ _ _ us hl => match us, hl with | [_], _ => rfl
  have F20 := fun_mk (st := sLaw) l20 c20 k20
  have g20 := PySem.W.mg_of X G a20
  have b20 := F20.binds (ps := ["script"]) fun _ _ _ _ _ _ us hl => match us, hl with | [_], _ => rfl
  have mlen := PySem.W.mg_none_of X G z0
  have mlist := PySem.W.mg_none_of X G z1
  have menumerate := PySem.W.mg_none_of X G z2
  have mrange := PySem.W.mg_none_of X G z3
  have mmin := PySem.W.mg_none_of X G z4
  have mtuple := PySem.W.mg_none_of X G z5
  have misinstance := PySem.W.mg_none_of X G z6
  have mint := PySem.W.mg_none_of X G z7
  have mbool := PySem.W.mg_none_of X G z8
  have mstr := PySem.W.mg_none_of X G z9
  have mall := PySem.W.mg_none_of X G z10
  have mzip := PySem.W.mg_none_of X G z11
  have msum := PySem.W.mg_none_of X G z12
  have mValueError := PySem.W.mg_none_of X G z13
  have KM : KindM mg CH [C0, C1, C2, C3, C4, C5, C6, C7, C8, C9, C10] := ⟨misinstance, mValueError, PySem.W.mg_of X G aH, PySem.W.mg_of X G aC0, PySem.W.mg_of X G aC1, PySem.W.mg_of X G aC2, PySem.W.mg_of X G aC3, PySem.W.mg_of X G aC4, PySem.W.mg_of X G aC5, PySem.W.mg_of X G aC6, PySem.W.mg_of X G aC7, PySem.W.mg_of X G aC8, PySem.W.mg_of X G aC9, PySem.W.mg_of X G aC10⟩
  have EC7 : ErrC K C7 := ⟨⟨ga7, gg7, ex7, hd7, cc7, spc, tkc, mo7⟩, ⟨ga7, gg7, ex7, hd7⟩⟩
  have KC7 : KindC K CH [C0, C1, C2, C3, C4, C5, C6, C7, C8, C9, C10] 7 := by
    refine ⟨by decide, EC7, fun j hj => ?_, kit_yes tyH isH sb7_H, kit_val sv7, nP7, nS7⟩
    rcases (show j = 0 ∨ j = 1 ∨ j = 2 ∨ j = 3 ∨ j = 4 ∨ j = 5 ∨ j = 6 ∨ j = 7 ∨ j = 8 ∨ j = 9 ∨ j = 10 by omega) with rfl | rfl | rfl | rfl | rfl | rfl | rfl | rfl | rfl | rfl | rfl
    · exact kit_no ty0 is0 sb7_0 sb7_7
    · exact kit_no ty1 is1 sb7_1 sb7_7
    · exact kit_no ty2 is2 sb7_2 sb7_7
    · exact kit_no ty3 is3 sb7_3 sb7_7
    · exact kit_no ty4 is4 sb7_4 sb7_7
    · exact kit_no ty5 is5 sb7_5 sb7_7
    · exact kit_no ty6 is6 sb7_6 sb7_7
    · exact kit_yes ty7 is7 sb7_7
    · exact kit_no ty8 is8 sb7_8 sb7_7
    · exact kit_no ty9 is9 sb7_9 sb7_7
    · exact kit_no ty10 is10 sb7_10 sb7_7
  have XM7 : PySem.W.exmOne K (.ref C7) (.ref CH) = some true := PySem.W.exm_ref exH hdH tyH sb7_H
  refine ⟨PySem.W.fnOf "law" "law" (defArgs sLaw) (defBody sLaw) (defScope sLaw) .none kV20 dc20 pm20 an20 cd20 ct20, fun s v => .of_eq rfl, fun base _ _ => ?_⟩
  have PK : ∀ k, FnOk l.prog w K mg base CX0 (k + 2) _ _ _ spPick := fun k => ok_pick (k := k) F6 F4 b4 g4 mlen
  have PW : ∀ k, FnOk l.prog w K mg base CX0 (k + 2) _ _ _ spPickW := fun k => ok_pickW (k := k) F6 F4 b4 g4 mlen
  have SHU : ∀ k, FnOk l.prog w K mg base CX0 (k + 3) _ _ _ spShut := fun k => ok_shut (k := k + 1) F9 F6 (PK k) b6 g6 mlen mrange
  have CNT : ∀ k, FnOk l.prog w K mg base CX0 (k + 3) _ _ _ spCount := fun k => ok_count (k := k) F12 F6 PK PW b6 g6 mlen
  have GRE : FnOk l.prog w K mg base CX0 20 _ _ _ (spGreat 4) := ok_great F13 b13 g13 F6 PK b6 g6 F9 SHU b9 g9 F12 CNT b12 g12 mint mlen mrange mtuple 4 13
  have SK : SameK mg := ⟨misinstance, mbool, mstr, mint, mtuple, mlist, mlen, mall, mzip⟩
  have SA : FnOk l.prog w K mg base CX0 20 _ _ _ spSameB := fn_or (ok_same F10 SK b10 g10 0 19) (ok_sameL (k := 18) F10 SK b10 g10)
  have LEN : ∀ os ls qs, FnOk l.prog w K mg base CX0 18 _ _ _ (spLen os ls qs 6) := fun os ls qs => ok_lengthOf F1 b1 g1 F0 b0 g0 mlist mlen msum 6 11
  have LTS : ∀ os ls qs, FnOk l.prog w K mg base CX0 18 _ _ _ (spLts os ls qs 6) := fun os ls qs => ok_lettersOf F3 b3 g3 F1 b1 g1 F0 b0 g0 mlen msum mlist 6 10
  have WRI : ∀ os ls qs, FnOk l.prog w K mg base (L2.CX l.prog w) 19 _ _ _ (spWritten os ls qs 6 C7) := fun os ls qs => ok_written (k := 17) F2 F1 (LEN os ls qs) b1 g1 F3 (LTS os ls qs) b3 g3 (PySem.W.mg_of X G aMW) xV7 (PySem.W.mg_of X G aC7) kC7 ex7 ty7
  have KI : FnOk l.prog w K mg base CX0 18 _ _ _ (spKind K) := ok_kind (k := 17) F11 mzip mlen misinstance mValueError
  have NM : FnOk l.prog w K mg base CX0 19 _ _ _ (spNamed K CH [C0, C1, C2, C3, C4, C5, C6, C7, C8, C9, C10]) := ok_named (k := 17) F16 F11 KI b11 g11 KM
  have TL : FnOk l.prog w K mg base CX0 20 _ _ _ (spEx fun os ls qs => spTold os ls qs 6) := fn_ex fun os ls qs => ok_told (k := 18) (cs := [C0, C1, C2, C3, C4, C5, C6, C7, C8, C9, C10]) F17 F2 (WRI os ls qs) b2 g2 F16 NM b16 g16 KM KC7 XM7
  have SI : FnOk l.prog w K mg base CX0 20 _ _ _ (spEx fun os ls qs => spSize os ls qs 6) := fn_ex fun os ls qs => ok_size F14 b14 g14 mlen msum 6 13
  have WR : FnOk l.prog w K mg base CX0 20 _ _ _ (spEx fun os ls qs => spWrite os ls qs 6) := fn_ex fun os ls qs => ok_write F15 b15 g15 F14 b14 g14 mlen msum mlist 6 12
  have NB : FnOk l.prog w K mg base CX0 20 _ _ _ spNear := ok_near (k := 18) F18 F6 (PK 17) b6 g6 mlen
  have NO : FnOk l.prog w K mg base CX0 20 _ _ _ spNoth := ok_nothing (k := 19) F19
  have G1 : FnOk l.prog w K mg base CX0 20 _ _ _ (spPot K) := ok_pot (k := 19) F5 mlist menumerate
  have GL : FnOk l.prog w K mg base CX0 19 _ _ _ spLetters := ok_letters (k := 17) F7 F6 (PK 16) b6 g6 mlen mrange
  have G2 : FnOk l.prog w K mg base CX0 20 _ _ _ spSheet := ok_sheet (k := 17) F8 F6 (PK 16) b6 g6 F7 GL b7 g7 mmin mtuple
  exact ok_law (k := 19) F20 F5 G1 b5 g5 F8 G2 b8 g8 F18 NB b18 g18 F19 NO b19 g19 F13 GRE b13 g13 F17 TL b17 g17 F14 SI b14 g14 F15 WR b15 g15 F10 SA b10 g10 misinstance mlist mrange
end Eh
open PySem PySem.W PyProof.Rows
set_option maxHeartbeats 0 in
theorem PySem.Challenge.cw_echohall_k49_written_holds : PySem.Challenge.rw_echohall_k49_written.Holds := by
  w_on; o_law; k_head; (case hw => w_witness2)
  k_fill
  refine L2.walk_of (l := PySem.Challenge.rw_echohall_k49_written) (n := 63) (k := 21) (x := "script") (CX := fun _ => L2.CX0) (sp := fun w => Eh.spLaw _) rfl (by decide) rfl ⟨rfl, by decide, by decide⟩ (fun w h Y => PySem.W.kIn_of Y) ?F (fun _ _ a ns hl _ hS => ⟨a, ns, rfl, hS, hl, fun _ => rfl⟩) (fun _ _ _ _ _ h => h)
  case F =>
    intro w mg fa h KX G hmg
    refine' Eh.all_mk KX G hmg ?a0 ?l0 ?c0 ?k0 ?a1 ?l1 ?c1 ?k1 ?a2 ?l2 ?c2 ?k2 ?a3 ?l3 ?c3 ?k3 ?a4 ?l4 ?c4 ?k4 ?a5 ?l5 ?c5 ?k5 ?a6 ?l6 ?c6 ?k6 ?a7 ?l7 ?c7 ?k7 ?a8 ?l8 ?c8 ?k8 ?a9 ?l9 ?c9 ?k9 ?a10 ?l10 ?c10 ?k10 ?a11 ?l11 ?c11 ?k11 ?a12 ?l12 ?c12 ?k12 ?a13 ?l13 ?c13 ?k13 ?a14 ?l14 ?c14 ?k14 ?a15 ?l15 ?c15 ?k15 ?a16 ?l16 ?c16 ?k16 ?a17 ?l17 ?c17 ?k17 ?a18 ?l18 ?c18 ?k18 ?a19 ?l19 ?c19 ?k19 ?a20 ?l20 ?c20 ?k20 ?z0 ?z1 ?z2 ?z3 ?z4 ?z5 ?z6 ?z7 ?z8 ?z9 ?z10 ?z11 ?z12 ?z13 ?aH ?aC0 ?aC1 ?aC2 ?aC3 ?aC4 ?aC5 ?aC6 ?aC7 ?aC8 ?aC9 ?aC10 ?ty0 ?is0 ?ty1 ?is1 ?ty2 ?is2 ?ty3 ?is3 ?ty4 ?is4 ?ty5 ?is5 ?ty6 ?is6 ?ty7 ?is7 ?ty8 ?is8 ?ty9 ?is9 ?ty10 ?is10 ?tyH ?isH ?exH ?hdH ?spc ?tkc ?sb7_0 ?sb7_1 ?sb7_2 ?sb7_3 ?sb7_4 ?sb7_5 ?sb7_6 ?sb7_7 ?sb7_8 ?sb7_9 ?sb7_10 ?sb7_H ?sv7 ?ex7 ?hd7 ?ga7 ?gg7 ?cc7 ?mo7 ?nP7 ?nS7 ?xV7 ?kC7 ?aMW
    (case a0 => k_is)
    (case l0 => k_is)
    (case c0 => k_is)
    (case k0 => k_is)
    (case a1 => k_is)
    (case l1 => k_is)
    (case c1 => k_is)
    (case k1 => k_is)
    (case a2 => k_is)
    (case l2 => k_is)
    (case c2 => k_is)
    (case k2 => k_is)
    (case a3 => k_is)
    (case l3 => k_is)
    (case c3 => k_is)
    (case k3 => k_is)
    (case a4 => k_is)
    (case l4 => k_is)
    (case c4 => k_is)
    (case k4 => k_is)
    (case a5 => k_is)
    (case l5 => k_is)
    (case c5 => k_is)
    (case k5 => k_is)
    (case a6 => k_is)
    (case l6 => k_is)
    (case c6 => k_is)
    (case k6 => k_is)
    (case a7 => k_is)
    (case l7 => k_is)
    (case c7 => k_is)
    (case k7 => k_is)
    (case a8 => k_is)
    (case l8 => k_is)
    (case c8 => k_is)
    (case k8 => k_is)
    (case a9 => k_is)
    (case l9 => k_is)
    (case c9 => k_is)
    (case k9 => k_is)
    (case a10 => k_is)
    (case l10 => k_is)
    (case c10 => k_is)
    (case k10 => k_is)
    (case a11 => k_is)
    (case l11 => k_is)
    (case c11 => k_is)
    (case k11 => k_is)
    (case a12 => k_is)
    (case l12 => k_is)
    (case c12 => k_is)
    (case k12 => k_is)
    (case a13 => k_is)
    (case l13 => k_is)
    (case c13 => k_is)
    (case k13 => k_is)
    (case a14 => k_is)
    (case l14 => k_is)
    (case c14 => k_is)
    (case k14 => k_is)
    (case a15 => k_is)
    (case l15 => k_is)
    (case c15 => k_is)
    (case k15 => k_is)
    (case a16 => k_is)
    (case l16 => k_is)
    (case c16 => k_is)
    (case k16 => k_is)
    (case a17 => k_is)
    (case l17 => k_is)
    (case c17 => k_is)
    (case k17 => k_is)
    (case a18 => k_is)
    (case l18 => k_is)
    (case c18 => k_is)
    (case k18 => k_is)
    (case a19 => k_is)
    (case l19 => k_is)
    (case c19 => k_is)
    (case k19 => k_is)
    (case a20 => k_is)
    (case l20 => k_is)
    (case c20 => k_is)
    (case k20 => k_is)
    (case z0 => k_is)
    (case z1 => k_is)
    (case z2 => k_is)
    (case z3 => k_is)
    (case z4 => k_is)
    (case z5 => k_is)
    (case z6 => k_is)
    (case z7 => k_is)
    (case z8 => k_is)
    (case z9 => k_is)
    (case z10 => k_is)
    (case z11 => k_is)
    (case z12 => k_is)
    (case z13 => k_is)
    (case aH => k_is)
    (case aC0 => k_is)
    (case aC1 => k_is)
    (case aC2 => k_is)
    (case aC3 => k_is)
    (case aC4 => k_is)
    (case aC5 => k_is)
    (case aC6 => k_is)
    (case aC7 => k_is)
    (case aC8 => k_is)
    (case aC9 => k_is)
    (case aC10 => k_is)
    (case ty0 => k_is)
    (case is0 => k_is)
    (case ty1 => k_is)
    (case is1 => k_is)
    (case ty2 => k_is)
    (case is2 => k_is)
    (case ty3 => k_is)
    (case is3 => k_is)
    (case ty4 => k_is)
    (case is4 => k_is)
    (case ty5 => k_is)
    (case is5 => k_is)
    (case ty6 => k_is)
    (case is6 => k_is)
    (case ty7 => k_is)
    (case is7 => k_is)
    (case ty8 => k_is)
    (case is8 => k_is)
    (case ty9 => k_is)
    (case is9 => k_is)
    (case ty10 => k_is)
    (case is10 => k_is)
    (case tyH => k_is)
    (case isH => k_is)
    (case exH => k_is)
    (case hdH => k_is)
    (case spc => k_is)
    (case tkc => k_is)
    (case sb7_0 => k_is)
    (case sb7_1 => k_is)
    (case sb7_2 => k_is)
    (case sb7_3 => k_is)
    (case sb7_4 => k_is)
    (case sb7_5 => k_is)
    (case sb7_6 => k_is)
    (case sb7_7 => first | rfl | k_is)
    (case sb7_8 => k_is)
    (case sb7_9 => k_is)
    (case sb7_10 => k_is)
    (case sb7_H => k_is)
    (case sv7 => k_is)
    (case ex7 => k_is)
    (case hd7 => k_is)
    (case ga7 => k_is)
    (case gg7 => k_is)
    (case cc7 => k_is)
    (case mo7 => k_is)
    (case nP7 => k_is)
    (case nS7 => k_is)
    (case xV7 => k_exc)
    (case kC7 => k_is)
    (case aMW => k_is)
