import PyProof.Rows.All
import Wide.All
import OpenK.AllK
import Wide.FinOn
import HandS.ForMost
import HandS.Wide
import HandS.Evl
import HandS.Exc
import HandS.ExcOwn
import HandS.TryOnly
import HandS.WordsExc
import HandS.ExcIs
import HandS.IsInst
import HandS.RaiseMore
import HandS.FStr
import HandS.Zip
import HandS.Wide
import HandS.Walk
import PySem.Challenge.RW_tensorcompiler_k45_machines_and_words
set_option Elab.async false
set_option linter.all false
set_option maxRecDepth 100000
set_option maxHeartbeats 4000000
namespace My
open PySem L2
/-! ### the text -/
def topS (i : Nat) : Stmt := PySem.Challenge.pw_tensorcompiler_k45_machines_and_words.main.body.getD i (.Pass ⟨0, 0, 0, 0⟩)
abbrev sCheck : Stmt := topS 5
abbrev sFits : Stmt := topS 6
abbrev sWB : Stmt := topS 7
abbrev sBegin : Stmt := topS 9
abbrev sTake : Stmt := topS 10
abbrev sTold : Stmt := topS 11
abbrev sLaw : Stmt := topS 12
structure Calls (P : Program) (w : World) (K : PySem.W.Frag) (mg : Str → Option Value) (base : Heap) (CX : CXT) (k : Nat) (name : Str) (ps : List Str) (sp : Sp) : Prop where
  ex : ∃ (f : Addr) (fd : FuncData), FnOk P w K mg base CX k f fd ps sp ∧ PySem.W.keepIn K (.ref f) = true ∧ Binds K fd ps [] ∧ mg name = some (.ref f)
/-! ### own errors -/
abbrev valErr : List Value := [.type "ValueError", .type "Exception", .type "BaseException", .type "object"]
/-- what the written part says of an error class that is raised -/
structure ErrR (K : PySem.W.Frag) (mg : Str → Option Value) (n : Str) (C : Addr) : Prop where
  g : mg n = some (.ref C)
  x : PySem.W.excIn K C valErr "ValueError.__new__" = true
  k : PySem.W.keepIn K (.ref C) = true
  b : PySem.W.subIn K (.ref C) (.type "BaseException") = some true
  t : PySem.W.typeIn K (.ref C) = some (.type "type")
/-- of one that an except clause names -/
structure ErrN (K : PySem.W.Frag) (mg : Str → Option Value) (n : Str) (C : Addr) : Prop where
  g : mg n = some (.ref C)
  b : PySem.W.subIn K (.ref C) (.type "BaseException") = some true
  h : PySem.W.hasDictIn K C = true
  t : PySem.W.typeIn K (.ref C) = some (.type "type")
theorem ErrN.ex {K : PySem.W.Frag} {mg : Str → Option Value} {n : Str} {C : Addr} (e : ErrN K mg n C) {cls : Value} {r : Bool} (s : PySem.W.subIn K cls (.ref C) = some r) : PySem.W.exmOne K cls (.ref C) = some r := PySem.W.exm_ref e.b e.h e.t s
theorem pss_if {X : Cx} {sts : List Stmt} {t : TS} {P : Prop} (h : P → PSs X sts t) : PSs X sts (fun D σ H => P ∧ t D σ H) := ⟨fun pins s σ H D I hh => (h hh.1).run pins s σ H D I hh.2⟩
theorem kit_rr {K : PySem.W.Frag} {Z C : Addr} {r : Bool} (s : PySem.W.subIn K (.ref Z) (.ref C) = some r) (z : PySem.W.subIn K (.ref Z) (.ref Z) = some true) (h : PySem.W.hasDictIn K C = true) (t : PySem.W.typeIn K (.ref C) = some (.type "type")) : PySem.W.kitOne K (.ref Z) (.ref C) = some r := by
  have hc : (PySem.W.clsIn K C).isSome = true := by
    unfold PySem.W.hasDictIn at h
    cases e : PySem.W.clsIn K C with
    | none => rw [e] at h; cases h
    | some _ => rfl
  have e2 : ((PySem.W.clsIn K C).isSome && PySem.W.typeIn K (.ref C) == some (.type "type")) = true := by rw [hc, t] <;> rfl
  show (if (Value.ref Z == Value.ref C) = true then some true else (if ((PySem.W.clsIn K C).isSome && PySem.W.typeIn K (.ref C) == some (.type "type")) = true then PySem.W.subIn K (.ref Z) (.ref C) else none)) = some r
  by_cases g : (Value.ref Z == Value.ref C) = true
  · rw [if_pos g]
    have e : Value.ref Z = Value.ref C := beq_iff_eq.mp g
    rw [← e, z] at s
    exact s
  · rw [if_neg g, if_pos e2]
    exact s
theorem kit_rt {K : PySem.W.Frag} {Z : Addr} {T : String} {r : Bool} (s : PySem.W.subIn K (.ref Z) (.type T) = some r) (m : PySem.W.kitMeta T = true) : PySem.W.kitOne K (.ref Z) (.type T) = some r := by
  have g : (Value.ref Z == Value.type T) = false := rfl
  show (if (Value.ref Z == Value.type T) = true then some true else (if PySem.W.kitMeta T = true then PySem.W.subIn K (.ref Z) (.type T) else none)) = some r
  rw [g, if_neg Bool.false_ne_true, if_pos m]
  exact s
/-- the suite of an except clause, by what is known when it is reached -/
def tSu (X : Cx) (sts : List Stmt) : Addr → Value → Option Addr → TS := fun a cls d D σ H => ∀ (oe : Obj) (pn : List (Addr × Obj)), Zc cls d oe → (∃ vs, oe.data = .fields vs) → ∃ t, PSs (X.suite a ((a, oe) :: pn)) sts t ∧ t D σ H
theorem su_ok {X : Cx} {sts : List Stmt} {a : Addr} {cls : Value} {d : Option Addr} {oe : Obj} {pn : List (Addr × Obj)} (hz : Zc cls d oe) (hf : ∃ vs, oe.data = .fields vs) : PSs (X.suite a ((a, oe) :: pn)) sts (tSu X sts a cls d) :=
  ⟨fun pins s σ H D I h => by
    obtain ⟨t, p, q⟩ := h oe pn hz hf
    exact p.run pins s σ H D I q⟩
/-! ### drawing -/
/-- all but one place stands as it was -/
def But (d : Addr) (H H' : Hp) : Prop := ∀ b, b ≠ d → H' b = H b
theorem But.refl (d : Addr) (H : Hp) : But d H H := fun _ _ => rfl
theorem But.trans {d : Addr} {H H1 H2 : Hp} (a : But d H H1) (b : But d H1 H2) : But d H H2 := fun c h => (b c h).trans (a c h)
theorem But.upd {d : Addr} {H : Hp} {o : HO} : But d H (upd H d o) := fun _ h => upd_ne h
/-- the drawing state -/
def DrAt (H : Hp) (d c : Addr) : Prop := ∃ (ns : List Int) (i : Nat) (r s : Int), c ≠ d ∧ H d = some (.lst [.ref c, .int i, .int r, .int s]) ∧ H c = some (.lst (ns.map V.int)) ∧ i ≤ ns.length ∧ 0 ≤ r ∧ 0 ≤ s ∧ s < 2147483647
theorem DrAt.same {H H' : Hp} {d c : Addr} (h : DrAt H d c) (s : Same H H') : DrAt H' d c := by
  obtain ⟨ns, i, r, sd, n, h1, h2, h3⟩ := h
  exact ⟨ns, i, r, sd, n, s _ _ h1, s _ _ h2, h3⟩
theorem DrAt.lst {H : Hp} {d c : Addr} (h : DrAt H d c) : ∃ xs, H d = some (.lst xs) := by
  obtain ⟨ns, i, r, sd, n, h1, _⟩ := h
  exact ⟨_, h1⟩
theorem DrAt.lstc {H : Hp} {d c : Addr} (h : DrAt H d c) : ∃ xs, H c = some (.lst xs) := by
  obtain ⟨ns, i, r, sd, n, _, h1, _⟩ := h
  exact ⟨_, h1⟩
/-- another list may be changed -/
theorem DrAt.upd {H : Hp} {d c p : Addr} (h : DrAt H d c) (o : HO) (nd : p ≠ d) (nc : p ≠ c) : DrAt (upd H p o) d c := by
  obtain ⟨ns, i, r, sd, n, h1, h2, h3⟩ := h
  exact ⟨ns, i, r, sd, n, by rw [upd_ne nd.symm]; exact h1, by rw [upd_ne nc.symm]; exact h2, h3⟩
/-- what is no list is kept by a draw -/
theorem But.tup {d c b : Addr} {H H' : Hp} {xs : List V} (k : But d H H') (h : DrAt H d c) (hb : H b = some (.tup xs)) : H' b = some (.tup xs) := by
  obtain ⟨ys, hd⟩ := h.lst
  rw [k b (ne_of hb hd (fun z => nomatch z))]
  exact hb
def Bnd (m : Int) : Prop := m < 2 ^ 400
structure TxtD (mg : Str → Option Value) : Prop where
  int : mg "int" = none
  abs : mg "abs" = none
  len : mg "len" = none
  list : mg "list" = none
section
variable {P : Program} {w : World} {K : PySem.W.Frag} {mg : Str → Option Value} {base : Heap}
def spBegin (K : PySem.W.Frag) : Sp := fun vs H Q _ => ∃ (a : Addr) (ns : List Int), vs = [.ref a] ∧ SqL K H a (ns.map V.int) ∧ ns.length ≤ 63 ∧
  ∀ H' d c, Same H H' → H d = none → H c = none → DrAt H' d c → Q (.ref d) H'
theorem scB : FnScope ["script", "seed", "cell"] ["script"] (defScope sBegin) := ⟨rfl, rfl, rfl, by decide +kernel, rfl, by decide +kernel, by decide +kernel⟩
theorem ok_begin {f : Addr} {fd : FuncData} (F : Fun K "_law_begin" "_law_begin" sBegin f fd) (T : TxtD mg) : FnOk P w K mg base CX0 1 f fd ["script"] (spBegin K) := by
  refine F.ok scB (fun vs H Q E h => ?_) (fun cdv A outer s H vs Q E hr h => ?_)
  · obtain ⟨a, ns, rfl, _⟩ := h
    rfl
  · obtain ⟨a, ns, rfl, hS, hlen, q⟩ := h
    refine ⟨_, pss_cons (ps_set (i := 1) scB.nd rfl (.inl rfl) pe_int)
      (pss_cons (ps_for PassesOwn.never rfl (pi_list (pv 0)) (pg_name (i := 2) scB.nd rfl (.inl rfl))
        (pss_one (ps_set (i := 1) scB.nd rfl (.inl rfl)
          (pe_op op_mod (pe_op op_add (pe_op op_add (pe_op op_mul (pv 1) pe_int) (pe_op op_mod (pe_callTy call_int1 (by rfl) T.int (by decide +kernel) (pa_cons (pv 2) pa_nil)) pe_int)) pe_int) pe_int))))
      (pss_one (ps_ret (pe_lst (pa_cons (pe_callTy call_list_of (by rfl) T.list (by decide +kernel) (pa_cons (pv 0) pa_nil)) (pa_cons pe_int (pa_cons pe_int (pa_cons (pv 1) pa_nil)))))))), ?_⟩
    refine ⟨_, rfl, a, rfl, ⟨_, hS⟩, for_list (K := K) (a := a) (xs := ns.map V.int) (fun i σ H' => ∃ (z : Int) (v : Option V), σ = [some (.ref a), some (.int z), v] ∧ H' = H ∧ 0 ≤ z ∧ z < 2147483647)
      ⟨1, none, rfl, rfl, by decide, by decide⟩ (fun i σ H' _ ⟨_, _, _, e, _⟩ => by rw [e]; exact hS) ?_ ?_⟩
    · rintro i x σ H' hi ⟨z, v, rfl, rfl, h0, h1⟩
      obtain ⟨u, rfl⟩ : ∃ u, x = V.int u := by
        rw [List.getElem?_map] at hi
        cases e : ns[i]? with
        | none => rw [e] at hi; cases hi
        | some u => rw [e] at hi; exact ⟨u, (Option.some.inj hi).symm⟩
      refine ⟨_, rfl, _, _, rfl, rfl, .inl ⟨by omega, by omega⟩, _, rfl, .inl ⟨_, rfl, _, _, rfl, rfl, (by show (0 : Int) < 2147483629; decide), _, _, rfl, rfl, _, _, rfl, rfl, _, _, rfl, rfl, (by show (0 : Int) < 2147483647; decide), ?_⟩⟩
      exact ⟨_, _, rfl, rfl, Int.emod_nonneg _ (by decide), Int.emod_lt_of_pos _ (by decide)⟩
    · rintro σ H' ⟨z, v, rfl, rfl, h0, h1⟩
      refine ⟨_, rfl, a, _, rfl, .inl hS, fun c nc => ⟨_, rfl, by show 4 ≤ sizeLine; decide, fun d nd => ?_⟩⟩
      have ndc : d ≠ c := fun e => by
        rw [e, upd_same] at nd
        cases nd
      have nd0 : H' d = none := by
        rw [upd_ne ndc] at nd
        exact nd
      refine q _ d c (fun b o e => ?_) nd0 nc ⟨ns, 0, 0, z, ndc.symm, upd_same, ?_, Nat.zero_le _, by decide, h0, h1⟩
      · rw [upd_ne (ne_of_none e nd0), upd_ne (ne_of_none e nc)]
        exact e
      · rw [upd_ne ndc.symm, upd_same]
def spTake : Sp := fun vs H Q _ => ∃ (d c : Addr) (m : Int), vs = [.ref d, .int m] ∧ DrAt H d c ∧ 0 < m ∧ Bnd m ∧
  ∀ H' v, But d H H' → DrAt H' d c → 0 ≤ v → v < m → Q (.int v) H'
theorem scT : FnScope ["d", "many", "small", "digit"] ["d", "many"] (defScope sTake) := ⟨rfl, rfl, rfl, by decide +kernel, rfl, by decide +kernel, by decide +kernel⟩
theorem at0 {a b c e : V} : atI [a, b, c, e] (0 : Int) = some a := rfl
theorem at1 {a b c e : V} : atI [a, b, c, e] (1 : Int) = some b := rfl
theorem at2 {a b c e : V} : atI [a, b, c, e] (2 : Int) = some c := rfl
theorem at3 {a b c e : V} : atI [a, b, c, e] (3 : Int) = some e := rfl
theorem bnd_nat {m : Int} (h0 : 0 < m) (h : Bnd m) : m.natAbs < 2 ^ 400 := by
  have e : ((2 ^ 400 : Nat) : Int) = 2 ^ 400 := by decide +kernel
  unfold Bnd at h
  generalize (2 ^ 400 : Nat) = B at *
  omega
theorem bndW {r m : Int} (h0 : 0 < m) (h : Bnd m) : CDivW r m := wide_div (b := 400) h0 (bnd_nat h0 h) (by decide) (by decide)
theorem ok_take {f : Addr} {fd : FuncData} (F : Fun K "_law_take" "_law_take" sTake f fd) (T : TxtD mg) : FnOk P w K mg base CX0 1 f fd ["d", "many"] spTake := by
  refine F.ok scT (fun vs H Q E h => ?_) (fun cdv A outer s H vs Q E hr h => ?_)
  · obtain ⟨d, c, m, rfl, _⟩ := h
    rfl
  · obtain ⟨d, c, m, rfl, ⟨ns, i, r, sd, ncd, hd, hc, hi, hr0, hs0, hs1⟩, hm, hb, q⟩ := h
    refine ⟨_, Evl.pss_cut (ps_if (PW.pt (pw_and (pt_cmpR op_eq (pe_ix ix_list (pv 0) pe_int (fun _ _ => rfl)) pe_int (nomark _))
        (pw_and1 (pt_cmpR op_lt (pe_ix ix_list (pv 0) pe_int (fun _ _ => rfl)) (pe_callB call_len_seq (by rfl) T.len PySem.boot_len (pa_cons (pe_ix ix_list (pv 0) pe_int (fun _ _ => rfl)) pa_nil)) (nomark _)))))
        (pss_cons (ps_asg (pe_callB call_abs (by rfl) T.abs (by decide +kernel) (pa_cons (pe_callTy call_int1 (by rfl) T.int (by decide +kernel) (pa_cons (pe_ix ix_list (pe_ix ix_list (pv 0) pe_int (fun _ _ => rfl)) (pe_ix ix_list (pv 0) pe_int (fun _ _ => rfl)) (fun _ _ => rfl)) pa_nil)) pa_nil)) (pg_sub (pv 0) pe_int set_list))
        (pss_cons (ps_asg (pe_op op_add (pe_ix ix_list (pv 0) pe_int (fun _ _ => rfl)) pe_int) (pg_sub (pv 0) pe_int set_list))
        (pss_one (ps_if (pt_cmpR op_lt (pe_ix ix_list (pv 0) pe_int (fun _ _ => rfl)) (pe_op op_pow pe_int pe_int) (nomark _))
          (pss_cons (ps_set (i := 2) scT.nd rfl (.inl rfl) (pe_callTy call_int1 (by rfl) T.int (by decide +kernel) (pa_cons (pe_ix ix_list (pv 0) pe_int (fun _ _ => rfl)) pa_nil)))
          (pss_cons (ps_asg pe_int (pg_sub (pv 0) pe_int set_list))
          (pss_one (ps_ret (pe_op op_mod (pv 2) (pv 1))))))
          pss_nil))))
        pss_nil)
      (pss_cons (ps_if (pt_cmpR op_gt (pe_ix ix_list (pv 0) pe_int (fun _ _ => rfl)) pe_int (nomark _))
        (pss_cons (ps_set (i := 3) scT.nd rfl (.inl rfl) (pe_op op_mod (pe_callTy call_int1 (by rfl) T.int (by decide +kernel) (pa_cons (pe_ix ix_list (pv 0) pe_int (fun _ _ => rfl)) pa_nil)) (pv 1)))
        (pss_cons (ps_asg (pe_op op_fdivW (pe_callTy call_int1 (by rfl) T.int (by decide +kernel) (pa_cons (pe_ix ix_list (pv 0) pe_int (fun _ _ => rfl)) pa_nil)) (pv 1)) (pg_sub (pv 0) pe_int set_list))
        (pss_one (ps_ret (pv 3)))))
        pss_nil)
      (pss_cons (ps_asg (pe_op op_mod (pe_callTy call_int1 (by rfl) T.int (by decide +kernel) (pa_cons (pe_op op_add (pe_op op_mul (pe_ix ix_list (pv 0) pe_int (fun _ _ => rfl)) pe_int) pe_int) pa_nil)) pe_int) (pg_sub (pv 0) pe_int set_list))
      (pss_one (ps_ret (pe_op op_mod (pe_callTy call_int1 (by rfl) T.int (by decide +kernel) (pa_cons (pe_op op_fdiv (pe_ix ix_list (pv 0) pe_int (fun _ _ => rfl)) pe_int) pa_nil)) (pv 1)))))), ?_⟩
    refine ⟨fun σ' H' => ∃ (i r sd : Int) (x2 : Option V) (i' : Nat), σ' = [some (.ref d), some (.int m), x2, none] ∧ H' = upd H d (.lst [.ref c, .int i, .int r, .int sd]) ∧ i = i' ∧ i' ≤ ns.length ∧ 0 ≤ r ∧ 0 ≤ sd ∧ sd < 2147483647, ?_, ?_⟩
    · have same : H = upd H d (.lst [.ref c, .int i, .int r, .int sd]) := by
        funext b
        by_cases e : b = d
        · rw [e, upd_same, hd]
        · rw [upd_ne e]
      refine ⟨_, rfl, d, _, 2, _, rfl, rfl, SqL.of hd, at2, rfl, _, rfl, ite2 (fun e => ?_) (fun e => ?_)⟩
      · refine ⟨_, rfl, d, _, 1, _, rfl, rfl, SqL.of hd, at1, _, rfl, d, _, 0, _, rfl, rfl, SqL.of hd, at0, c, _, rfl, .inl (SqL.of hc), _, _, rfl, rfl, _, rfl, ite2 (fun e2 => ?_) (fun e2 => ?_)⟩
        · have hlt : i < ns.length := by
            have := of_decide_eq_true e2
            rw [List.length_map] at this
            omega
          have hx : (ns.map V.int)[i]? = some (.int ns[i]) := by
            rw [List.getElem?_map, List.getElem?_eq_getElem hlt]
            rfl
          generalize ns[i] = x at hx
          have hcd : ∀ o, (upd H d o) c = some (.lst (ns.map V.int)) := fun o => by rw [upd_ne ncd]; exact hc
          have habs : 0 ≤ (if x < 0 then -x else x) := by split <;> omega
          -- d[2] = abs(int(d[0][d[1]]))
          refine ⟨_, rfl, d, _, 0, _, rfl, rfl, SqL.of hd, at0, _, rfl, d, _, 1, _, rfl, rfl, SqL.of hd, at1, c, _, _, _, rfl, rfl, SqL.of hc, atI_nat hx, .inl ⟨x, rfl, x, rfl, _, rfl, d, _, 2, 2, rfl, rfl, hd, rfl, ?_⟩⟩
          generalize (if x < 0 then -x else x) = y at habs
          -- d[1] = d[1] + 1
          refine ⟨_, rfl, d, _, 1, _, rfl, rfl, SqL.of upd_same, at1, _, _, rfl, rfl, _, rfl, d, _, 1, 1, rfl, rfl, upd_same, rfl, ?_⟩
          rw [upd_upd]
          -- if d[2] < 10 ** 18
          refine ⟨_, rfl, d, _, 2, _, rfl, rfl, SqL.of upd_same, at2, 10, 18, rfl, rfl, ⟨by decide, by decide, by decide⟩, _, _, rfl, rfl, _, rfl, ite2 (fun e3 => ?_) (fun e3 => ?_)⟩
          · refine ⟨_, rfl, d, _, 2, _, rfl, rfl, SqL.of upd_same, at2, .inl ⟨_, rfl, _, rfl, d, _, 2, 2, rfl, rfl, upd_same, rfl, ?_⟩⟩
            rw [upd_upd]
            refine ⟨_, rfl, _, rfl, _, _, rfl, rfl, hm, ?_⟩
            exact q _ _ But.upd ⟨ns, i + 1, 0, sd, ncd, upd_same, hcd _, hlt, by decide, hs0, hs1⟩ (Int.emod_nonneg _ (by omega)) (Int.emod_lt_of_pos _ hm)
          · exact ⟨_, _, _, _, i + 1, rfl, rfl, rfl, hlt, habs, hs0, hs1⟩
        · exact ⟨_, _, _, _, i, rfl, same, rfl, hi, hr0, hs0, hs1⟩
      · exact iteF ⟨_, _, _, _, i, rfl, same, rfl, hi, hr0, hs0, hs1⟩
    · clear hd hi hr0 hs0 hs1
      rintro σ' H' ⟨i, r, sd, x2, i', rfl, rfl, rfl, hi, hr0, hs0, hs1⟩
      have hcd : ∀ o, (upd H d o) c = some (.lst (ns.map V.int)) := fun o => by rw [upd_ne ncd]; exact hc
      refine ⟨_, rfl, d, _, 2, _, rfl, rfl, SqL.of upd_same, at2, _, _, rfl, rfl, _, rfl, ite2 (fun e => ?_) (fun e => ?_)⟩
      · refine ⟨_, rfl, d, _, 2, _, rfl, rfl, SqL.of upd_same, at2, .inl ⟨_, rfl, _, rfl, _, _, rfl, rfl, hm, ?_⟩⟩
        refine ⟨_, rfl, d, _, 2, _, rfl, rfl, SqL.of upd_same, at2, .inl ⟨_, rfl, _, rfl, _, _, rfl, rfl, bndW hm hb, _, rfl, d, _, 2, 2, rfl, rfl, upd_same, rfl, ?_⟩⟩
        rw [upd_upd]
        refine ⟨_, rfl, ?_⟩
        exact q _ _ But.upd ⟨ns, i', _, sd, ncd, upd_same, hcd _, hi, Int.ediv_nonneg hr0 (by omega), hs0, hs1⟩ (Int.emod_nonneg _ (by omega)) (Int.emod_lt_of_pos _ hm)
      · refine ⟨_, rfl, d, _, 3, _, rfl, rfl, SqL.of upd_same, at3, _, _, rfl, rfl, .inl ⟨by omega, by omega⟩, _, _, rfl, rfl, .inl ⟨_, rfl, _, _, rfl, rfl, (by show (0 : Int) < 2147483647; decide), _, rfl, d, _, 3, 3, rfl, rfl, upd_same, rfl, ?_⟩⟩
        rw [upd_upd]
        refine ⟨_, rfl, d, _, 3, _, rfl, rfl, SqL.of upd_same, at3, _, _, rfl, rfl, ⟨by decide, by decide⟩, .inl ⟨_, rfl, _, rfl, _, _, rfl, rfl, hm, ?_⟩⟩
        exact q _ _ But.upd ⟨ns, i', r, _, ncd, upd_same, hcd _, hi, hr0, Int.emod_nonneg _ (by decide), Int.emod_lt_of_pos _ (by decide)⟩ (Int.emod_nonneg _ (by omega)) (Int.emod_lt_of_pos _ hm)
end
/-! ### small facts -/
theorem same_upd {H : Hp} {p : Addr} {o : HO} (h : H p = none) : Same H (upd H p o) := fun b x e => by
  rw [upd_ne (ne_of_none e h)]
  exact e
theorem sqT_same {K : PySem.W.Frag} {H H' : Hp} {a : Addr} {xs : List V} (h : SqT K H a xs) (s : Same H H') : SqT K H' a xs := by
  rcases h with (h | ⟨o, h⟩) | h
  · exact .inl (.inl (s _ _ h))
  · exact .inl (.inr ⟨o, s _ _ h⟩)
  · exact .inr h
theorem sqL_same {K : PySem.W.Frag} {H H' : Hp} {a : Addr} {xs : List V} (h : SqL K H a xs) (s : Same H H') : SqL K H' a xs := by
  rcases h with (h | ⟨o, h⟩) | h
  · exact .inl (.inl (s _ _ h))
  · exact .inl (.inr ⟨o, s _ _ h⟩)
  · exact .inr h
theorem map_int_at {ns : List Int} {i : Nat} {x : V} (h : (ns.map V.int)[i]? = some x) : ∃ n, x = .int n ∧ ns[i]? = some n := by
  rw [List.getElem?_map] at h
  cases e : ns[i]? with
  | none => rw [e] at h; cases h
  | some n => rw [e] at h; exact ⟨n, (Option.some.inj h).symm, rfl⟩
theorem map_ref_at {ns : List Addr} {i : Nat} {x : V} (h : (ns.map V.ref)[i]? = some x) : ∃ n, x = .ref n ∧ ns[i]? = some n := by
  rw [List.getElem?_map] at h
  cases e : ns[i]? with
  | none => rw [e] at h; cases h
  | some n => rw [e] at h; exact ⟨n, (Option.some.inj h).symm, rfl⟩
theorem drop_at {α : Type} {l : List α} {i : Nat} {x : α} (h : l[i]? = some x) : l.drop i = x :: l.drop (i + 1) := by
  obtain ⟨hi, e⟩ := List.getElem?_eq_some_iff.mp h
  rw [List.drop_eq_getElem_cons hi, e]
theorem take_snoc {α : Type} {l : List α} {i : Nat} {x : α} (h : l[i]? = some x) : l.take (i + 1) = l.take i ++ [x] := by
  rw [List.take_add_one, h]
  rfl
theorem txt_len (a b : Str) : (a ++ b).length = a.length + b.length := PySem.Str.length_append a b
theorem bnd_le {m : Int} (h : m ≤ 1000000) : Bnd m := by
  unfold Bnd
  have : (1000000 : Int) < 2 ^ 400 := by decide +kernel
  omega
theorem keepD {d b : Addr} {H H' : Hp} {o : HO} (k : But d H H') (h : b ≠ d) (hb : H b = some o) : H' b = some o := by rw [k b h]; exact hb
theorem atI_zero {α : Type} {x : α} {xs : List α} : atI (x :: xs) (0 : Int) = some x := by
  show ((if (0 : Int) ≤ 0 then (if (0 : Int) < ((x :: xs).length : Int) then some (Int.toNat 0) else none) else _).bind _) = _
  rw [if_pos (Int.le_refl 0), if_pos (by rw [List.length_cons]; omega)]
  rfl
section
variable {P : Program} {w : World} {K : PySem.W.Frag} {mg : Str → Option Value} {base : Heap}
def rows : List (Str × Int × Int) := [("width", 32, 256), ("main", 1, 16384), ("near", 16, 4096), ("queues", 1, 4), ("lanes", 1, 16)]
theorem rows_ok : ∀ r ∈ rows, r.1.length ≤ 6 ∧ (toString r.2.1 : Str).length ≤ 6 ∧ (toString r.2.2 : Str).length ≤ 6 ∧ r.2.1.natAbs.log2 < 1920 ∧ r.2.2.natAbs.log2 < 1920 := by decide +kernel
def okM : List Int → List (Str × Int × Int) → Bool
  | m :: ms, r :: rs => decide (r.2.1 ≤ m) && decide (m ≤ r.2.2) && okM ms rs
  | _, _ => true
structure TxtM (K : PySem.W.Frag) (mg : Str → Option Value) (aB : Addr) (bs : List Addr) (Z : Addr) : Prop where
  r : ErrR K mg "MachineError" Z
  z : mg "zip" = none
  g : mg "_BOUNDS" = some (.ref aB)
  t : ∀ H, SqT K H aB (bs.map V.ref)
  l : bs.length = 5
  e : ∀ (i : Nat) b r, bs[i]? = some b → rows[i]? = some r → ∀ H, SqT K H b [.str r.1, .int r.2.1, .int r.2.2]
def spCheck (K : PySem.W.Frag) (Z : Addr) : Sp := fun vs H Q E => ∃ (a : Addr) (ms : List Int), vs = [.ref a] ∧ H a = some (.tup (ms.map V.int)) ∧ ms.length = 5 ∧
  ∀ H', Same H H' → (okM ms rows = true → Q .non H') ∧ (okM ms rows = false → E (.ref Z) none H')
abbrev nC : List Str := ["machine", "n", "name", "low", "high"]
theorem scC : FnScope nC ["machine"] (defScope sCheck) := ⟨rfl, rfl, rfl, by decide +kernel, rfl, by decide +kernel, by decide +kernel⟩
theorem ok_check {f aB Z : Addr} {bs : List Addr} {fd : FuncData} (F : Fun K "check_machine" "check_machine" sCheck f fd) (R : TxtM K mg aB bs Z) :
    FnOk P w K mg base (L2.CX P w) 1 f fd ["machine"] (spCheck K Z) := by
  refine F.okX scC (fun vs H Q E h => ?_) (fun cdv A outer s H vs Q E hr h => ?_)
  · obtain ⟨a, ms, rfl, _⟩ := h
    rfl
  · obtain ⟨a, ms, rfl, ha, hl, q⟩ := h
    refine ⟨_, (pss_one (ps_for (passes_of rfl) rfl (RZ.pi_zipA (by rfl) R.z (pa_cons (pv 0) (pa_cons (pe_glob (v := (.ref aB)) (by rfl) R.g rfl) pa_nil))) (pg_tup rfl (pgs_cons (pg_name (i := 1) scC.nd rfl (.inl rfl)) (pgs_cons (pg_tup rfl (pgs_cons (pg_name (i := 2) scC.nd rfl (.inl rfl)) (pgs_cons (pg_name (i := 3) scC.nd rfl (.inl rfl)) (pgs_cons (pg_name (i := 4) scC.nd rfl (.inl rfl)) pgs_nil)))) pgs_nil))) (pss_one (ps_if (PW.pt (pw_or (pt_cmpR op_lt (pv 1) (pv 3) (nomark _)) (pw_or1 (pt_cmpR op_gt (pv 1) (pv 4) (nomark _))))) (pss_one (ps_raise rfl (takes_of rfl rfl rfl rfl) (SkE.pmk_own1 PySem.F.excBase_ValueError R.r.x R.r.g R.r.k (raises_own R.r.b R.r.t) rfl (pe_joined (.cons pe_str (.cons (pe_fmt (pv 2)) (.cons pe_str (.cons (pe_fmt (pv 3)) (.cons pe_str (.cons (pe_fmt (pv 4)) .nil)))))))))) pss_nil)))), ?_⟩
    refine ⟨_, rfl, a, aB, ms.map V.int, bs.map V.ref, rfl, .inr ⟨SqT.of ha, R.t _, RZ.for_zipT (K := K) (a := a) (b := aB) (xs := ms.map V.int) (ys := bs.map V.ref) (by rw [List.length_map, List.length_map, hl, R.l])
      (fun i σ H' => ∃ (v1 v2 v3 v4 : Option V), σ = [some (.ref a), v1, v2, v3, v4] ∧ Same H H' ∧ okM (ms.drop i) (rows.drop i) = okM ms rows) ⟨none, none, none, none, rfl, Same.refl H, rfl⟩ ?_ ?_ ?_⟩⟩
    · rintro i σ H' ⟨v1, v2, v3, v4, _, sm, _⟩
      exact ⟨SqT.of (sm _ _ ha), R.t _⟩
    · rintro i x y T σ H' h1 h2 ⟨v1, v2, v3, v4, rfl, sm, e⟩ nT
      obtain ⟨n, rfl, g1⟩ := map_int_at h1
      obtain ⟨b, rfl, g2⟩ := map_ref_at h2
      have hi : i < rows.length := by
        have := (List.getElem?_eq_some_iff.mp g1).1
        have e5 : rows.length = 5 := rfl
        omega
      have g3 : rows[i]? = some rows[i] := List.getElem?_eq_getElem hi
      have hr := rows_ok rows[i] (List.getElem_mem hi)
      generalize rows[i] = r at g3 hr
      obtain ⟨z, lo, hi'⟩ := r
      obtain ⟨z1, z2, z3, z4, z5⟩ := hr
      simp only at z1 z2 z3 z4 z5
      have s2 : Same H' (upd H' T (.tup [.int n, .ref b])) := same_upd nT
      rw [drop_at g1, drop_at g3] at e
      have q' := q _ (sm.trans s2)
      rw [← e] at q'
      have b0 : ∀ x : Str, x.length ≤ 100 → x.length ≤ sizeLine := fun x h => Nat.le_trans h (by decide)
      have m1 : (Str.empty ++ ("the field " : Str)).length = 10 := by decide +kernel
      have m2 : (" of a machine is not from " : Str).length = 26 := by decide +kernel
      have m3 : (" to " : Str).length = 4 := by decide +kernel
      refine ⟨T, _, rfl, SqT.of upd_same, rfl, _, _, rfl, _, _, rfl, b, _, rfl, R.e i b _ g2 g3 _, rfl, _, _, rfl, _, _, rfl, _, _, rfl, rfl, rfl, ?_⟩
      have raise : ¬ (lo ≤ n ∧ n ≤ hi') → E (.ref Z) none (upd H' T (.tup [.int n, .ref b])) := fun nb => q'.2 (by
        show (decide (lo ≤ n) && decide (n ≤ hi') && okM _ _) = false
        rw [← Bool.decide_and, decide_eq_false nb]
        rfl)
      have n0 : (Str.empty ++ ("the field " : Str) ++ z).length = 10 + z.length := by rw [txt_len, m1]
      have ft : ∀ σ, σ = [some (.ref a), some (.int n), some (.str z), some (.int lo), some (.int hi')] → ¬ (lo ≤ n ∧ n ≤ hi') → tJs [tC (.str "the field "), tFmt (tVar 2), tC (.str " of a machine is not from "), tFmt (tVar 3), tC (.str " to "), tFmt (tVar 4)] Str.empty σ (upd H' T (.tup [.int n, .ref b])) fun out H1 => E (.ref Z) none H1 := by
        rintro σ rfl nb
        refine ⟨_, rfl, b0 _ (by rw [m1]; decide), _, rfl, .inl ⟨_, rfl, b0 _ (by omega), _, rfl, b0 _ (by rw [n0]; omega), _, rfl, b0 _ (by rw [txt_len, n0, m2]; omega), _, rfl, .inr ⟨_, rfl, z4, _, rfl, b0 _ (by rw [txt_len, txt_len, n0, m2]; omega), _, rfl, b0 _ (by rw [txt_len, txt_len, txt_len, n0, m2, m3]; omega), _, rfl, .inr ⟨_, rfl, z5, _, rfl, b0 _ (by rw [txt_len, txt_len, txt_len, txt_len, n0, m2, m3]; omega), raise nb⟩⟩⟩⟩
      refine ⟨_, rfl, _, rfl, _, _, rfl, rfl, _, rfl, ite2 (fun e1 => iteT ?_) (fun e1 => ⟨_, rfl, _, rfl, _, _, rfl, rfl, _, rfl, ite2 (fun e2 => ?_) (fun e2 => ?_)⟩)⟩
      · have : n < lo := of_decide_eq_true e1
        exact ft _ rfl (by omega)
      · have : hi' < n := of_decide_eq_true e2
        exact ft _ rfl (by omega)
      · have e3 : ¬ n < lo := fun w => e1 (decide_eq_true w)
        have e4 : ¬ hi' < n := fun w => e2 (decide_eq_true w)
        refine ⟨_, _, _, _, rfl, sm.trans s2, ?_⟩
        rw [← e]
        show _ = (decide (lo ≤ n) && decide (n ≤ hi') && okM _ _)
        rw [decide_eq_true (by omega : lo ≤ n), decide_eq_true (by omega : n ≤ hi')]
        rfl
    · rintro σ H' ⟨v1, v2, v3, v4, rfl, sm, e⟩
      refine (q _ sm).1 ?_
      rw [← e, List.drop_eq_nil_of_le (by rw [List.length_map]; exact Nat.le_refl _)]
      rfl
end
section
variable {P : Program} {w : World} {K : PySem.W.Frag} {mg : Str → Option Value} {base : Heap}
theorem passN {P : Program} {w : World} {X : Cx} : Passes (L2.CX P w) X E0 := fun _ _ _ _ _ _ _ h => by
  obtain ⟨_, _, _, _, _, _, _, _, _, _, _, _, z⟩ := h
  exact z.elim
theorem okM_iff : ∀ {ms : List Int} {rs : List (Str × Int × Int)}, okM ms rs = true ↔ ∀ (j : Nat) n r, ms[j]? = some n → rs[j]? = some r → r.2.1 ≤ n ∧ n ≤ r.2.2
  | [], rs => ⟨fun _ j n r h => by simp at h, fun _ => by cases rs <;> rfl⟩
  | m :: ms, [] => ⟨fun _ j n r _ h => by simp at h, fun _ => rfl⟩
  | m :: ms, r :: rs => by
    show (decide (r.2.1 ≤ m) && decide (m ≤ r.2.2) && okM ms rs) = true ↔ _
    rw [Bool.and_eq_true, Bool.and_eq_true, decide_eq_true_eq, decide_eq_true_eq, okM_iff (ms := ms) (rs := rs)]
    constructor
    · rintro ⟨a, b⟩ j n r' h1 h2
      cases j with
      | zero =>
        simp only [List.getElem?_cons_zero, Option.some.injEq] at h1 h2
        subst h1 h2
        exact a
      | succ j =>
        simp only [List.getElem?_cons_succ] at h1 h2
        exact b j n r' h1 h2
    · intro h
      exact ⟨h 0 m r rfl rfl, fun j n r' h1 h2 => h (j + 1) n r' h1 h2⟩
def spTold (K : PySem.W.Frag) : Sp := fun vs H Q _ => ∃ (a : Addr) (ms : List Int), vs = [.ref a] ∧ H a = some (.tup (ms.map V.int)) ∧ ms.length = 5 ∧
  ∀ H', Same H H' → Q (.str (if okM ms rows = true then "good" else "bad")) H'
structure TxtE (K : PySem.W.Frag) (mg : Str → Option Value) (Z TE : Addr) : Prop where
  nT : ErrN K mg "TensorError" TE
  gZ : mg "MachineError" = some (.ref Z)
  isi : mg "isinstance" = none
  sub : PySem.W.subIn K (.ref Z) (.ref TE) = some true
  exc : ExcC K Z
  kit : PySem.W.kitOne K (.ref Z) (.ref Z) = some true
abbrev nTD : List Str := ["machine", "actual", "e"]
theorem scTD : FnScope nTD ["machine"] (defScope sTold) := ⟨rfl, rfl, rfl, by decide +kernel, rfl, by decide +kernel, by decide +kernel⟩
theorem ok_told {f Z TE : Addr} {fd : FuncData} (F : Fun K "_law_told" "_law_told" sTold f fd) (T : TxtE K mg Z TE) (cC : Calls P w K mg base (L2.CX P w) 1 "check_machine" ["machine"] (spCheck K Z)) : FnOk P w K mg base CX0 2 f fd ["machine"] (spTold K) := by
  obtain ⟨fC, dC, GC, kC, bC, gC⟩ := cC.ex
  refine F.ok scTD (fun vs H Q E h => ?_) (fun cdv A outer s H vs Q E hr h => ?_)
  · obtain ⟨a, ms, rfl, _⟩ := h
    rfl
  · obtain ⟨a, ms, rfl, ha, hl, q⟩ := h
    refine ⟨_, pss_cons (ps_try_as (i := 2) (tb := fun W => tAsg (tCallS (spCheck K Z) (WE W) (tCons (tVar 0) tNil)) (gName 1)) (Wout := fun _ _ _ _ => False) rfl rfl scTD.nd rfl rfl ⟨rfl, by decide, Or.inl T.nT.g⟩ takes0
        (fun W pn xe tk _ => pss_one (ps_set (i := 1) scTD.nd rfl (.inl rfl) (by exact (pe_callS GC hr (by rfl) gC kC bC (fun σ => passAt tk σ) (by exact (pa_cons (pv 0) pa_nil))))))
        (fun a oe cls d pn hz hf => su_ok hz hf))
      (pss_one (ps_ret (pe_ifExp (pt_cmpR op_isN (pv 1) pe_non (nomark _)) pe_str pe_str))), ?_⟩
    refine ⟨_, rfl, a, ms, rfl, ha, hl, fun H1 sm1 => ⟨fun e0 => ?_, fun e0 => ?_⟩⟩
    · have q1 := q _ sm1
      rw [if_pos e0] at q1
      exact ⟨_, rfl, rfl, _, rfl, iteT q1⟩
    · have q1 := q _ sm1
      rw [if_neg (by rw [e0]; exact Bool.false_ne_true)] at q1
      refine ⟨true, T.nT.ex T.sub, fun _ ax hax => fun oe pn hz hf => ?_, fun z => nomatch z⟩
      refine ⟨_, pss_one (ps_ret (pe_ifExp (pt_val (pe_callB (call_isE T.exc hz hf) (by rfl) T.isi (by decide +kernel) (pa_cons (pv 2) (pa_cons (pe_glob (v := .ref Z) (by rfl) T.gZ rfl) pa_nil)))) pe_str pe_str)), ?_⟩
      exact ⟨_, rfl, _, _, _, rfl, fun _ h => h, T.kit, _, rfl, iteT q1⟩
def spWB : Sp := fun vs H Q _ => ∃ (a : Addr) (m : Int) (ms : List Int), vs = [.ref a] ∧ H a = some (.tup ((m :: ms).map V.int)) ∧ 32 ≤ m ∧ m ≤ 256 ∧
  ∀ H' p, Same H H' → H' p = some (.tup [.int (-(2 ^ (m.toNat - 1))), .int (2 ^ (m.toNat - 1) - 1)]) → Q (.ref p) H'
theorem same_new {H : Hp} {p : Addr} {o : HO} (h : H p = none) : Same H (upd H p o) := fun b x e => by
  rw [upd_ne (ne_of_none e h)]
  exact e
abbrev nWB : List Str := ["machine", "width"]
theorem scWB : FnScope nWB ["machine"] (defScope sWB) := ⟨rfl, rfl, rfl, by decide +kernel, rfl, by decide +kernel, by decide +kernel⟩
theorem ok_wb {f : Addr} {fd : FuncData} (F : Fun K "word_bounds" "word_bounds" sWB f fd) : FnOk P w K mg base CX0 1 f fd ["machine"] spWB := by
  refine F.ok scWB (fun vs H Q E h => ?_) (fun cdv A outer s H vs Q E hr h => ?_)
  · obtain ⟨a, m, ms, rfl, _⟩ := h
    rfl
  · obtain ⟨a, m, ms, rfl, ha, h1, h2, q⟩ := h
    have t2 : 2 ≤ sizeLine := by decide
    refine ⟨_, (pss_cons (ps_set (i := 1) scWB.nd rfl (.inl rfl) (pe_ix ix_tup (pv 0) pe_int (fun _ _ => rfl)))
      (pss_one (ps_ret (pe_tup (pa_cons (pe_un un_neg (pe_op op_shl pe_int (pe_op op_sub (pv 1) pe_int))) (pa_cons (pe_op op_sub (pe_op op_shl pe_int (pe_op op_sub (pv 1) pe_int)) pe_int) pa_nil)))))), ?_⟩
    have e1 : (m - 1).toNat = m.toNat - 1 := by omega
    refine ⟨_, rfl, a, _, _, _, rfl, rfl, SqT.of ha, atI_zero, ?_⟩
    refine ⟨_, rfl, _, _, rfl, rfl, _, _, rfl, rfl, ⟨by show 0 ≤ m - 1; omega, by show m - 1 ≤ 1000000; omega, by decide⟩, _, rfl, _, rfl, _, _, rfl, rfl, _, _, rfl, rfl, ⟨by show 0 ≤ m - 1; omega, by show m - 1 ≤ 1000000; omega, by decide⟩, _, _, rfl, rfl, t2, fun p np => q _ p (same_new np) ?_⟩
    show upd H p _ p = _
    rw [upd_same]
    show some (HO.tup [V.int (-(1 * 2 ^ (m - 1).toNat)), V.int (1 * 2 ^ (m - 1).toNat - 1)]) = _
    rw [e1, Int.one_mul]
def spFits (K : PySem.W.Frag) : Sp := fun vs H Q _ => ∃ (a : Addr) (m : Int) (ms : List Int) (n : Int), vs = [.ref a, .int n] ∧ H a = some (.tup ((m :: ms).map V.int)) ∧ ms.length = 4 ∧ okM (m :: ms) rows = true ∧
  ∀ H', Same H H' → Q (.bl (decide (-(2 ^ (m.toNat - 1)) ≤ n ∧ n < 2 ^ (m.toNat - 1)))) H'
abbrev nF : List Str := ["machine", "n", "low", "high"]
theorem scF : FnScope nF ["machine", "n"] (defScope sFits) := ⟨rfl, rfl, rfl, by decide +kernel, rfl, by decide +kernel, by decide +kernel⟩
theorem ok_fits {f Z : Addr} {fd : FuncData} (F : Fun K "fits" "fits" sFits f fd) (cC : Calls P w K mg base (L2.CX P w) 1 "check_machine" ["machine"] (spCheck K Z)) (cWb : Calls P w K mg base CX0 1 "word_bounds" ["machine"] spWB) : FnOk P w K mg base CX0 2 f fd ["machine", "n"] (spFits K) := by
  obtain ⟨fC, dC, GC, kC, bC, gC⟩ := cC.ex
  obtain ⟨fWb, dWb, GWb, kWb, bWb, gWb⟩ := cWb.ex
  refine F.ok scF (fun vs H Q E h => ?_) (fun cdv A outer s H vs Q E hr1 h => ?_)
  · obtain ⟨a, m, ms, n, rfl, _⟩ := h
    rfl
  · obtain ⟨a, m, ms, n, rfl, ha, hl, hok, q⟩ := h
    have hm := okM_iff.mp hok 0 m _ rfl rfl
    have h1 : (32 : Int) ≤ m := hm.1
    have h2 : m ≤ (256 : Int) := hm.2
    refine ⟨_, (pss_cons (ps_expr (pe_call GC hr1 (by rfl) gC kC bC .nil passN (pa_cons (pv 0) pa_nil)))
      (pss_cons (ps_asg (pe_call GWb hr1 (by rfl) gWb kWb bWb .nil pass0 (pa_cons (pv 0) pa_nil)) (pg_tup rfl (pgs_cons (pg_name (i := 2) scF.nd rfl (.inl rfl)) (pgs_cons (pg_name (i := 3) scF.nd rfl (.inl rfl)) pgs_nil))))
      (pss_one (ps_ret (pe_chain op_le op_le (pv 2) (pv 1) (pv 3)))))), ?_⟩
    refine ⟨_, rfl, a, m :: ms, rfl, ha, by rw [List.length_cons, hl], fun H' sm => ⟨fun _ => ?_, fun z => absurd (hok.symm.trans z) (by decide)⟩⟩
    have ha' := sm _ _ ha
    refine ⟨_, rfl, a, m, ms, rfl, ha', h1, h2, fun H2 p s2 hp => ?_⟩
    refine ⟨p, _, rfl, SqT.of hp, rfl, _, _, rfl, _, _, rfl, rfl, ?_⟩
    have q' := q _ (sm.trans s2)
    generalize (2 : Int) ^ (m.toNat - 1) = B at q' ⊢
    refine ⟨_, rfl, _, rfl, _, _, rfl, rfl, _, rfl, ite2 (fun e => ?_) (fun e => ?_)⟩
    · have e := of_decide_eq_true e
      refine ⟨_, rfl, _, _, rfl, rfl, ?_⟩
      show Q (.bl (decide (n ≤ B - 1))) H2
      rw [show decide (n ≤ B - 1) = decide (-B ≤ n ∧ n < B) from decide_eq_decide.mpr ⟨fun z => ⟨e, by omega⟩, fun z => by omega⟩]
      exact q'
    · have e : ¬ -B ≤ n := fun z => e (decide_eq_true z)
      rw [decide_eq_false (show ¬ (-B ≤ n ∧ n < B) from fun z => e z.1)] at q'
      exact q'
end
section
variable {P : Program} {w : World} {K : PySem.W.Frag} {mg : Str → Option Value} {base : Heap}
structure Txt (mg : Str → Option Value) extends TxtD mg where
  range : mg "range" = none
  tuple : mg "tuple" = none
  isi : mg "isinstance" = none
  bool : mg "bool" = none
def lowsL : List Int := [32, 1, 16, 1, 1]
def highsL : List Int := [256, 16384, 4096, 4, 16]
theorem row_at {i : Nat} (h : i < 5) : ∃ r : Str × Int × Int, rows[i]? = some r ∧ lowsL[i]? = some r.2.1 ∧ highsL[i]? = some r.2.2 ∧ 1 ≤ r.2.1 ∧ r.2.1 ≤ r.2.2 ∧ r.2.2 ≤ 16384 := by
  match i, h with
  | 0, _ => exact ⟨_, rfl, rfl, rfl, by decide, by decide, by decide⟩
  | 1, _ => exact ⟨_, rfl, rfl, rfl, by decide, by decide, by decide⟩
  | 2, _ => exact ⟨_, rfl, rfl, rfl, by decide, by decide, by decide⟩
  | 3, _ => exact ⟨_, rfl, rfl, rfl, by decide, by decide, by decide⟩
  | 4, _ => exact ⟨_, rfl, rfl, rfl, by decide, by decide, by decide⟩
theorem vat {ns : List Int} {i : Nat} {n : Int} (h : ns[i]? = some n) : atI (ns.map V.int) (i : Int) = some (.int n) := atI_nat (by rw [List.getElem?_map, h]; rfl)
theorem okM_take : ∀ {i : Nat} {ms : List Int} {rs : List (Str × Int × Int)} {n : Int} {r : Str × Int × Int}, ms[i]? = some n → rs[i]? = some r → okM (ms.take (i + 1)) (rs.take (i + 1)) = (okM (ms.take i) (rs.take i) && (decide (r.2.1 ≤ n) && decide (n ≤ r.2.2)))
  | 0, m :: ms, r' :: rs, n, r, h1, h2 => by
    simp only [List.getElem?_cons_zero, Option.some.injEq] at h1 h2
    subst h1 h2
    show (decide (r'.2.1 ≤ m) && decide (m ≤ r'.2.2) && true) = (true && (decide (r'.2.1 ≤ m) && decide (m ≤ r'.2.2)))
    rw [Bool.and_true, Bool.true_and]
  | i + 1, m :: ms, r' :: rs, n, r, h1, h2 => by
    simp only [List.getElem?_cons_succ] at h1 h2
    show (decide (r'.2.1 ≤ m) && decide (m ≤ r'.2.2) && okM (ms.take (i + 1)) (rs.take (i + 1))) = ((decide (r'.2.1 ≤ m) && decide (m ≤ r'.2.2) && okM (ms.take i) (rs.take i)) && _)
    rw [okM_take h1 h2, ← Bool.and_assoc]
  | 0, [], _, _, _, h, _ => by simp at h
  | 0, _ :: _, [], _, _, _, h => by simp at h
  | _ + 1, [], _, _, _, h, _ => by simp at h
  | _ + 1, _ :: _, [], _, _, _, h => by simp at h
theorem lows_ok : okM lowsL rows = true := by decide +kernel
theorem highs_ok : okM highsL rows = true := by decide +kernel
structure Fx (H : Hp) (d c pl ph : Addr) : Prop where
  dr : DrAt H d c
  l : H pl = some (.tup (lowsL.map V.int))
  h : H ph = some (.tup (highsL.map V.int))
theorem Fx.same {H H' : Hp} {d c pl ph : Addr} (f : Fx H d c pl ph) (s : Same H H') : Fx H' d c pl ph := ⟨f.dr.same s, s _ _ f.l, s _ _ f.h⟩
theorem Fx.but {H H' : Hp} {d c pl ph : Addr} (f : Fx H d c pl ph) (k : But d H H') (dr : DrAt H' d c) : Fx H' d c pl ph := ⟨dr, k.tup f.dr f.l, k.tup f.dr f.h⟩
theorem Fx.upd {H : Hp} {d c pl ph D : Addr} {xs ys : List V} (f : Fx H d c pl ph) (hD : H D = some (.lst xs)) (nd : D ≠ d) (nc : D ≠ c) : Fx (upd H D (.lst ys)) d c pl ph :=
  ⟨f.dr.upd _ nd nc, by rw [upd_ne (ne_of f.l hD (fun z => nomatch z))]; exact f.l, by rw [upd_ne (ne_of f.h hD (fun z => nomatch z))]; exact f.h⟩
def spLaw (K : PySem.W.Frag) : Sp := fun vs H Q _ => ∃ (a : Addr) (ns : List Int), vs = [.ref a] ∧ SqL K H a (ns.map V.int) ∧ ns.length ≤ 63 ∧ ∀ H', Q (.bl true) H'
abbrev nL : List Str := ["script", "d", "lows", "highs", "k", "machine", "good", "turn", "due", "j", "edge", "n", "told"]
theorem scL : FnScope nL ["script"] (defScope sLaw) := ⟨rfl, rfl, rfl, by decide +kernel, rfl, by decide +kernel, by decide +kernel⟩
theorem ok_law {f : Addr} {fd : FuncData} (F : Fun K "law" "law" sLaw f fd) (T : Txt mg) (cB : Calls P w K mg base CX0 1 "_law_begin" ["script"] (spBegin K)) (cT : Calls P w K mg base CX0 1 "_law_take" ["d", "many"] spTake) (cTo : Calls P w K mg base CX0 2 "_law_told" ["machine"] (spTold K)) (cFi : Calls P w K mg base CX0 2 "fits" ["machine", "n"] (spFits K)) : FnOk P w K mg base CX0 3 f fd ["script"] (spLaw K) := by
  obtain ⟨fB, dB, GB, kB, bB, gB⟩ := cB.ex
  obtain ⟨fT, dT, GT, kT, bT, gT⟩ := cT.ex
  obtain ⟨fTo, dTo, GTo, kTo, bTo, gTo⟩ := cTo.ex
  obtain ⟨fFi, dFi, GFi, kFi, bFi, gFi⟩ := cFi.ex
  refine F.ok scL (fun vs H Q E h => ?_) (fun cdv A outer s H vs Q E hr h => ?_)
  · obtain ⟨a, ns, rfl, _⟩ := h
    rfl
  · obtain ⟨a, ns, rfl, hS, hlen, q⟩ := h
    have hr1 : Room 1 _ := hr.mono (by decide)
    have hr2 : Room 2 _ := hr.mono (by decide)
    refine ⟨_, (pss_cons (ps_set (i := 1) scL.nd rfl (.inr rfl) (pe_call GB hr1 (by rfl) gB kB bB .nil pass0 (pa_cons (pv 0) pa_nil)))
      (pss_cons (ps_set (i := 2) scL.nd rfl (.inr rfl) (pe_tup (pa_cons pe_int (pa_cons pe_int (pa_cons pe_int (pa_cons pe_int (pa_cons pe_int pa_nil)))))))
      (Evl.pss_cut (ps_set (i := 3) scL.nd rfl (.inr rfl) (pe_tup (pa_cons pe_int (pa_cons pe_int (pa_cons pe_int (pa_cons pe_int (pa_cons pe_int pa_nil)))))))
      (pss_cons (ps_setLc (i := 5) (own := [("k", 4)]) (g := (gName 4)) (tt := tYes) (te := (tOp (rI0 fun i j => .int (i + j)) (tOp (rIxT K) (tVar 2) (tVar 4)) (tCall spTake [] E0 (tCons (tVar 1) (tCons (tOp (rI0 fun i j => .int (i + j)) (tOp (rI0 fun i j => .int (i - j)) (tOp (rIxT K) (tVar 3) (tVar 4)) (tOp (rIxT K) (tVar 2) (tVar 4))) (tC (.int 1))) tNil))))) (by rfl) scL.nd rfl rfl (sw_true rfl rfl rfl (by decide +kernel)) (pi_range1 rfl T.range (pa_cons pe_int pa_nil)) (blkOk_by (N := nL) (sc := defScope sLaw) (by decide +kernel)) (fun _ _ _ _ _ => (pg_name (i := 4) scL.nd rfl (.inl rfl))) (fun _ _ _ _ _ => pts_nil) (fun _ _ _ _ _ => (pe_op op_add (pe_ix ix_tup (pv 2) (pv 4) (fun _ _ => rfl)) (pe_call GT hr1 (by rfl) gT kT bT .nil pass0 (pa_cons (pv 1) (pa_cons (pe_op op_add (pe_op op_sub (pe_ix ix_tup (pv 3) (pv 4) (fun _ _ => rfl)) (pe_ix ix_tup (pv 2) (pv 4) (fun _ _ => rfl))) pe_int) pa_nil))))))
      (Evl.pss_cut (ps_set (i := 6) scL.nd rfl (.inl rfl) (pe_callTy call_tuple_of (by rfl) T.tuple (by decide +kernel) (pa_cons (pv 5) pa_nil)))
      (pss_cons (ps_if (PW.pt (pw_or (pt_cmpR op_ne (pe_call GTo hr2 (by rfl) gTo kTo bTo .nil pass0 (pa_cons (pv 6) pa_nil)) pe_str (nomark _)) (pw_or (pt_cmpR op_ne (pe_call GTo hr2 (by rfl) gTo kTo bTo .nil pass0 (pa_cons (pv 2) pa_nil)) pe_str (nomark _)) (pw_or1 (pt_cmpR op_ne (pe_call GTo hr2 (by rfl) gTo kTo bTo .nil pass0 (pa_cons (pv 3) pa_nil)) pe_str (nomark _)))))) (pss_one (ps_ret pe_bl)) pss_nil)
      (pss_cons (ps_for PassesOwn.never rfl (pi_range1 rfl T.range (pa_cons pe_int pa_nil)) (pg_name (i := 7) scL.nd rfl (.inl rfl)) (pss_cons (ps_set (i := 4) scL.nd rfl (.inl rfl) (pe_call GT hr1 (by rfl) gT kT bT .nil pass0 (pa_cons (pv 1) (pa_cons pe_int pa_nil))))
      (pss_cons (ps_asg (pe_ix ix_tup (pe_tup (pa_cons (pe_op op_sub (pe_ix ix_tup (pv 2) (pv 4) (fun _ _ => rfl)) pe_int) (pa_cons (pe_ix ix_tup (pv 2) (pv 4) (fun _ _ => rfl)) (pa_cons (pe_ix ix_tup (pv 3) (pv 4) (fun _ _ => rfl)) (pa_cons (pe_op op_add (pe_ix ix_tup (pv 3) (pv 4) (fun _ _ => rfl)) pe_int) (pa_cons (pe_op op_sub pe_int pe_int) (pa_cons pe_int pa_nil))))))) (pe_call GT hr1 (by rfl) gT kT bT .nil pass0 (pa_cons (pv 1) (pa_cons pe_int pa_nil))) (fun _ _ => rfl)) (pg_sub (pv 5) (pv 4) set_list))
      (Evl.pss_cut (ps_set (i := 8) scL.nd rfl (.inl rfl) pe_str)
      (pss_cons (ps_for PassesOwn.never rfl (pi_range1 rfl T.range (pa_cons pe_int pa_nil)) (pg_name (i := 9) scL.nd rfl (.inl rfl)) (pss_one (ps_if (PW.pt (pw_or (pt_cmpR op_lt (pe_ix ix_list (pv 5) (pv 9) (fun _ _ => rfl)) (pe_ix ix_tup (pv 2) (pv 9) (fun _ _ => rfl)) (nomark _)) (pw_or1 (pt_cmpR op_gt (pe_ix ix_list (pv 5) (pv 9) (fun _ _ => rfl)) (pe_ix ix_tup (pv 3) (pv 9) (fun _ _ => rfl)) (nomark _))))) (pss_one (ps_set (i := 8) scL.nd rfl (.inl rfl) pe_str)) pss_nil)))
      (pss_one (ps_if (pt_cmpR op_ne (pe_call GTo hr2 (by rfl) gTo kTo bTo .nil pass0 (pa_cons (pe_callTy call_tuple_of (by rfl) T.tuple (by decide +kernel) (pa_cons (pv 5) pa_nil)) pa_nil)) (pv 8) (nomark _)) (pss_one (ps_ret pe_bl)) pss_nil)))))))
      (pss_cons (ps_set (i := 10) scL.nd rfl (.inl rfl) pe_int)
      (pss_cons (ps_for PassesOwn.never rfl (pi_range1 rfl T.range (pa_cons (pe_op op_sub (pe_ix ix_tup (pv 6) pe_int (fun _ _ => rfl)) pe_int) pa_nil)) (pg_name (i := 4) scL.nd rfl (.inl rfl)) (pss_one (ps_set (i := 10) scL.nd rfl (.inl rfl) (pe_op op_mul (pv 10) pe_int))))
      (pss_cons (ps_for PassesOwn.never rfl (pi_tup (pe_tup (pa_cons (pe_op op_sub (pv 10) pe_int) (pa_cons (pv 10) (pa_cons (pe_op op_sub pe_int (pv 10)) (pa_cons (pe_op op_sub (pe_op op_sub pe_int (pv 10)) pe_int) (pa_cons pe_int (pa_cons (pe_op op_sub (pe_op op_sub (pv 10) pe_int) (pe_call GT hr1 (by rfl) gT kT bT .nil pass0 (pa_cons (pv 1) (pa_cons pe_int pa_nil)))) (pa_cons (pe_op op_add (pv 10) (pe_call GT hr1 (by rfl) gT kT bT .nil pass0 (pa_cons (pv 1) (pa_cons pe_int pa_nil)))) pa_nil))))))))) (pg_name (i := 11) scL.nd rfl (.inl rfl)) (pss_cons (ps_set (i := 12) scL.nd rfl (.inl rfl) (pe_call GFi hr2 (by rfl) gFi kFi bFi .nil pass0 (pa_cons (pv 6) (pa_cons (pv 11) pa_nil))))
      (pss_one (ps_if (PW.pt (pw_or (pt_not (pt_val (pe_callB call_isi (by rfl) T.isi (by decide +kernel) (pa_cons (pv 12) (pa_cons (pe_bltn (v := .ty "bool") (by rfl) T.bool (by decide +kernel) rfl) pa_nil))))) (pw_or1 (pt_cmpR op_ne (pv 12) (pe_and (pe_cmpR op_lt (pv 11) (pv 10) (nomark _)) (pe_one (pe_cmpR op_ge (pv 11) (pe_op op_sub pe_int (pv 10)) (nomark _)))) (nomark _))))) (pss_one (ps_ret pe_bl)) pss_nil))))
      (pss_one (ps_ret pe_bl)))))))))))), ?_⟩
    refine ⟨_, rfl, a, ns, rfl, hS, hlen, fun H1 d c sm1 nd nc dr => ?_⟩
    have t5 : 5 ≤ sizeLine := by decide
    refine ⟨t5, fun pl npl => ⟨fun σ' H' => ∃ ph, σ' = [some (.ref a), some (.ref d), some (.ref pl), some (.ref ph), none, none, none, none, none, none, none, none, none] ∧ Fx H' d c pl ph, ?_, ?_⟩⟩
    · refine ⟨t5, fun ph nph => ?_⟩
      have s1 := same_upd (o := .tup (lowsL.map V.int)) npl
      have s2 := same_upd (o := .tup (highsL.map V.int)) nph
      exact ⟨ph, rfl, (dr.same s1).same s2, s2 _ _ upd_same, upd_same⟩
    clear dr npl nd nc sm1
    rintro σ' H2 ⟨ph, rfl, fx⟩
    -- machine
    refine ⟨5, rfl, by decide, by decide, fun D nD => lc_range (lo := 0) (n := 5) (fun i H' => ∃ ms : List Int, H' D = some (.lst (ms.map V.int)) ∧ ms.length = i ∧ (∀ (j : Nat) n r, ms[j]? = some n → rows[j]? = some r → r.2.1 ≤ n ∧ n ≤ r.2.2) ∧ Fx H' d c pl ph)
      ⟨[], upd_same, rfl, fun j n r h => by simp at h, fx.same (same_upd nD)⟩ ?_ ?_⟩
    · rintro i H' hi ⟨ms, hD, hl, hb, fx'⟩
      have hDd : D ≠ d := (ne_of_none fx.dr.lst.choose_spec nD).symm
      have hDc : D ≠ c := (ne_of_none fx.dr.lstc.choose_spec nD).symm
      obtain ⟨r, g1, g2, g3, g4, g5, g6⟩ := row_at hi
      rw [Int.zero_add]
      refine ⟨rfl, ?_⟩
      unfold tYes
      dsimp only
      rw [if_pos rfl]
      refine ⟨_, rfl, _, rfl, pl, _, _, _, rfl, rfl, SqT.of fx'.l, vat g2, _, rfl, _, rfl, _, rfl, ph, _, _, _, rfl, rfl, SqT.of fx'.h, vat g3, _, rfl, _, rfl, pl, _, _, _, rfl, rfl, SqT.of fx'.l, vat g2, _, _, rfl, rfl, _, _, rfl, rfl, ?_⟩
      refine ⟨d, c, _, rfl, fx'.dr, by omega, bnd_le (by omega), fun H3 v k3 dr3 v0 v1 => ⟨_, _, rfl, rfl, _, keepD k3 hDd hD, ?_, ms ++ [r.2.1 + v], ?_, ?_, ?_, (fx'.but k3 dr3).upd (keepD k3 hDd hD) hDd hDc⟩⟩
      · rw [List.length_map, hl]
        exact small1000 (by omega)
      · rw [upd_same, List.map_append]
        rfl
      · rw [List.length_append, hl]
        rfl
      · intro j n r' h1 h2
        by_cases hj : j < ms.length
        · rw [List.getElem?_append_left hj] at h1
          exact hb j n r' h1 h2
        · have hlt := (List.getElem?_eq_some_iff.mp h1).1
          rw [List.length_append] at hlt
          have ej : j = ms.length := by
            have : ([r.2.1 + v] : List Int).length = 1 := rfl
            omega
          subst ej
          rw [List.getElem?_append_right (Nat.le_refl _), Nat.sub_self] at h1
          simp only [List.getElem?_cons_zero, Option.some.injEq] at h1
          rw [hl, g1] at h2
          cases h2
          omega
    · rintro H3 ⟨ms, hD, hl, hb, fx3⟩
      have hDd : D ≠ d := (ne_of_none fx.dr.lst.choose_spec nD).symm
      have hDc : D ≠ c := (ne_of_none fx.dr.lstc.choose_spec nD).symm
      have hok : okM ms rows = true := okM_iff.mpr hb
      clear fx nD hb
      refine ⟨fun σ' H' => ∃ g, σ' = [some (.ref a), some (.ref d), some (.ref pl), some (.ref ph), none, some (.ref D), some (.ref g), none, none, none, none, none, none] ∧ Fx H' d c pl ph ∧ H' D = some (.lst (ms.map V.int)) ∧ H' g = some (.tup (ms.map V.int)), ?_, ?_⟩
      · refine ⟨_, rfl, D, _, rfl, .inl ⟨SqL.of hD, fun g ng => ?_⟩⟩
        have s1 := same_upd (o := .tup (ms.map V.int)) ng
        exact ⟨g, rfl, fx3.same s1, s1 _ _ hD, upd_same⟩
      clear hD fx3
      rintro σ' H4 ⟨g, rfl, fx, hD, hg⟩
      refine ⟨_, rfl, g, ms, rfl, hg, hl, fun H5 s5 => ⟨rfl, _, rfl, iteNS (by rw [if_pos hok]) ?_⟩⟩
      replace hg := s5 _ _ hg
      replace hD := s5 _ _ hD
      replace fx := fx.same s5
      clear s5
      refine ⟨_, rfl, pl, lowsL, rfl, fx.l, rfl, fun H6 s6 => ⟨rfl, _, rfl, iteNS (by rw [if_pos lows_ok]) ?_⟩⟩
      replace hg := s6 _ _ hg
      replace hD := s6 _ _ hD
      replace fx := fx.same s6
      clear s6
      refine ⟨_, rfl, ph, highsL, rfl, fx.h, rfl, fun H7 s7 => ⟨rfl, _, rfl, iteNS (by rw [if_pos highs_ok]) ?_⟩⟩
      replace hg := s7 _ _ hg
      replace hD := s7 _ _ hD
      replace fx := fx.same s7
      clear s7
      refine ⟨2, rfl, by decide, by decide, for_range (lo := 0) (n := 2) (fun i σ H' => ∃ (v4 v7 v8 v9 : Option V) (ms' : List Int), σ = [some (.ref a), some (.ref d), some (.ref pl), some (.ref ph), v4, some (.ref D), some (.ref g), v7, v8, v9, none, none, none] ∧ Fx H' d c pl ph ∧ H' D = some (.lst (ms'.map V.int)) ∧ ms'.length = 5 ∧ H' g = some (.tup (ms.map V.int)))
        ⟨none, none, none, none, ms, rfl, fx, hD, hl, hg⟩ ?_ ?_⟩
      · clear fx hD hg
        rintro i σ H8 hi ⟨v4, v7, v8, v9, ms', rfl, fx, hD, hl', hg⟩
        refine ⟨_, rfl, d, c, 5, rfl, fx.dr, by decide, bnd_le (by decide), fun H9 kv k9 dr9 w0 w1 => ?_⟩
        obtain ⟨kn, rfl⟩ : ∃ kn : Nat, kv = (kn : Int) := ⟨kv.toNat, by omega⟩
        replace hg := k9.tup fx.dr hg
        replace hD := keepD k9 hDd hD
        replace fx := fx.but k9 dr9
        clear k9 dr9
        obtain ⟨r, g1, g2, g3, g4, g5, g6⟩ := row_at (show kn < 5 by omega)
        have t6 : 6 ≤ sizeLine := by decide
        refine ⟨_, rfl, _, rfl, pl, _, _, _, rfl, rfl, SqT.of fx.l, vat g2, _, _, rfl, rfl, _, rfl, _, rfl, pl, _, _, _, rfl, rfl, SqT.of fx.l, vat g2, _, rfl, _, rfl, ph, _, _, _, rfl, rfl, SqT.of fx.h, vat g3, _, rfl, _, rfl, ph, _, _, _, rfl, rfl, SqT.of fx.h, vat g3, _, _, rfl, rfl, _, _, rfl, rfl, t6, fun t nt => ?_⟩
        have s1 := same_upd (o := .tup [.int (r.2.1 - 1), .int r.2.1, .int r.2.2, .int (r.2.2 + 1), .int (0 - 1), .int 0]) nt
        have fx' := fx.same s1
        refine ⟨_, rfl, d, c, 6, rfl, fx'.dr, by decide, bnd_le (by decide), fun H10 wv k10 dr10 u0 u1 => ?_⟩
        obtain ⟨vn, rfl⟩ : ∃ vn : Nat, wv = (vn : Int) := ⟨wv.toNat, by omega⟩
        obtain ⟨x, hx⟩ : ∃ x : Int, [r.2.1 - 1, r.2.1, r.2.2, r.2.2 + 1, 0 - 1, 0][vn]? = some x := ⟨_, List.getElem?_eq_getElem (show vn < 6 by omega)⟩
        have hD10 := keepD k10 hDd (s1 _ _ hD)
        have hx' := vat hx
        refine ⟨t, _, _, _, rfl, rfl, SqT.of (k10.tup fx'.dr upd_same), hx', _, rfl, _, rfl, D, _, _, kn, rfl, rfl, hD10, Evl.ixN_nat (by rw [List.length_map, hl']; omega), ?_⟩
        replace hg := k10.tup fx'.dr (s1 _ _ hg)
        replace fx := fx'.but k10 dr10
        clear s1 fx' k10 dr10 hx' hD
        have hDg : D ≠ g := fun z => by rw [z, hg] at hD10; cases hD10
        have fx11 := fx.upd (ys := ((ms'.set kn x).map V.int)) hD10 hDd hDc
        have hg11 : (upd H10 D (.lst ((ms'.set kn x).map V.int))) g = some (.tup (ms.map V.int)) := by rw [upd_ne hDg.symm]; exact hg
        have e11 : upd H10 D (.lst ((ms'.map V.int).set kn (.int x))) = upd H10 D (.lst ((ms'.set kn x).map V.int)) := by rw [List.map_set]
        rw [e11]
        have hl11 : (ms'.set kn x).length = 5 := by rw [List.length_set, hl']
        have hD11 : (upd H10 D (.lst ((ms'.set kn x).map V.int))) D = some (.lst ((ms'.set kn x).map V.int)) := upd_same
        generalize ms'.set kn x = m2 at *
        generalize upd H10 D (.lst (m2.map V.int)) = H11 at *
        clear e11 hD10 fx hg hl'
        refine ⟨fun σ' H' => σ' = [some (.ref a), some (.ref d), some (.ref pl), some (.ref ph), some (.int kn), some (.ref D), some (.ref g), some (.int i), some (.str "good"), v9, none, none, none] ∧ H' = H11, ?_, ?_⟩
        · exact ⟨by rw [Int.zero_add]; rfl, rfl⟩
        rintro σ' H12 ⟨rfl, rfl⟩
        refine ⟨5, rfl, by decide, by decide, for_range (lo := 0) (n := 5) (fun j σ H' => ∃ (v9 : Option V), σ = [some (.ref a), some (.ref d), some (.ref pl), some (.ref ph), some (.int kn), some (.ref D), some (.ref g), some (.int i), some (.str (if okM (m2.take j) (rows.take j) = true then "good" else "bad")), v9, none, none, none] ∧ H' = H12)
          ⟨v9, rfl, rfl⟩ ?_ ?_⟩
        · rintro j σ H' hj ⟨v9, rfl, rfl⟩
          rw [Int.zero_add]
          obtain ⟨r, g1, g2, g3, g4, g5, g6⟩ := row_at hj
          have g0 : m2[j]? = some m2[j] := List.getElem?_eq_getElem (by omega)
          generalize m2[j] = m at g0
          have ek := okM_take g0 g1
          refine ⟨_, rfl, _, rfl, D, _, _, _, rfl, rfl, SqL.of hD11, vat g0, _, rfl, _, rfl, pl, _, _, _, rfl, rfl, SqT.of fx11.l, vat g2, _, _, rfl, rfl, _, rfl, ite2 (fun e1 => iteT ?_) (fun e1 => ⟨_, rfl, _, rfl, D, _, _, _, rfl, rfl, SqL.of hD11, vat g0, _, rfl, _, rfl, ph, _, _, _, rfl, rfl, SqT.of fx11.h, vat g3, _, _, rfl, rfl, _, rfl, ite2 (fun e2 => ?_) (fun e2 => ?_)⟩)⟩
          · have z : m < r.2.1 := of_decide_eq_true e1
            rw [decide_eq_false (by omega : ¬ r.2.1 ≤ m), Bool.false_and, Bool.and_false] at ek
            exact ⟨_, by rw [ek]; rfl, rfl⟩
          · have z : r.2.2 < m := of_decide_eq_true e2
            rw [decide_eq_false (by omega : ¬ m ≤ r.2.2), Bool.and_false, Bool.and_false] at ek
            exact ⟨_, by rw [ek]; rfl, rfl⟩
          · have z1 : ¬ m < r.2.1 := fun z => e1 (decide_eq_true z)
            have z2 : ¬ r.2.2 < m := fun z => e2 (decide_eq_true z)
            rw [decide_eq_true (by omega : r.2.1 ≤ m), decide_eq_true (by omega : m ≤ r.2.2), Bool.and_true, Bool.and_true] at ek
            exact ⟨_, by rw [ek]; rfl, rfl⟩
        · rintro σ H' ⟨v9, rfl, rfl⟩
          rw [List.take_of_length_le (show m2.length ≤ 5 by omega), List.take_of_length_le (show rows.length ≤ 5 from Nat.le_refl _)]
          refine ⟨_, rfl, D, _, rfl, .inl ⟨SqL.of hD11, fun t nt => ?_⟩⟩
          have s1 := same_upd (o := .tup (m2.map V.int)) nt
          refine ⟨t, m2, rfl, upd_same, hl11, fun H13 s13 => ⟨_, rfl, rfl, _, rfl, iteNS rfl ?_⟩⟩
          have s := s1.trans s13
          exact ⟨_, _, _, _, m2, rfl, fx11.same s, s _ _ hD11, hl11, s _ _ hg11⟩
      · clear fx hD hg
        rintro σ H8 ⟨v4, v7, v8, v9, ms', rfl, fx, hD, hl', hg⟩
        -- edge
        obtain ⟨m, mr, rfl⟩ : ∃ m mr, ms = m :: mr := by
          cases ms with
          | nil => simp at hl
          | cons m mr => exact ⟨m, mr, rfl⟩
        have hm := okM_iff.mp hok 0 m _ rfl rfl
        have h1 : (32 : Int) ≤ m := hm.1
        have h2 : m ≤ (256 : Int) := hm.2
        have hl4 : mr.length = 4 := by rw [List.length_cons] at hl; omega
        refine ⟨_, rfl, g, _, _, _, rfl, rfl, SqT.of hg, atI_zero, _, _, rfl, rfl, _, rfl, by omega, by omega, for_range (lo := 0) (n := (m - 1).toNat) (fun i σ H' => ∃ (v4 : Option V), σ = [some (.ref a), some (.ref d), some (.ref pl), some (.ref ph), v4, some (.ref D), some (.ref g), v7, v8, v9, some (.int (2 ^ i)), none, none] ∧ H' = H8)
          ⟨v4, rfl, rfl⟩ ?_ ?_⟩
        · rintro i σ H' hi ⟨v4, rfl, rfl⟩
          refine ⟨_, rfl, _, _, rfl, rfl, .inr ⟨by decide, by decide⟩, some (.int (0 + i)), ?_, rfl⟩
          rw [Int.pow_succ]
          rfl
        · rintro σ H' ⟨v4, rfl, rfl⟩
          have e1 : (m - 1).toNat = m.toNat - 1 := by omega
          rw [e1]
          clear hD hl' e1
          generalize hE : (2 : Int) ^ (m.toNat - 1) = E2
          have t7 : 7 ≤ sizeLine := by decide
          refine ⟨_, rfl, _, _, rfl, rfl, _, rfl, _, rfl, _, _, rfl, rfl, _, rfl, _, _, rfl, rfl, _, _, rfl, rfl, _, rfl, _, _, rfl, rfl, _, rfl, d, c, 9, rfl, fx.dr, by decide, bnd_le (by decide), fun H9 w9 k9 dr9 w0 w1 => ⟨_, _, rfl, rfl, _, rfl, _, rfl, d, c, 9, rfl, dr9, by decide, bnd_le (by decide), fun H10 w10 k10 dr10 u0 u1 => ⟨_, _, rfl, rfl, t7, fun t nt => ?_⟩⟩⟩
          have s1 := same_upd (o := .tup ([E2 - 1, E2, 0 - E2, 0 - E2 - 1, 0, E2 - 1 - w9, E2 + w10].map V.int)) nt
          have hg10 := s1 _ _ (k10.tup dr9 (k9.tup fx.dr hg))
          refine ⟨t, rfl, ⟨_, SqT.of upd_same⟩, for_tup (K := K) (a := t) (xs := [E2 - 1, E2, 0 - E2, 0 - E2 - 1, 0, E2 - 1 - w9, E2 + w10].map V.int) (fun i σ H' => ∃ (v11 v12 : Option V), σ = [some (.ref a), some (.ref d), some (.ref pl), some (.ref ph), v4, some (.ref D), some (.ref g), v7, v8, v9, some (.int E2), v11, v12] ∧
              H' g = some (.tup ((m :: mr).map V.int)) ∧ H' t = some (.tup ([E2 - 1, E2, 0 - E2, 0 - E2 - 1, 0, E2 - 1 - w9, E2 + w10].map V.int)))
            ⟨none, none, rfl, hg10, upd_same⟩ (fun i σ H' _ ⟨_, _, _, _, e⟩ => SqT.of e) ?_ ?_⟩
          · rintro i x σ H' hx ⟨v11, v12, rfl, hg', ht⟩
            obtain ⟨n, rfl, _⟩ := map_int_at hx
            refine ⟨_, rfl, _, rfl, g, m, mr, n, rfl, hg', hl4, hok, fun H'' s'' => ?_⟩
            rw [hE]
            refine ⟨_, rfl, _, _, _, _, true, rfl, ClsV.ty "bool", TyX.base (TyOf.bl _), kit_ty (by decide +kernel), _, rfl, iteF ?_⟩
            refine ⟨_, rfl, _, rfl, _, rfl, _, _, rfl, rfl, _, rfl, ite2 (fun e => ?_) (fun e => ?_)⟩
            · have e := of_decide_eq_true e
              refine ⟨_, rfl, _, rfl, _, _, rfl, rfl, _, _, rfl, rfl, rfl, _, rfl, iteNS (congrArg V.bl (decide_eq_decide.mpr ⟨fun z => by omega, fun z => by omega⟩)) ?_⟩
              exact ⟨_, _, rfl, s'' _ _ hg', s'' _ _ ht⟩
            · have e : ¬ n < E2 := fun w => e (decide_eq_true w)
              refine ⟨rfl, _, rfl, iteNS (congrArg V.bl (decide_eq_false fun z => e z.2)) ?_⟩
              exact ⟨_, _, rfl, s'' _ _ hg', s'' _ _ ht⟩
          · rintro σ H' ⟨v11, v12, rfl, _, _⟩
            exact q _
end
/-! ### what the top has written, the head -/
theorem all_mk {l : PySem.W.OpenLaw} {w : World} {K : PySem.W.Frag} {h : Heap} {mg : Str → Option Value} {fa f1 f2 f3 f4 f5 f6 f7 z1 cT cB u1 u2 u3 u4 u5 : Addr} (X : K.In h) (G : h.Ns mainGlobals mg) (hfa : mg "law" = some (.ref fa))
    {od1 an1 od2 an2 od3 an3 od4 an4 od5 an5 od6 an6 od7 an7 : Option Addr} {sl1 sl2 sl3 sl4 sl5 sl6 sl7 : Array (Option Value)} {oc1 kV1 dc1 pm1 cd1 ct1 oc2 kV2 dc2 pm2 cd2 ct2 oc3 kV3 dc3 pm3 cd3 ct3 oc4 kV4 dc4 pm4 cd4 ct4 oc5 kV5 dc5 pm5 cd5 ct5 oc6 kV6 dc6 pm6 cd6 ct6 oc7 kV7 dc7 pm7 cd7 ct7 : Value}
    {odB : Option Addr} {itsB : Array Value} {nB : Nat} {slB : Array (Option Value)} {odb1 : Option Addr} {itb1 : Array Value} {nb1 : Nat} {slb1 : Array (Option Value)} {odb2 : Option Addr} {itb2 : Array Value} {nb2 : Nat} {slb2 : Array (Option Value)} {odb3 : Option Addr} {itb3 : Array Value} {nb3 : Nat} {slb3 : Array (Option Value)} {odb4 : Option Addr} {itb4 : Array Value} {nb4 : Nat} {slb4 : Array (Option Value)} {odb5 : Option Addr} {itb5 : Array Value} {nb5 : Nat} {slb5 : Array (Option Value)}
    (a1 : PySem.W.nsIn K mainGlobals "check_machine" = some (some (.ref f1))) (l1 : K.lookup f1 = some ⟨oc1, od1, .func (PySem.W.fnOf "check_machine" "check_machine" (defArgs sCheck) (defBody sCheck) (defScope sCheck) .none kV1 dc1 pm1 an1 cd1 ct1), sl1⟩) (c1 : PySem.W.codeIn K cd1 "check_machine" = true) (k1 : PySem.W.keepIn K (.ref f1) = true)
    (a2 : PySem.W.nsIn K mainGlobals "fits" = some (some (.ref f2))) (l2 : K.lookup f2 = some ⟨oc2, od2, .func (PySem.W.fnOf "fits" "fits" (defArgs sFits) (defBody sFits) (defScope sFits) .none kV2 dc2 pm2 an2 cd2 ct2), sl2⟩) (c2 : PySem.W.codeIn K cd2 "fits" = true) (k2 : PySem.W.keepIn K (.ref f2) = true)
    (a3 : PySem.W.nsIn K mainGlobals "word_bounds" = some (some (.ref f3))) (l3 : K.lookup f3 = some ⟨oc3, od3, .func (PySem.W.fnOf "word_bounds" "word_bounds" (defArgs sWB) (defBody sWB) (defScope sWB) .none kV3 dc3 pm3 an3 cd3 ct3), sl3⟩) (c3 : PySem.W.codeIn K cd3 "word_bounds" = true) (k3 : PySem.W.keepIn K (.ref f3) = true)
    (a4 : PySem.W.nsIn K mainGlobals "_law_begin" = some (some (.ref f4))) (l4 : K.lookup f4 = some ⟨oc4, od4, .func (PySem.W.fnOf "_law_begin" "_law_begin" (defArgs sBegin) (defBody sBegin) (defScope sBegin) .none kV4 dc4 pm4 an4 cd4 ct4), sl4⟩) (c4 : PySem.W.codeIn K cd4 "_law_begin" = true) (k4 : PySem.W.keepIn K (.ref f4) = true)
    (a5 : PySem.W.nsIn K mainGlobals "_law_take" = some (some (.ref f5))) (l5 : K.lookup f5 = some ⟨oc5, od5, .func (PySem.W.fnOf "_law_take" "_law_take" (defArgs sTake) (defBody sTake) (defScope sTake) .none kV5 dc5 pm5 an5 cd5 ct5), sl5⟩) (c5 : PySem.W.codeIn K cd5 "_law_take" = true) (k5 : PySem.W.keepIn K (.ref f5) = true)
    (a6 : PySem.W.nsIn K mainGlobals "_law_told" = some (some (.ref f6))) (l6 : K.lookup f6 = some ⟨oc6, od6, .func (PySem.W.fnOf "_law_told" "_law_told" (defArgs sTold) (defBody sTold) (defScope sTold) .none kV6 dc6 pm6 an6 cd6 ct6), sl6⟩) (c6 : PySem.W.codeIn K cd6 "_law_told" = true) (k6 : PySem.W.keepIn K (.ref f6) = true)
    (a7 : PySem.W.nsIn K mainGlobals "law" = some (some (.ref f7))) (l7 : K.lookup f7 = some ⟨oc7, od7, .func (PySem.W.fnOf "law" "law" (defArgs sLaw) (defBody sLaw) (defScope sLaw) .none kV7 dc7 pm7 an7 cd7 ct7), sl7⟩) (c7 : PySem.W.codeIn K cd7 "law" = true) (k7 : PySem.W.keepIn K (.ref f7) = true)
    (aEz1 : PySem.W.nsIn K mainGlobals "MachineError" = some (some (.ref z1)))
    (kEz1 : PySem.W.keepIn K (.ref z1) = true)
    (bEz1 : PySem.W.subIn K (.ref z1) (.type "BaseException") = some true)
    (tEz1 : PySem.W.typeIn K (.ref z1) = some (.type "type"))
    (hEz1 : PySem.W.hasDictIn K z1 = true)
    (aEcT : PySem.W.nsIn K mainGlobals "TensorError" = some (some (.ref cT)))
    (kEcT : PySem.W.keepIn K (.ref cT) = true)
    (bEcT : PySem.W.subIn K (.ref cT) (.type "BaseException") = some true)
    (tEcT : PySem.W.typeIn K (.ref cT) = some (.type "type"))
    (hEcT : PySem.W.hasDictIn K cT = true)
    (xz1 : PySem.W.excIn K z1 valErr "ValueError.__new__" = true)
    (sTz1 : PySem.W.subIn K (.ref z1) (.ref cT) = some true)
    (i1z1 : PySem.W.findIn K (.ref z1) "__getattribute__" = some (some (.builtin "BaseException.__getattribute__")))
    (i2z1 : PySem.W.findIn K (.ref z1) "__getattr__" = some none)
    (i3z1 : PySem.W.findIn K (.ref z1) "__class__" = some (some (.builtin "object.__class__")))
    (i6z1 : PySem.W.mroIn K z1 (.type "object") = some true)
    (sz1z1 : PySem.W.subIn K (.ref z1) (.ref z1) = some true)
    (i4 : PySem.W.specialIn K (.builtin "object.__class__") "__get__" = some (some (.builtin "getset_descriptor.__get__")))
    (i5 : PySem.W.takesIn K (.builtin "object.__class__") = some true)
    (aB : PySem.W.nsIn K mainGlobals "_BOUNDS" = some (some (.ref cB)))
    (lB : K.lookup cB = some ⟨.type "tuple", odB, .seq itsB nB, slB⟩)
    (vB : Vals ([u1, u2, u3, u4, u5].map V.ref) itsB.toList)
    (zB : itsB.size ≤ sizeLine)
    (lb1 : K.lookup u1 = some ⟨.type "tuple", odb1, .seq itb1 nb1, slb1⟩)
    (vb1 : Vals [.str (rows.getD 0 ("", 0, 0)).1, .int (rows.getD 0 ("", 0, 0)).2.1, .int (rows.getD 0 ("", 0, 0)).2.2] itb1.toList)
    (zb1 : itb1.size ≤ sizeLine)
    (lb2 : K.lookup u2 = some ⟨.type "tuple", odb2, .seq itb2 nb2, slb2⟩)
    (vb2 : Vals [.str (rows.getD 1 ("", 0, 0)).1, .int (rows.getD 1 ("", 0, 0)).2.1, .int (rows.getD 1 ("", 0, 0)).2.2] itb2.toList)
    (zb2 : itb2.size ≤ sizeLine)
    (lb3 : K.lookup u3 = some ⟨.type "tuple", odb3, .seq itb3 nb3, slb3⟩)
    (vb3 : Vals [.str (rows.getD 2 ("", 0, 0)).1, .int (rows.getD 2 ("", 0, 0)).2.1, .int (rows.getD 2 ("", 0, 0)).2.2] itb3.toList)
    (zb3 : itb3.size ≤ sizeLine)
    (lb4 : K.lookup u4 = some ⟨.type "tuple", odb4, .seq itb4 nb4, slb4⟩)
    (vb4 : Vals [.str (rows.getD 3 ("", 0, 0)).1, .int (rows.getD 3 ("", 0, 0)).2.1, .int (rows.getD 3 ("", 0, 0)).2.2] itb4.toList)
    (zb4 : itb4.size ≤ sizeLine)
    (lb5 : K.lookup u5 = some ⟨.type "tuple", odb5, .seq itb5 nb5, slb5⟩)
    (vb5 : Vals [.str (rows.getD 4 ("", 0, 0)).1, .int (rows.getD 4 ("", 0, 0)).2.1, .int (rows.getD 4 ("", 0, 0)).2.2] itb5.toList)
    (zb5 : itb5.size ≤ sizeLine)
    (z_int : PySem.W.nsIn K mainGlobals "int" = some none)
    (z_abs : PySem.W.nsIn K mainGlobals "abs" = some none)
    (z_len : PySem.W.nsIn K mainGlobals "len" = some none)
    (z_list : PySem.W.nsIn K mainGlobals "list" = some none)
    (z_zip : PySem.W.nsIn K mainGlobals "zip" = some none)
    (z_range : PySem.W.nsIn K mainGlobals "range" = some none)
    (z_tuple : PySem.W.nsIn K mainGlobals "tuple" = some none)
    (z_isinstance : PySem.W.nsIn K mainGlobals "isinstance" = some none)
    (z_bool : PySem.W.nsIn K mainGlobals "bool" = some none)
    : ∃ fd : FuncData, (∀ (s : Shared) (v : Value), BindsTo s fd ⟨[v], []⟩ [("script", v)]) ∧ ∀ base : Heap, K.In base → base.Ns mainGlobals mg → FnOk l.prog w K mg base CX0 3 fa fd ["script"] (spLaw K) := by
  have e := hfa.symm.trans (PySem.W.mg_of X G a7)
  cases e
  have F1 := fun_mk (st := sCheck) l1 c1 k1
  have m1 := PySem.W.mg_of X G a1
  have b1 := F1.binds (ps := ["machine"]) fun _ _ _ _ _ _ us hl => match us, hl with | [_], _ => rfl
  have F2 := fun_mk (st := sFits) l2 c2 k2
  have m2 := PySem.W.mg_of X G a2
  have b2 := F2.binds (ps := ["machine", "n"]) fun _ _ _ _ _ _ us hl => match us, hl with | [_, _], _ => rfl
  have F3 := fun_mk (st := sWB) l3 c3 k3
  have m3 := PySem.W.mg_of X G a3
  have b3 := F3.binds (ps := ["machine"]) fun _ _ _ _ _ _ us hl => match us, hl with | [_], _ => rfl
  have F4 := fun_mk (st := sBegin) l4 c4 k4
  have m4 := PySem.W.mg_of X G a4
  have b4 := F4.binds (ps := ["script"]) fun _ _ _ _ _ _ us hl => match us, hl with | [_], _ => rfl
  have F5 := fun_mk (st := sTake) l5 c5 k5
  have m5 := PySem.W.mg_of X G a5
  have b5 := F5.binds (ps := ["d", "many"]) fun _ _ _ _ _ _ us hl => match us, hl with | [_, _], _ => rfl
  have F6 := fun_mk (st := sTold) l6 c6 k6
  have m6 := PySem.W.mg_of X G a6
  have b6 := F6.binds (ps := ["machine"]) fun _ _ _ _ _ _ us hl => match us, hl with | [_], _ => rfl
  have F7 := fun_mk (st := sLaw) l7 c7 k7
  have m7 := PySem.W.mg_of X G a7
  have n_int := PySem.W.mg_none_of X G z_int
  have n_abs := PySem.W.mg_none_of X G z_abs
  have n_len := PySem.W.mg_none_of X G z_len
  have n_list := PySem.W.mg_none_of X G z_list
  have n_zip := PySem.W.mg_none_of X G z_zip
  have n_range := PySem.W.mg_none_of X G z_range
  have n_tuple := PySem.W.mg_none_of X G z_tuple
  have n_isinstance := PySem.W.mg_none_of X G z_isinstance
  have n_bool := PySem.W.mg_none_of X G z_bool
  have TD : TxtD mg := ⟨n_int, n_abs, n_len, n_list⟩
  have T : Txt mg := ⟨TD, n_range, n_tuple, n_isinstance, n_bool⟩
  have RM : TxtM K mg cB [u1, u2, u3, u4, u5] z1 := ⟨⟨PySem.W.mg_of X G aEz1, xz1, kEz1, bEz1, tEz1⟩, n_zip, PySem.W.mg_of X G aB, fun H => .inr ⟨_, itsB, nB, lB, rfl, rfl, zB, vB⟩, rfl, fun i b r h1 h2 H => by
    match i with
    | 0 => cases h1; cases h2; exact .inr ⟨_, itb1, nb1, lb1, rfl, rfl, zb1, vb1⟩
    | 1 => cases h1; cases h2; exact .inr ⟨_, itb2, nb2, lb2, rfl, rfl, zb2, vb2⟩
    | 2 => cases h1; cases h2; exact .inr ⟨_, itb3, nb3, lb3, rfl, rfl, zb3, vb3⟩
    | 3 => cases h1; cases h2; exact .inr ⟨_, itb4, nb4, lb4, rfl, rfl, zb4, vb4⟩
    | 4 => cases h1; cases h2; exact .inr ⟨_, itb5, nb5, lb5, rfl, rfl, zb5, vb5⟩
    | _ + 5 => cases h2⟩
  have ET : TxtE K mg z1 cT := ⟨⟨PySem.W.mg_of X G aEcT, bEcT, hEcT, tEcT⟩, PySem.W.mg_of X G aEz1, n_isinstance, sTz1, ⟨i1z1, i2z1, bEz1, hEz1, i3z1, i4, i5, i6z1⟩, kit_rr sz1z1 sz1z1 hEz1 tEz1⟩
  refine ⟨PySem.W.fnOf "law" "law" (defArgs sLaw) (defBody sLaw) (defScope sLaw) .none kV7 dc7 pm7 an7 cd7 ct7, fun s v => .of_eq rfl, fun base _ _ => ?_⟩
  have gC : FnOk l.prog w K mg base (L2.CX l.prog w) 1 _ _ ["machine"] (spCheck K z1) := ok_check F1 RM
  have cC : Calls l.prog w K mg base (L2.CX l.prog w) 1 "check_machine" ["machine"] (spCheck K z1) := ⟨_, _, gC, k1, b1, m1⟩
  have gWb : FnOk l.prog w K mg base CX0 1 _ _ ["machine"] spWB := ok_wb F3
  have cWb : Calls l.prog w K mg base CX0 1 "word_bounds" ["machine"] spWB := ⟨_, _, gWb, k3, b3, m3⟩
  have gFi : FnOk l.prog w K mg base CX0 2 _ _ ["machine", "n"] (spFits K) := ok_fits F2 cC cWb
  have cFi : Calls l.prog w K mg base CX0 2 "fits" ["machine", "n"] (spFits K) := ⟨_, _, gFi, k2, b2, m2⟩
  have gB : FnOk l.prog w K mg base CX0 1 _ _ ["script"] (spBegin K) := ok_begin F4 TD
  have cB : Calls l.prog w K mg base CX0 1 "_law_begin" ["script"] (spBegin K) := ⟨_, _, gB, k4, b4, m4⟩
  have gT : FnOk l.prog w K mg base CX0 1 _ _ ["d", "many"] spTake := ok_take F5 TD
  have cT : Calls l.prog w K mg base CX0 1 "_law_take" ["d", "many"] spTake := ⟨_, _, gT, k5, b5, m5⟩
  have gTo : FnOk l.prog w K mg base CX0 2 _ _ ["machine"] (spTold K) := ok_told F6 ET cC
  have cTo : Calls l.prog w K mg base CX0 2 "_law_told" ["machine"] (spTold K) := ⟨_, _, gTo, k6, b6, m6⟩
  exact ok_law F7 T cB cT cTo cFi
end My
open PySem PySem.W PyProof.Rows
set_option maxRecDepth 100000 in
set_option maxHeartbeats 0 in
theorem PySem.Challenge.cw_tensorcompiler_k45_machines_and_words_holds : PySem.Challenge.rw_tensorcompiler_k45_machines_and_words.Holds := by
  w_on; o_law; k_head; (case hw => w_witness2)
  k_fill
  refine L2.walk_of (l := PySem.Challenge.rw_tensorcompiler_k45_machines_and_words) (n := 63) (k := 3) (x := "script") (CX := fun _ => L2.CX0) (sp := fun w => My.spLaw _) rfl (by decide) rfl ⟨rfl, by decide, by decide⟩ (fun w h Y => PySem.W.kIn_of Y) ?F (fun _ _ a ns hl _ hS => ⟨a, ns, rfl, hS, hl, fun _ => rfl⟩) (fun _ _ _ _ _ h => h)
  case F =>
    intro w mg fa h KX G hmg
    refine' My.all_mk KX G hmg ?a1 ?l1 ?c1 ?k1 ?a2 ?l2 ?c2 ?k2 ?a3 ?l3 ?c3 ?k3 ?a4 ?l4 ?c4 ?k4 ?a5 ?l5 ?c5 ?k5 ?a6 ?l6 ?c6 ?k6 ?a7 ?l7 ?c7 ?k7 ?aEz1 ?kEz1 ?bEz1 ?tEz1 ?hEz1 ?aEcT ?kEcT ?bEcT ?tEcT ?hEcT ?xz1 ?sTz1 ?i1z1 ?i2z1 ?i3z1 ?i6z1 ?sz1z1 ?i4 ?i5 ?aB ?lB ?vB ?zB ?lb1 ?vb1 ?zb1 ?lb2 ?vb2 ?zb2 ?lb3 ?vb3 ?zb3 ?lb4 ?vb4 ?zb4 ?lb5 ?vb5 ?zb5 ?z_int ?z_abs ?z_len ?z_list ?z_zip ?z_range ?z_tuple ?z_isinstance ?z_bool
    (case a1 => k_is); (case l1 => k_is); (case c1 => k_is); (case k1 => k_is); (case a2 => k_is); (case l2 => k_is); (case c2 => k_is); (case k2 => k_is); (case a3 => k_is); (case l3 => k_is); (case c3 => k_is); (case k3 => k_is); (case a4 => k_is); (case l4 => k_is); (case c4 => k_is); (case k4 => k_is); (case a5 => k_is); (case l5 => k_is); (case c5 => k_is); (case k5 => k_is); (case a6 => k_is); (case l6 => k_is); (case c6 => k_is); (case k6 => k_is); (case a7 => k_is); (case l7 => k_is); (case c7 => k_is); (case k7 => k_is); (case aEz1 => k_is); (case kEz1 => k_is); (case bEz1 => k_is); (case tEz1 => k_is); (case hEz1 => k_is); (case aEcT => k_is); (case kEcT => k_is); (case bEcT => k_is); (case tEcT => k_is); (case hEcT => k_is); (case xz1 => k_exc); (case sTz1 => k_is); (case i1z1 => k_is); (case i2z1 => k_is); (case i3z1 => k_is); (case i6z1 => k_is); (case sz1z1 => first | rfl | k_is); (case i4 => k_is); (case i5 => k_is); (case aB => k_is); (case lB => k_is); (case vB => repeat (first | exact .nil | refine .cons rfl ?_)); (case zB => decide); (case lb1 => k_is); (case vb1 => repeat (first | exact .nil | refine .cons ⟨_, rfl⟩ ?_)); (case zb1 => decide); (case lb2 => k_is); (case vb2 => repeat (first | exact .nil | refine .cons ⟨_, rfl⟩ ?_)); (case zb2 => decide); (case lb3 => k_is); (case vb3 => repeat (first | exact .nil | refine .cons ⟨_, rfl⟩ ?_)); (case zb3 => decide); (case lb4 => k_is); (case vb4 => repeat (first | exact .nil | refine .cons ⟨_, rfl⟩ ?_)); (case zb4 => decide); (case lb5 => k_is); (case vb5 => repeat (first | exact .nil | refine .cons ⟨_, rfl⟩ ?_)); (case zb5 => decide); (case z_int => k_is); (case z_abs => k_is); (case z_len => k_is); (case z_list => k_is); (case z_zip => k_is); (case z_range => k_is); (case z_tuple => k_is); (case z_isinstance => k_is); (case z_bool => k_is)
