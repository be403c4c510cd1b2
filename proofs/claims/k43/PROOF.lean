import PyProof.Rows.All
import Wide.All
import OpenK.AllK
import Wide.FinOn
import HandS.ForMost
import HandS.Wide
import HandS.Evl
import HandS.Exc
import HandS.ExcOwn
import HandS.TryOnly
import HandS.WordsExc
import HandS.ExcIs
import HandS.IsInst
import HandS.RaiseMore
import HandS.FStr
import HandS.Zip
import HandS.SortKw
import HandS.Wide
import HandS.Walk
import HandS.Strs
import KE.GoesMore
import PyProof.EnumMake
import KE.DataMinMax
import PyProof.Rows.SetFrom
import PyProof.AutoSeq1
import PySem.Challenge.RW_tensorcompiler_k43_places_are_checked
set_option Elab.async false
set_option linter.all false
set_option maxRecDepth 100000
set_option maxHeartbeats 4000000
namespace My
open PySem L2
/-! ### the text -/
def topS (i : Nat) : Stmt := PySem.Challenge.pw_tensorcompiler_k43_places_are_checked.main.body.getD i (.Pass ⟨0, 0, 0, 0⟩)
abbrev sMeet : Stmt := topS 4
abbrev sCheck : Stmt := topS 6
abbrev sPeak : Stmt := topS 7
abbrev sWords : Stmt := topS 8
abbrev sBegin : Stmt := topS 10
abbrev sTake : Stmt := topS 11
abbrev sInt : Stmt := topS 12
abbrev sTold : Stmt := topS 13
abbrev sDue : Stmt := topS 14
abbrev sLaw : Stmt := topS 15
structure Calls (P : Program) (w : World) (K : PySem.W.Frag) (mg : Str → Option Value) (base : Heap) (CX : CXT) (k : Nat) (name : Str) (ps : List Str) (sp : Sp) : Prop where
  ex : ∃ (f : Addr) (fd : FuncData), FnOk P w K mg base CX k f fd ps sp ∧ PySem.W.keepIn K (.ref f) = true ∧ Binds K fd ps [] ∧ mg name = some (.ref f)
/-! ### own errors -/
abbrev valErr : List Value := [.type "ValueError", .type "Exception", .type "BaseException", .type "object"]
/-- what the written part says of an error class that is raised -/
structure ErrR (K : PySem.W.Frag) (mg : Str → Option Value) (n : Str) (C : Addr) : Prop where
  g : mg n = some (.ref C)
  x : PySem.W.excIn K C valErr "ValueError.__new__" = true
  k : PySem.W.keepIn K (.ref C) = true
  b : PySem.W.subIn K (.ref C) (.type "BaseException") = some true
  t : PySem.W.typeIn K (.ref C) = some (.type "type")
/-- of one that an except clause names -/
structure ErrN (K : PySem.W.Frag) (mg : Str → Option Value) (n : Str) (C : Addr) : Prop where
  g : mg n = some (.ref C)
  b : PySem.W.subIn K (.ref C) (.type "BaseException") = some true
  h : PySem.W.hasDictIn K C = true
  t : PySem.W.typeIn K (.ref C) = some (.type "type")
theorem ErrN.ex {K : PySem.W.Frag} {mg : Str → Option Value} {n : Str} {C : Addr} (e : ErrN K mg n C) {cls : Value} {r : Bool} (s : PySem.W.subIn K cls (.ref C) = some r) : PySem.W.exmOne K cls (.ref C) = some r := PySem.W.exm_ref e.b e.h e.t s
theorem pss_if {X : Cx} {sts : List Stmt} {t : TS} {P : Prop} (h : P → PSs X sts t) : PSs X sts (fun D σ H => P ∧ t D σ H) := ⟨fun pins s σ H D I hh => (h hh.1).run pins s σ H D I hh.2⟩
theorem kit_rr {K : PySem.W.Frag} {Z C : Addr} {r : Bool} (s : PySem.W.subIn K (.ref Z) (.ref C) = some r) (z : PySem.W.subIn K (.ref Z) (.ref Z) = some true) (h : PySem.W.hasDictIn K C = true) (t : PySem.W.typeIn K (.ref C) = some (.type "type")) : PySem.W.kitOne K (.ref Z) (.ref C) = some r := by
  have hc : (PySem.W.clsIn K C).isSome = true := by
    unfold PySem.W.hasDictIn at h
    cases e : PySem.W.clsIn K C with
    | none => rw [e] at h; cases h
    | some _ => rfl
  have e2 : ((PySem.W.clsIn K C).isSome && PySem.W.typeIn K (.ref C) == some (.type "type")) = true := by rw [hc, t] <;> rfl
  show (if (Value.ref Z == Value.ref C) = true then some true else (if ((PySem.W.clsIn K C).isSome && PySem.W.typeIn K (.ref C) == some (.type "type")) = true then PySem.W.subIn K (.ref Z) (.ref C) else none)) = some r
  by_cases g : (Value.ref Z == Value.ref C) = true
  · rw [if_pos g]
    have e : Value.ref Z = Value.ref C := beq_iff_eq.mp g
    rw [← e, z] at s
    exact s
  · rw [if_neg g, if_pos e2]
    exact s
theorem kit_rt {K : PySem.W.Frag} {Z : Addr} {T : String} {r : Bool} (s : PySem.W.subIn K (.ref Z) (.type T) = some r) (m : PySem.W.kitMeta T = true) : PySem.W.kitOne K (.ref Z) (.type T) = some r := by
  have g : (Value.ref Z == Value.type T) = false := rfl
  show (if (Value.ref Z == Value.type T) = true then some true else (if PySem.W.kitMeta T = true then PySem.W.subIn K (.ref Z) (.type T) else none)) = some r
  rw [g, if_neg Bool.false_ne_true, if_pos m]
  exact s
/-- the suite of an except clause, by what is known when it is reached -/
def tSu (X : Cx) (sts : List Stmt) : Addr → Value → Option Addr → TS := fun a cls d D σ H => ∀ (oe : Obj) (pn : List (Addr × Obj)), Zc cls d oe → (∃ vs, oe.data = .fields vs) → ∃ t, PSs (X.suite a ((a, oe) :: pn)) sts t ∧ t D σ H
theorem su_ok {X : Cx} {sts : List Stmt} {a : Addr} {cls : Value} {d : Option Addr} {oe : Obj} {pn : List (Addr × Obj)} (hz : Zc cls d oe) (hf : ∃ vs, oe.data = .fields vs) : PSs (X.suite a ((a, oe) :: pn)) sts (tSu X sts a cls d) :=
  ⟨fun pins s σ H D I h => by
    obtain ⟨t, p, q⟩ := h oe pn hz hf
    exact p.run pins s σ H D I q⟩
/-! ### drawing -/
/-- all but one place stands as it was -/
def But (d : Addr) (H H' : Hp) : Prop := ∀ b, b ≠ d → H' b = H b
theorem But.refl (d : Addr) (H : Hp) : But d H H := fun _ _ => rfl
theorem But.trans {d : Addr} {H H1 H2 : Hp} (a : But d H H1) (b : But d H1 H2) : But d H H2 := fun c h => (b c h).trans (a c h)
theorem But.upd {d : Addr} {H : Hp} {o : HO} : But d H (upd H d o) := fun _ h => upd_ne h
/-- the drawing state -/
def DrAt (H : Hp) (d c : Addr) : Prop := ∃ (ns : List Int) (i : Nat) (r s : Int), c ≠ d ∧ H d = some (.lst [.ref c, .int i, .int r, .int s]) ∧ H c = some (.lst (ns.map V.int)) ∧ i ≤ ns.length ∧ 0 ≤ r ∧ 0 ≤ s ∧ s < 2147483647
theorem DrAt.same {H H' : Hp} {d c : Addr} (h : DrAt H d c) (s : Same H H') : DrAt H' d c := by
  obtain ⟨ns, i, r, sd, n, h1, h2, h3⟩ := h
  exact ⟨ns, i, r, sd, n, s _ _ h1, s _ _ h2, h3⟩
theorem DrAt.lst {H : Hp} {d c : Addr} (h : DrAt H d c) : ∃ xs, H d = some (.lst xs) := by
  obtain ⟨ns, i, r, sd, n, h1, _⟩ := h
  exact ⟨_, h1⟩
theorem DrAt.lstc {H : Hp} {d c : Addr} (h : DrAt H d c) : ∃ xs, H c = some (.lst xs) := by
  obtain ⟨ns, i, r, sd, n, _, h1, _⟩ := h
  exact ⟨_, h1⟩
/-- another list may be changed -/
theorem DrAt.upd {H : Hp} {d c p : Addr} (h : DrAt H d c) (o : HO) (nd : p ≠ d) (nc : p ≠ c) : DrAt (upd H p o) d c := by
  obtain ⟨ns, i, r, sd, n, h1, h2, h3⟩ := h
  exact ⟨ns, i, r, sd, n, by rw [upd_ne nd.symm]; exact h1, by rw [upd_ne nc.symm]; exact h2, h3⟩
/-- what is no list is kept by a draw -/
theorem But.tup {d c b : Addr} {H H' : Hp} {xs : List V} (k : But d H H') (h : DrAt H d c) (hb : H b = some (.tup xs)) : H' b = some (.tup xs) := by
  obtain ⟨ys, hd⟩ := h.lst
  rw [k b (ne_of hb hd (fun z => nomatch z))]
  exact hb
def Bnd (m : Int) : Prop := m < 2 ^ 400
structure TxtD (mg : Str → Option Value) : Prop where
  int : mg "int" = none
  abs : mg "abs" = none
  len : mg "len" = none
  list : mg "list" = none
section
variable {P : Program} {w : World} {K : PySem.W.Frag} {mg : Str → Option Value} {base : Heap}
def spBegin (K : PySem.W.Frag) : Sp := fun vs H Q _ => ∃ (a : Addr) (ns : List Int), vs = [.ref a] ∧ SqL K H a (ns.map V.int) ∧ ns.length ≤ 63 ∧
  ∀ H' d c, Same H H' → H d = none → H c = none → DrAt H' d c → Q (.ref d) H'
theorem scB : FnScope ["script", "seed", "cell"] ["script"] (defScope sBegin) := ⟨rfl, rfl, rfl, by decide +kernel, rfl, by decide +kernel, by decide +kernel⟩
theorem ok_begin {f : Addr} {fd : FuncData} (F : Fun K "_law_begin" "_law_begin" sBegin f fd) (T : TxtD mg) : FnOk P w K mg base CX0 1 f fd ["script"] (spBegin K) := by
  refine F.ok scB (fun vs H Q E h => ?_) (fun cdv A outer s H vs Q E hr h => ?_)
  · obtain ⟨a, ns, rfl, _⟩ := h
    rfl
  · obtain ⟨a, ns, rfl, hS, hlen, q⟩ := h
    refine ⟨_, pss_cons (ps_set (i := 1) scB.nd rfl (.inl rfl) pe_int)
      (pss_cons (ps_for PassesOwn.never rfl (pi_list (pv 0)) (pg_name (i := 2) scB.nd rfl (.inl rfl))
        (pss_one (ps_set (i := 1) scB.nd rfl (.inl rfl)
          (pe_op op_mod (pe_op op_add (pe_op op_add (pe_op op_mul (pv 1) pe_int) (pe_op op_mod (pe_callTy call_int1 (by rfl) T.int (by decide +kernel) (pa_cons (pv 2) pa_nil)) pe_int)) pe_int) pe_int))))
      (pss_one (ps_ret (pe_lst (pa_cons (pe_callTy call_list_of (by rfl) T.list (by decide +kernel) (pa_cons (pv 0) pa_nil)) (pa_cons pe_int (pa_cons pe_int (pa_cons (pv 1) pa_nil)))))))), ?_⟩
    refine ⟨_, rfl, a, rfl, ⟨_, hS⟩, for_list (K := K) (a := a) (xs := ns.map V.int) (fun i σ H' => ∃ (z : Int) (v : Option V), σ = [some (.ref a), some (.int z), v] ∧ H' = H ∧ 0 ≤ z ∧ z < 2147483647)
      ⟨1, none, rfl, rfl, by decide, by decide⟩ (fun i σ H' _ ⟨_, _, _, e, _⟩ => by rw [e]; exact hS) ?_ ?_⟩
    · rintro i x σ H' hi ⟨z, v, rfl, rfl, h0, h1⟩
      obtain ⟨u, rfl⟩ : ∃ u, x = V.int u := by
        rw [List.getElem?_map] at hi
        cases e : ns[i]? with
        | none => rw [e] at hi; cases hi
        | some u => rw [e] at hi; exact ⟨u, (Option.some.inj hi).symm⟩
      refine ⟨_, rfl, _, _, rfl, rfl, .inl ⟨by omega, by omega⟩, _, rfl, .inl ⟨_, rfl, _, _, rfl, rfl, (by show (0 : Int) < 2147483629; decide), _, _, rfl, rfl, _, _, rfl, rfl, _, _, rfl, rfl, (by show (0 : Int) < 2147483647; decide), ?_⟩⟩
      exact ⟨_, _, rfl, rfl, Int.emod_nonneg _ (by decide), Int.emod_lt_of_pos _ (by decide)⟩
    · rintro σ H' ⟨z, v, rfl, rfl, h0, h1⟩
      refine ⟨_, rfl, a, _, rfl, .inl hS, fun c nc => ⟨_, rfl, by show 4 ≤ sizeLine; decide, fun d nd => ?_⟩⟩
      have ndc : d ≠ c := fun e => by
        rw [e, upd_same] at nd
        cases nd
      have nd0 : H' d = none := by
        rw [upd_ne ndc] at nd
        exact nd
      refine q _ d c (fun b o e => ?_) nd0 nc ⟨ns, 0, 0, z, ndc.symm, upd_same, ?_, Nat.zero_le _, by decide, h0, h1⟩
      · rw [upd_ne (ne_of_none e nd0), upd_ne (ne_of_none e nc)]
        exact e
      · rw [upd_ne ndc.symm, upd_same]
def spTake : Sp := fun vs H Q _ => ∃ (d c : Addr) (m : Int), vs = [.ref d, .int m] ∧ DrAt H d c ∧ 0 < m ∧ Bnd m ∧
  ∀ H' v, But d H H' → DrAt H' d c → 0 ≤ v → v < m → Q (.int v) H'
theorem scT : FnScope ["d", "many", "small", "digit"] ["d", "many"] (defScope sTake) := ⟨rfl, rfl, rfl, by decide +kernel, rfl, by decide +kernel, by decide +kernel⟩
theorem at0 {a b c e : V} : atI [a, b, c, e] (0 : Int) = some a := rfl
theorem at1 {a b c e : V} : atI [a, b, c, e] (1 : Int) = some b := rfl
theorem at2 {a b c e : V} : atI [a, b, c, e] (2 : Int) = some c := rfl
theorem at3 {a b c e : V} : atI [a, b, c, e] (3 : Int) = some e := rfl
theorem bnd_nat {m : Int} (h0 : 0 < m) (h : Bnd m) : m.natAbs < 2 ^ 400 := by
  have e : ((2 ^ 400 : Nat) : Int) = 2 ^ 400 := by decide +kernel
  unfold Bnd at h
  generalize (2 ^ 400 : Nat) = B at *
  omega
theorem bndW {r m : Int} (h0 : 0 < m) (h : Bnd m) : CDivW r m := wide_div (b := 400) h0 (bnd_nat h0 h) (by decide) (by decide)
theorem ok_take {f : Addr} {fd : FuncData} (F : Fun K "_law_take" "_law_take" sTake f fd) (T : TxtD mg) : FnOk P w K mg base CX0 1 f fd ["d", "many"] spTake := by
  refine F.ok scT (fun vs H Q E h => ?_) (fun cdv A outer s H vs Q E hr h => ?_)
  · obtain ⟨d, c, m, rfl, _⟩ := h
    rfl
  · obtain ⟨d, c, m, rfl, ⟨ns, i, r, sd, ncd, hd, hc, hi, hr0, hs0, hs1⟩, hm, hb, q⟩ := h
    refine ⟨_, Evl.pss_cut (ps_if (PW.pt (pw_and (pt_cmpR op_eq (pe_ix ix_list (pv 0) pe_int (fun _ _ => rfl)) pe_int (nomark _))
        (pw_and1 (pt_cmpR op_lt (pe_ix ix_list (pv 0) pe_int (fun _ _ => rfl)) (pe_callB call_len_seq (by rfl) T.len PySem.boot_len (pa_cons (pe_ix ix_list (pv 0) pe_int (fun _ _ => rfl)) pa_nil)) (nomark _)))))
        (pss_cons (ps_asg (pe_callB call_abs (by rfl) T.abs (by decide +kernel) (pa_cons (pe_callTy call_int1 (by rfl) T.int (by decide +kernel) (pa_cons (pe_ix ix_list (pe_ix ix_list (pv 0) pe_int (fun _ _ => rfl)) (pe_ix ix_list (pv 0) pe_int (fun _ _ => rfl)) (fun _ _ => rfl)) pa_nil)) pa_nil)) (pg_sub (pv 0) pe_int set_list))
        (pss_cons (ps_asg (pe_op op_add (pe_ix ix_list (pv 0) pe_int (fun _ _ => rfl)) pe_int) (pg_sub (pv 0) pe_int set_list))
        (pss_one (ps_if (pt_cmpR op_lt (pe_ix ix_list (pv 0) pe_int (fun _ _ => rfl)) (pe_op op_pow pe_int pe_int) (nomark _))
          (pss_cons (ps_set (i := 2) scT.nd rfl (.inl rfl) (pe_callTy call_int1 (by rfl) T.int (by decide +kernel) (pa_cons (pe_ix ix_list (pv 0) pe_int (fun _ _ => rfl)) pa_nil)))
          (pss_cons (ps_asg pe_int (pg_sub (pv 0) pe_int set_list))
          (pss_one (ps_ret (pe_op op_mod (pv 2) (pv 1))))))
          pss_nil))))
        pss_nil)
      (pss_cons (ps_if (pt_cmpR op_gt (pe_ix ix_list (pv 0) pe_int (fun _ _ => rfl)) pe_int (nomark _))
        (pss_cons (ps_set (i := 3) scT.nd rfl (.inl rfl) (pe_op op_mod (pe_callTy call_int1 (by rfl) T.int (by decide +kernel) (pa_cons (pe_ix ix_list (pv 0) pe_int (fun _ _ => rfl)) pa_nil)) (pv 1)))
        (pss_cons (ps_asg (pe_op op_fdivW (pe_callTy call_int1 (by rfl) T.int (by decide +kernel) (pa_cons (pe_ix ix_list (pv 0) pe_int (fun _ _ => rfl)) pa_nil)) (pv 1)) (pg_sub (pv 0) pe_int set_list))
        (pss_one (ps_ret (pv 3)))))
        pss_nil)
      (pss_cons (ps_asg (pe_op op_mod (pe_callTy call_int1 (by rfl) T.int (by decide +kernel) (pa_cons (pe_op op_add (pe_op op_mul (pe_ix ix_list (pv 0) pe_int (fun _ _ => rfl)) pe_int) pe_int) pa_nil)) pe_int) (pg_sub (pv 0) pe_int set_list))
      (pss_one (ps_ret (pe_op op_mod (pe_callTy call_int1 (by rfl) T.int (by decide +kernel) (pa_cons (pe_op op_fdiv (pe_ix ix_list (pv 0) pe_int (fun _ _ => rfl)) pe_int) pa_nil)) (pv 1)))))), ?_⟩
    refine ⟨fun σ' H' => ∃ (i r sd : Int) (x2 : Option V) (i' : Nat), σ' = [some (.ref d), some (.int m), x2, none] ∧ H' = upd H d (.lst [.ref c, .int i, .int r, .int sd]) ∧ i = i' ∧ i' ≤ ns.length ∧ 0 ≤ r ∧ 0 ≤ sd ∧ sd < 2147483647, ?_, ?_⟩
    · have same : H = upd H d (.lst [.ref c, .int i, .int r, .int sd]) := by
        funext b
        by_cases e : b = d
        · rw [e, upd_same, hd]
        · rw [upd_ne e]
      refine ⟨_, rfl, d, _, 2, _, rfl, rfl, SqL.of hd, at2, rfl, _, rfl, ite2 (fun e => ?_) (fun e => ?_)⟩
      · refine ⟨_, rfl, d, _, 1, _, rfl, rfl, SqL.of hd, at1, _, rfl, d, _, 0, _, rfl, rfl, SqL.of hd, at0, c, _, rfl, .inl (SqL.of hc), _, _, rfl, rfl, _, rfl, ite2 (fun e2 => ?_) (fun e2 => ?_)⟩
        · have hlt : i < ns.length := by
            have := of_decide_eq_true e2
            rw [List.length_map] at this
            omega
          have hx : (ns.map V.int)[i]? = some (.int ns[i]) := by
            rw [List.getElem?_map, List.getElem?_eq_getElem hlt]
            rfl
          generalize ns[i] = x at hx
          have hcd : ∀ o, (upd H d o) c = some (.lst (ns.map V.int)) := fun o => by rw [upd_ne ncd]; exact hc
          have habs : 0 ≤ (if x < 0 then -x else x) := by split <;> omega
          -- d[2] = abs(int(d[0][d[1]]))
          refine ⟨_, rfl, d, _, 0, _, rfl, rfl, SqL.of hd, at0, _, rfl, d, _, 1, _, rfl, rfl, SqL.of hd, at1, c, _, _, _, rfl, rfl, SqL.of hc, atI_nat hx, .inl ⟨x, rfl, x, rfl, _, rfl, d, _, 2, 2, rfl, rfl, hd, rfl, ?_⟩⟩
          generalize (if x < 0 then -x else x) = y at habs
          -- d[1] = d[1] + 1
          refine ⟨_, rfl, d, _, 1, _, rfl, rfl, SqL.of upd_same, at1, _, _, rfl, rfl, _, rfl, d, _, 1, 1, rfl, rfl, upd_same, rfl, ?_⟩
          rw [upd_upd]
          -- if d[2] < 10 ** 18
          refine ⟨_, rfl, d, _, 2, _, rfl, rfl, SqL.of upd_same, at2, 10, 18, rfl, rfl, ⟨by decide, by decide, by decide⟩, _, _, rfl, rfl, _, rfl, ite2 (fun e3 => ?_) (fun e3 => ?_)⟩
          · refine ⟨_, rfl, d, _, 2, _, rfl, rfl, SqL.of upd_same, at2, .inl ⟨_, rfl, _, rfl, d, _, 2, 2, rfl, rfl, upd_same, rfl, ?_⟩⟩
            rw [upd_upd]
            refine ⟨_, rfl, _, rfl, _, _, rfl, rfl, hm, ?_⟩
            exact q _ _ But.upd ⟨ns, i + 1, 0, sd, ncd, upd_same, hcd _, hlt, by decide, hs0, hs1⟩ (Int.emod_nonneg _ (by omega)) (Int.emod_lt_of_pos _ hm)
          · exact ⟨_, _, _, _, i + 1, rfl, rfl, rfl, hlt, habs, hs0, hs1⟩
        · exact ⟨_, _, _, _, i, rfl, same, rfl, hi, hr0, hs0, hs1⟩
      · exact iteF ⟨_, _, _, _, i, rfl, same, rfl, hi, hr0, hs0, hs1⟩
    · clear hd hi hr0 hs0 hs1
      rintro σ' H' ⟨i, r, sd, x2, i', rfl, rfl, rfl, hi, hr0, hs0, hs1⟩
      have hcd : ∀ o, (upd H d o) c = some (.lst (ns.map V.int)) := fun o => by rw [upd_ne ncd]; exact hc
      refine ⟨_, rfl, d, _, 2, _, rfl, rfl, SqL.of upd_same, at2, _, _, rfl, rfl, _, rfl, ite2 (fun e => ?_) (fun e => ?_)⟩
      · refine ⟨_, rfl, d, _, 2, _, rfl, rfl, SqL.of upd_same, at2, .inl ⟨_, rfl, _, rfl, _, _, rfl, rfl, hm, ?_⟩⟩
        refine ⟨_, rfl, d, _, 2, _, rfl, rfl, SqL.of upd_same, at2, .inl ⟨_, rfl, _, rfl, _, _, rfl, rfl, bndW hm hb, _, rfl, d, _, 2, 2, rfl, rfl, upd_same, rfl, ?_⟩⟩
        rw [upd_upd]
        refine ⟨_, rfl, ?_⟩
        exact q _ _ But.upd ⟨ns, i', _, sd, ncd, upd_same, hcd _, hi, Int.ediv_nonneg hr0 (by omega), hs0, hs1⟩ (Int.emod_nonneg _ (by omega)) (Int.emod_lt_of_pos _ hm)
      · refine ⟨_, rfl, d, _, 3, _, rfl, rfl, SqL.of upd_same, at3, _, _, rfl, rfl, .inl ⟨by omega, by omega⟩, _, _, rfl, rfl, .inl ⟨_, rfl, _, _, rfl, rfl, (by show (0 : Int) < 2147483647; decide), _, rfl, d, _, 3, 3, rfl, rfl, upd_same, rfl, ?_⟩⟩
        rw [upd_upd]
        refine ⟨_, rfl, d, _, 3, _, rfl, rfl, SqL.of upd_same, at3, _, _, rfl, rfl, ⟨by decide, by decide⟩, .inl ⟨_, rfl, _, rfl, _, _, rfl, rfl, hm, ?_⟩⟩
        exact q _ _ But.upd ⟨ns, i', r, _, ncd, upd_same, hcd _, hi, hr0, Int.emod_nonneg _ (by decide), Int.emod_lt_of_pos _ (by decide)⟩ (Int.emod_nonneg _ (by omega)) (Int.emod_lt_of_pos _ hm)
def spInt : Sp := fun vs H Q _ => ∃ (i : Int), vs = [.int i] ∧ Q (.bl true) H
theorem scN : FnScope ["actual"] ["actual"] (defScope sInt) := ⟨rfl, rfl, rfl, by decide +kernel, rfl, by decide +kernel, by decide +kernel⟩
theorem ok_int {f : Addr} {fd : FuncData} (F : Fun K "_law_int" "_law_int" sInt f fd) (mi : mg "isinstance" = none) (mn : mg "int" = none) (mb : mg "bool" = none) : FnOk P w K mg base CX0 1 f fd ["actual"] spInt := by
  refine F.ok scN (fun vs H Q E h => ?_) (fun cdv A outer s H vs Q E hr h => ?_)
  · obtain ⟨i, rfl, _⟩ := h
    rfl
  · obtain ⟨i, rfl, q⟩ := h
    refine ⟨_, pss_one (ps_ret (pe_and (pe_callB call_isi (by rfl) mi (by decide +kernel) (pa_cons (pv 0) (pa_cons (pe_bltn (v := .ty "int") (by rfl) mn (by decide +kernel) rfl) pa_nil)))
      (pe_one (pe_not (pe_callB call_isi (by rfl) mi (by decide +kernel) (pa_cons (pv 0) (pa_cons (pe_bltn (v := .ty "bool") (by rfl) mb (by decide +kernel) rfl) pa_nil))))))), ?_⟩
    refine ⟨_, rfl, _, _, _, _, true, rfl, ClsV.ty "int", TyX.base (TyOf.int i), kit_ty (by decide +kernel), _, rfl, iteT ?_⟩
    exact ⟨_, rfl, _, _, _, _, false, rfl, ClsV.ty "bool", TyX.base (TyOf.int i), kit_ty (by decide +kernel), _, rfl, q⟩
end
/-! ### small facts -/
theorem same_upd {H : Hp} {p : Addr} {o : HO} (h : H p = none) : Same H (upd H p o) := fun b x e => by
  rw [upd_ne (ne_of_none e h)]
  exact e
theorem sqT_same {K : PySem.W.Frag} {H H' : Hp} {a : Addr} {xs : List V} (h : SqT K H a xs) (s : Same H H') : SqT K H' a xs := by
  rcases h with (h | ⟨o, h⟩) | h
  · exact .inl (.inl (s _ _ h))
  · exact .inl (.inr ⟨o, s _ _ h⟩)
  · exact .inr h
theorem sqL_same {K : PySem.W.Frag} {H H' : Hp} {a : Addr} {xs : List V} (h : SqL K H a xs) (s : Same H H') : SqL K H' a xs := by
  rcases h with (h | ⟨o, h⟩) | h
  · exact .inl (.inl (s _ _ h))
  · exact .inl (.inr ⟨o, s _ _ h⟩)
  · exact .inr h
theorem map_int_at {ns : List Int} {i : Nat} {x : V} (h : (ns.map V.int)[i]? = some x) : ∃ n, x = .int n ∧ ns[i]? = some n := by
  rw [List.getElem?_map] at h
  cases e : ns[i]? with
  | none => rw [e] at h; cases h
  | some n => rw [e] at h; exact ⟨n, (Option.some.inj h).symm, rfl⟩
theorem map_ref_at {ns : List Addr} {i : Nat} {x : V} (h : (ns.map V.ref)[i]? = some x) : ∃ n, x = .ref n ∧ ns[i]? = some n := by
  rw [List.getElem?_map] at h
  cases e : ns[i]? with
  | none => rw [e] at h; cases h
  | some n => rw [e] at h; exact ⟨n, (Option.some.inj h).symm, rfl⟩
theorem drop_at {α : Type} {l : List α} {i : Nat} {x : α} (h : l[i]? = some x) : l.drop i = x :: l.drop (i + 1) := by
  obtain ⟨hi, e⟩ := List.getElem?_eq_some_iff.mp h
  rw [List.drop_eq_getElem_cons hi, e]
theorem take_snoc {α : Type} {l : List α} {i : Nat} {x : α} (h : l[i]? = some x) : l.take (i + 1) = l.take i ++ [x] := by
  rw [List.take_add_one, h]
  rfl
theorem txt_len (a b : Str) : (a ++ b).length = a.length + b.length := PySem.Str.length_append a b
theorem bnd_le {m : Int} (h : m ≤ 1000000) : Bnd m := by
  unfold Bnd
  have : (1000000 : Int) < 2 ^ 400 := by decide +kernel
  omega
theorem keepD {d b : Addr} {H H' : Hp} {o : HO} (k : But d H H') (h : b ≠ d) (hb : H b = some o) : H' b = some o := by rw [k b h]; exact hb
theorem atI_zero {α : Type} {x : α} {xs : List α} : atI (x :: xs) (0 : Int) = some x := by
  show ((if (0 : Int) ≤ 0 then (if (0 : Int) < ((x :: xs).length : Int) then some (Int.toNat 0) else none) else _).bind _) = _
  rw [if_pos (Int.le_refl 0), if_pos (by rw [List.length_cons]; omega)]
  rfl
/-! ### enumerate of a tuple; zip of two tuples as a walk -/
section
open PySem.AutoSeq1 (wpAny_loadPart')
open PySem.Spec PyProof.Rows
theorem meets_enumerate_newT (l : Addr) (items : Array Value) (n : Nat) (dct : Option Addr) (sl : Array (Option Value)) :
    Meets (Builtin.«enumerate.__new__» ⟨[.type "enumerate", .ref l], []⟩) (fun _ R s => s.heap.get? l = some { cls := .type "tuple", dict := dct, data := .seq items n, slots := sl } ∧
      R (.ok (.ret (.ref (s.heap.push { cls := .type "tuple_iterator", data := .fields #[.ref l, .int 0 0] }).objs.size)))
        { s with heap := (s.heap.push { cls := .type "tuple_iterator", data := .fields #[.ref l, .int 0 0] }).push { cls := .type "enumerate", data := .fields #[.none, .bool false, .ref s.heap.objs.size, rawInt 0, .none, .none] } }) :=
  .of_wp fun prog w A R s h => by
    obtain ⟨hp, g, d, tk, os⟩ := s; obtain ⟨hl, h⟩ := h
    have hsub := sub_enumerate
    have hL : Heap.IsTuple (Shared.heap ⟨hp, g, d, tk, os⟩) l items := ⟨_, hl, rfl, n, rfl⟩
    wp_walk using wpAny_loadPart' hl
    refine wpAny_stack_any fun st => wpAny_pure ?_
    split
    · rename_i c _ _ _ _ _
      cases (c == Value.type "enumerate")
      · wp_walk using wpAny_loadPart' hl, wpAny_pyIter_tuple hL
        exact ⟨_, rfl, h⟩
      · wp_walk using wpAny_loadPart' hl, wpAny_pyIter_tuple hL
        exact ⟨_, rfl, h⟩
    · wp_walk using wpAny_loadPart' hl, wpAny_pyIter_tuple hL
      exact ⟨_, rfl, h⟩
variable {prog : Program} {w : World} {A : Around} {E : Value → Shared → Prop} {s : Shared}
theorem call_enumerate_tuple {l : Addr} {items : Array Value} {Q : Value → Shared → Prop} (hL : s.heap.IsTuple l items)
    (h : ∀ h', IsEnum h' (s.heap.objs.size + 1) s.heap.objs.size 0 .none → h'.IsTupleIter s.heap.objs.size l 0 → h'.objs.size = s.heap.objs.size + 2 →
      (∀ b o, s.heap.get? b = some o → h'.get? b = some o) → Q (.ref (s.heap.objs.size + 1)) { s with heap := h' }) :
    wpAny (model prog w) A (call (.type "enumerate") [.ref l]) Q E s := by
  obtain ⟨⟨c, dct, dt, sl⟩, hl, hc, n, hd⟩ := hL
  replace hc : c = .type "tuple" := hc
  replace hd : dt = .seq items n := hd
  subst hc hd
  refine callType_new F.called_enumerate (by decide) (F.typeCall_enumerate_1 _) (F.newCall_enumerate_1 _) (fun obj => F.args_object_init_2 obj _) F.entry_enumerate_new
    (meets_enumerate_newT l items n dct sl) ⟨hl, ?_⟩
  have hz : (s.heap.push { cls := .type "tuple_iterator", data := .fields #[.ref l, .int 0 0] }).objs.size = s.heap.objs.size + 1 := Heap.size_push ..
  show _ ∧ _
  rw [hz]
  have he : IsEnum ((s.heap.push { cls := .type "tuple_iterator", data := .fields #[.ref l, .int 0 0] }).push
      { cls := .type "enumerate", data := .fields #[.none, .bool false, .ref s.heap.objs.size, rawInt 0, .none, .none] }) (s.heap.objs.size + 1) s.heap.objs.size 0 .none := by
    have := Heap.get?_push_size (s.heap.push { cls := .type "tuple_iterator", data := .fields #[.ref l, .int 0 0] })
      (o := { cls := .type "enumerate", data := .fields #[.none, .bool false, .ref s.heap.objs.size, rawInt 0, .none, .none] }) rfl
    rw [hz] at this; exact this
  refine ⟨⟨_, he, rfl⟩, h _ he ⟨_, Heap.get?_push_of_some _ (Heap.get?_push_size _ rfl), rfl, rfl⟩ (by rw [Heap.size_push, hz]) fun b o x => Heap.get?_push_of_some _ (Heap.get?_push_of_some _ x)⟩
/-- the tuple at a as it stands at each turn, each item in a new pair -/
def IteT (K : PySem.W.Frag) (a : Addr) : It :=
  ⟨fun i H => ∃ (xs : List V) (x : V), SqT K H a xs ∧ xs[i]? = some x, fun i H v H' => ∃ T x, v = .ref T ∧ H T = none ∧ H' = upd H T (.tup [.int (i : Nat), x]) ∧ ∀ xs, SqT K H a xs → xs[i]? = some x, fun i H => ∃ xs : List V, SqT K H a xs ∧ xs.length ≤ i⟩
theorem turn_enumT {P : Program} {w : World} {K : PySem.W.Frag} {elts : List Expr} {kk : Nat} {tpos : Pos} (a e it : Addr) (hai : a ≠ it) (hea : e ≠ a) :
    Turn P w K (.Tuple elts kk tpos) (IteT K a) [e, it] e (fun i h => (∃ old, IsEnum h e it ((i : Nat) : Int) old) ∧ h.IsTupleIter it a i ∧ e ≠ it) where
  mem := by simp
  obj := fun i h st b hb => by
    obtain ⟨⟨old, he⟩, ⟨o, ho, hc, hd⟩, _⟩ := st
    have e' : b = e ∨ b = it := by simpa using hb
    rcases e' with z | z
    · rw [z]; exact ⟨_, he, fun v q => nomatch q⟩
    · rw [z]; exact ⟨o, ho, fun v q => by rw [hd] at q; cases q⟩
  keep := fun i h h' st k => let ⟨⟨old, he⟩, hi, hne⟩ := st; ⟨⟨old, k e (by simp) _ he⟩, hi.at fun o q => k it (by simp) o q, hne⟩
  item := by
    intro X hP hw hK hc i pins s σ H E I hf st hg
    subst hP hw hK
    obtain ⟨⟨old, he⟩, hit, hne⟩ := st
    obtain ⟨xs, x, hq, hx⟩ := hg
    obtain ⟨its, rv, p, hz⟩ := I.tuple hq
    obtain ⟨u, hu, ru⟩ := rv.get hx
    have hel : e < s.heap.objs.size := Heap.lt_size he
    have hil : it < s.heap.objs.size := by obtain ⟨_, q, _⟩ := hit; exact Heap.lt_size q
    have hu' : its.toArray[i]? = some u := by simpa using hu
    have hlt : i < its.toArray.size := (Array.getElem?_eq_some_iff.mp hu').1
    refine wpAny_pyNext_enum_itemD (Draws.tuple (show X.A.in1.handled = none from I.ok.hd hc) it a hai its.toArray) he ⟨hit, p⟩ hlt hne (by simp only [List.mem_cons, List.not_mem_nil, or_false, not_or]; exact ⟨hne, hea⟩) fun x' h' tk hP' ho hit' hT hsz hk => ?_
    have hP' : its.toArray[i]? = some x' := hP'
    rw [hu'] at hP'
    cases hP'
    refine ⟨_, rfl, wpAny_letOwnedTupleGo_enum (s := { s with heap := h', toks := tk + 1 }) ho fun h'' he' sb => ?_⟩
    have hT2 : h''.get? s.heap.objs.size = some { cls := .type "tuple", data := .seq #[.int i tk, u] } := (sb.2 _ (Nat.ne_of_gt hel)).trans hT
    have new : ObjOk X.prog X.w (upd H s.heap.objs.size (.tup [.int (i : Nat), x])) h'' s.heap.objs.size (.tup [.int (i : Nat), x]) :=
      ⟨by show 2 ≤ sizeLine; decide, [.int i tk, u], .cons ⟨_, rfl⟩ (.cons ru .nil), ⟨_, hT2, rfl, _, rfl⟩⟩
    have I1 : Inv X pins σ (upd H s.heap.objs.size (.tup [.int (i : Nat), x])) { s with heap := h'', toks := tk + 1 } :=
      I.turnedNew (ch := [e, it]) (fun b ob hb q => (sb.2 b (fun z => hb (by simp [z]))).trans (hk b ob (fun z => hb (by simp [z])) (fun z => hb (by simp [z])) q)) hf (Nat.le_refl _) new
    refine ⟨.ref s.heap.objs.size, _, I1, rfl, ⟨_, x, rfl, I.hok.fresh (Nat.le_refl _), rfl, fun ys hy => by rw [I.tuple_inj hy hq]; exact hx⟩, ⟨⟨u, ?_⟩, hit'.1.at fun o q => (sb.2 it (Ne.symm hne)).trans q, hne⟩, fun b hb => ?_⟩
    · have e1 : ((i + 1 : Nat) : Int) = (i : Int) + 1 := by omega
      rw [e1]; exact he'
    · have hb' : b < s.heap.objs.size := by
        have e' : b = e ∨ b = it := by simpa using hb
        rcases e' with z | z
        · rw [z]; exact hel
        · rw [z]; exact hil
      rw [upd_ne (Nat.ne_of_lt hb')]
      exact (hf b hb).1
  done := by
    intro X hP hw hK hc i pins s σ H E I hf st hg
    subst hP hw hK
    obtain ⟨⟨old, he⟩, hit, hne⟩ := st
    obtain ⟨xs, hq, hx⟩ := hg
    obtain ⟨its, rv, p, hz⟩ := I.tuple hq
    obtain ⟨f0, f1, f2, f3, f4, f5⟩ := hf it (by simp)
    have hl := rv.length
    unfold pyNext
    have hT : s.TypeIs (.ref e) "enumerate" := ⟨_, he, rfl⟩
    refine wpAny_bind (wpAny_attempt (wpAny_callSpecial?_slot (name := Str.ofString "__next__") hT F.slot_enumerate_next
      (wpAny_call_entry F.slot_enumerate_next hT F.entry_enumerate_next ?_ (F.args_enumerate_next_1 _))))
    show wpAny _ _ (field (.ref e) 2 >>= _) _ _ _
    refine wpAny_bind (wpAny_field he rfl (x := .ref it) rfl ?_)
    refine wpAny_bind (wpAny_nextOf_tuple_end (show X.A.in1.handled = none from I.ok.hd hc) hit p (by simp; omega) fun h' x he' hx' => ?_)
    obtain ⟨o, ho, hc'⟩ := hx'
    refine wpAny_bind (wpAny_isInstance (T := "StopIteration") (b := true) ⟨o, ho, hc'⟩ isSubtype_stop ?_)
    exact wpAny_pure ⟨rfl, I.turned (t' := s.toks) (fun b o hb q => he' b o hb q) f0 f1 f3 f4 f5⟩
  self := fun A i s Q E st h => let ⟨⟨_, he⟩, _⟩ := st; wpAny_pyIter_enum he h
def iEnumT (K : PySem.W.Frag) (ta : TA) : TI := fun σ H R => ta σ H fun vs H1 => ∃ a xs, vs = [.ref a] ∧ SqT K H1 a xs ∧ R (IteT K a) H1
theorem pi_enumT {X : Cx} {e : Expr} {ta : TA} {p pos tpos : Pos} {elts : List Expr} {kk : Nat} (hg : Gl X "enumerate") (hm : X.mg "enumerate" = none) (ha : PA X [e] ta) (hs : starEach [e] X.env = [(false, eval e X.env)] := by rfl) :
    PI X (.Tuple elts kk tpos) (.Call (.Name "enumerate" p) [e] [] pos) (iEnumT X.K ta) := by
  refine ⟨fun pins s σ H R I h => ?_⟩
  refine Call_ (ld_blt I hg hm boot_enumerate (PyProof.Rows.callWith_type1 (thn (ha.run pos pins s σ H _ I h) fun us s1 ⟨vs, H1, I1, r1, q1⟩ => ?_) hs rfl))
  obtain ⟨a, xs, ex, hq, q⟩ := q1
  subst ex
  cases r1 with
  | cons r rr =>
    cases rr
    cases r
    obtain ⟨its, rv, p', hz⟩ := I1.tuple hq
    have hal : a < s1.heap.objs.size := by obtain ⟨_, q, _⟩ := id p'; exact Heap.lt_size q
    refine call_enumerate_tuple (show s1.heap.IsTuple a its.toArray from p') fun h' he hit hsz hk => wpAny_pyIter_enum he ?_
    have I2 : Inv X pins σ H1 { s1 with heap := h' } := I1.kept (t' := s1.toks) hk
    refine ⟨s1.heap.objs.size + 1, [s1.heap.objs.size + 1, s1.heap.objs.size], _, _, H1, rfl, I2, turn_enumT a (s1.heap.objs.size + 1) s1.heap.objs.size (Nat.ne_of_lt hal) (Nat.ne_of_gt (Nat.lt_succ_of_lt hal)), ⟨⟨.none, he⟩, hit, Nat.succ_ne_self _⟩, fun b hb => ?_, q⟩
    have e' : b = s1.heap.objs.size + 1 ∨ b = s1.heap.objs.size := by simpa using hb
    have hle : s1.heap.objs.size ≤ b := by
      rcases e' with z | z
      · rw [z]; exact Nat.le_add_right _ _
      · rw [z]; exact Nat.le_refl _
    exact I1.fpOk hle (I1.hok.fresh hle)
theorem walk_enumT {K : PySem.W.Frag} {a : Addr} {xs : List V} : Walk (IteT K a) xs.length (fun H => SqT K H a xs) (YPair (fun i => some (.int (i : Nat))) (fun i => xs[i]?)) := by
  refine ⟨fun i _ hi q => ⟨xs, xs[i], q, by simp [hi]⟩, fun _ q => ⟨xs, q, Nat.le_refl _⟩, fun i H v H' _ q y => ?_⟩
  obtain ⟨T, x, h1, h2, h3, h4⟩ := y
  exact ⟨T, .int (i : Nat), x, h1, h2, h3, rfl, h4 xs q⟩
theorem walk_zipT {K : PySem.W.Frag} {a b : Addr} {xs ys : List V} {n : Nat} (hn : n = min xs.length ys.length) : Walk (RZ.ItzT K a b) n (fun H => SqT K H a xs ∧ SqT K H b ys) (YPair (fun i => xs[i]?) (fun i => ys[i]?)) := by
  subst hn
  refine ⟨fun i _ hi q => ?_, fun _ q => ⟨xs, ys, q.1, q.2, by omega⟩, fun i H v H' _ q y => ?_⟩
  · have h1 : i < xs.length := by omega
    have h2 : i < ys.length := by omega
    exact ⟨xs, ys, xs[i], ys[i], q.1, q.2, by simp [h1], by simp [h2]⟩
  · obtain ⟨T, x, y', h1, h2, h3, h4, h5⟩ := y
    exact ⟨T, x, y', h1, h2, h3, h4 xs q.1, h5 ys q.2⟩
end
/-! ### max(list, default=d); len(set(list)) of ints -/
section
open PySem.Spec PyProof.Rows
def maxI (d : Int) : List Int → Int
  | [] => d
  | n :: ns => ns.foldl max n
theorem readsAll_ints {h : Heap} : ∀ {its : List Value} {ns : List Int}, IntsAre its ns → ReadsAll h its (ns.map PyData.int) []
  | _, _, .nil => .nil
  | _, _, .cons n t r => .cons (as := []) (.int n t) (readsAll_ints r)
theorem depth_ints : ∀ ns : List Int, PyData.depthAll (ns.map PyData.int) = 0
  | [] => rfl
  | n :: ns => by
    show max (PyData.depth (.int n)) (PyData.depthAll (ns.map PyData.int)) = 0
    rw [depth_ints ns]
    rfl
theorem foldl_max_mem : ∀ (ns : List Int) (n : Int), (ns.foldl max n = n ∨ ns.foldl max n ∈ ns) ∧ n ≤ ns.foldl max n ∧ ∀ y ∈ ns, y ≤ ns.foldl max n
  | [], n => ⟨.inl rfl, Int.le_refl _, fun _ h => by cases h⟩
  | m :: ns, n => by
    obtain ⟨a, b, c⟩ := foldl_max_mem ns (max n m)
    show ((ns.foldl max (max n m) = n ∨ ns.foldl max (max n m) ∈ m :: ns) ∧ n ≤ ns.foldl max (max n m) ∧ ∀ y ∈ m :: ns, y ≤ ns.foldl max (max n m))
    refine ⟨?_, by omega, fun y hy => ?_⟩
    · rcases a with a | a
      · by_cases hnm : n ≤ m
        · exact .inr (List.mem_cons.mpr (.inl (a.trans (Int.max_eq_right hnm))))
        · exact .inl (a.trans (Int.max_eq_left (by omega)))
      · exact .inr (List.mem_cons_of_mem _ a)
    · rcases List.mem_cons.mp hy with rfl | hy
      · omega
      · exact c y hy
theorem maxI_le {d : Int} : ∀ {ns : List Int}, ∀ y ∈ ns, y ≤ maxI d ns
  | n :: ns, y, h => by
    obtain ⟨_, b, c⟩ := foldl_max_mem ns n
    rcases List.mem_cons.mp h with rfl | h
    · exact b
    · exact c y h
theorem maxI_mem {d : Int} : ∀ {ns : List Int}, maxI d ns = d ∧ ns = [] ∨ maxI d ns ∈ ns
  | [] => .inl ⟨rfl, rfl⟩
  | n :: ns => by
    rcases (foldl_max_mem ns n).1 with a | a
    · exact .inr (List.mem_cons.mpr (.inl a))
    · exact .inr (List.mem_cons_of_mem _ a)
def rMaxDf (K : PySem.W.Frag) : List V → List V → Hp → VK → Prop := fun xs zs H Q => ∃ (a : Addr) (ns : List Int) (d : Int), xs = [.ref a] ∧ zs = [.int d] ∧ SqL K H a (ns.map V.int) ∧ Q (.int (maxI d ns)) H
theorem cr_maxDf {X : Cx} (hc : X.calm = true) (hu : X.A.units + 64 < cLine) : CallRK X (.builtin "max") [Str.ofString "default"] (rMaxDf X.K) := by
  intro pins s σ H xs zs us ws Q I r1 r2 h
  obtain ⟨a, ns, d, rfl, rfl, hs, q⟩ := h
  obtain ⟨its, rv, hl, hz⟩ := I.list hs
  obtain ⟨u, rfl, ru⟩ := vals1 r2
  obtain ⟨tk0, rfl⟩ := ru
  rw [Vals.ref1 r1]
  have hi : IntsAre its ns := rv.ints
  refine PySem.W.max_list_default (I.ok.hd hc) hl.isList (by simpa using readsAll_ints hi) ⟨?_, ?_⟩ ?_ (fun e h' tk hk => ?_) (fun y ys i v h' tk bs e hv hr hk => ?_)
  · intro x hx y hy
    obtain ⟨n, _, rfl⟩ := List.mem_map.mp hx
    obtain ⟨m, _, rfl⟩ := List.mem_map.mp hy
    rfl
  · intro x hx e
    obtain ⟨n, _, rfl⟩ := List.mem_map.mp hx
    cases e
  · rw [depth_ints]
    omega
  · cases ns with
    | nil => exact ⟨.int d, H, I.kept hk, ⟨_, rfl⟩, q⟩
    | cons n ns => cases e
  · cases ns with
    | nil => cases e
    | cons n ns =>
      cases e
      rw [PySem.W.maxD_ints] at hr
      obtain ⟨t, rfl, _⟩ := reads_int_inv hr
      exact ⟨.int (maxI d (n :: ns)), H, I.kept hk, ⟨_, rfl⟩, q⟩
/-- how many different ones -/
def dedN (ns : List Int) : Nat := (firstMet (fun i => ns.getD i 0) ns.length).length
theorem ded_fold : ∀ (ns acc : List Int), (ns.foldl step_dedup acc).length ≤ acc.length + ns.length ∧ ((ns.foldl step_dedup acc).length = acc.length + ns.length ↔ ns.Nodup ∧ ∀ x ∈ ns, x ∉ acc)
  | [], acc => ⟨Nat.le_refl _, ⟨fun _ => ⟨List.nodup_nil, fun _ h => by cases h⟩, fun _ => rfl⟩⟩
  | n :: ns, acc => by
    have sd : step_dedup acc n = if acc.any (· == n) = true then acc else acc ++ [n] := rfl
    show ((ns.foldl step_dedup (step_dedup acc n)).length ≤ _ ∧ ((ns.foldl step_dedup (step_dedup acc n)).length = _ ↔ _))
    by_cases hm : n ∈ acc
    · have e : step_dedup acc n = acc := by
        rw [sd, if_pos]
        exact List.any_eq_true.mpr ⟨n, hm, beq_self_eq_true n⟩
      rw [e]
      obtain ⟨a, b⟩ := ded_fold ns acc
      refine ⟨by rw [List.length_cons]; omega, ⟨fun h => ?_, fun h => absurd hm (h.2 n (List.mem_cons_self ..))⟩⟩
      rw [List.length_cons] at h
      omega
    · have e : step_dedup acc n = acc ++ [n] := by
        rw [sd, if_neg]
        intro h
        obtain ⟨x, hx, hn⟩ := List.any_eq_true.mp h
        exact hm (eq_of_beq hn ▸ hx)
      rw [e]
      obtain ⟨a, b⟩ := ded_fold ns (acc ++ [n])
      have el : (acc ++ [n]).length = acc.length + 1 := by rw [List.length_append]; rfl
      rw [el] at a b
      refine ⟨by rw [List.length_cons]; omega, ?_⟩
      rw [List.length_cons, show acc.length + (ns.length + 1) = acc.length + 1 + ns.length by omega, b, List.nodup_cons]
      constructor
      · rintro ⟨h1, h2⟩
        refine ⟨⟨fun hx => h2 n hx (List.mem_append_right _ (List.mem_singleton.mpr rfl)), h1⟩, fun x hx => ?_⟩
        rcases List.mem_cons.mp hx with rfl | hx
        · exact hm
        · exact fun z => h2 x hx (List.mem_append_left _ z)
      · rintro ⟨⟨h1, h2⟩, h3⟩
        refine ⟨h2, fun x hx z => ?_⟩
        rcases List.mem_append.mp z with z | z
        · exact h3 x (List.mem_cons_of_mem _ hx) z
        · rw [List.mem_singleton] at z
          subst z
          exact h1 hx
theorem range_getD (ns : List Int) : (List.range ns.length).map (fun i => ns.getD i 0) = ns := by
  apply List.ext_getElem
  · rw [List.length_map, List.length_range]
  · intro i h1 h2
    rw [List.getElem_map, List.getElem_range, List.getD_eq_getElem?_getD, List.getElem?_eq_getElem h2]
    rfl
theorem dedN_eq (ns : List Int) : dedN ns ≤ ns.length ∧ (dedN ns = ns.length ↔ ns.Nodup) := by
  have e : dedN ns = (ns.foldl step_dedup []).length := by
    unfold dedN firstMet
    rw [range_getD]
  obtain ⟨a, b⟩ := ded_fold ns []
  rw [e]
  rw [List.length_nil, Nat.zero_add] at a b
  exact ⟨a, b.trans ⟨fun h => h.1, fun h => ⟨h, fun _ _ z => by cases z⟩⟩⟩
def tLenSetL (K : PySem.W.Frag) (ta : TE) : TE := fun σ H Q => ta σ H fun x H1 => ∃ (l : Addr) (ns : List Int), x = .ref l ∧ SqL K H1 l (ns.map V.int) ∧ ns.length ≤ 4000 ∧ Q (.int (dedN ns : Nat)) H1
theorem pe_lenSetL {X : Cx} {a : Expr} {ta : TE} {p p2 q pos : Pos} (hg : Gl X "len") (hm : X.mg "len" = none) (hg2 : Gl X "set") (hm2 : X.mg "set" = none) (ha : PE X a ta) (hc : X.calm = true := by rfl)
    (na : starEach [a] X.env = (false, eval a X.env) :: starEach [] X.env := by rfl) : PE X (.Call (.Name "len" p) [.Call (.Name "set" p2) [a] [] q] [] pos) (tLenSetL X.K ta) := by
  refine ⟨fun pins s σ H Q I h => ?_⟩
  refine Call_ (ld_blt I hg hm boot_len ?_)
  refine PyProof.Rows.callWith_builtin1 (PyProof.Rows.args_cons ?_ rfl) rfl rfl
  refine Call_ (ld_blt I hg2 hm2 boot_set ?_)
  refine PyProof.Rows.callWith_type1 (PyProof.Rows.args_cons (thn (ha.run pins s σ H _ I h) fun v s1 ⟨x, H1, I1, r1, q1⟩ => PyProof.Rows.args_nil ?_) na) na rfl
  obtain ⟨l, ns, rfl, hq, hl, q1⟩ := q1
  cases r1
  obtain ⟨its, r, pl, hz⟩ := I1.list hq
  have hlen : its.toArray.size = ns.length := by rw [List.size_toArray, ← r.length, List.length_map]
  refine call_set_list (I1.ok.hd hc) pl.isList (by simpa using RZ.intsAre_vals r) (by rw [hlen]; unfold scanBound; omega) fun h' tk hS hk => ?_
  refine PyProof.Rows.args_nil ?_
  rw [hlen] at hS
  obtain ⟨o, es, ep, t, ho, hex, hd, _, _, _, hf, hn⟩ := hS
  have I2 : Inv X pins σ H1 { s1 with heap := h', toks := tk } := I1.kept fun b o e => hk b o (Heap.lt_size e) e
  have hle := (dedN_eq ns).1
  unfold dedN at hle q1
  exact call_len_set ho hex hd hf (by rw [hn] <;> omega) ⟨.int _, H1, I2.tok _, ⟨_, by rw [hn]⟩, q1⟩
end

/-! ### lives, sizes, places -/
def Tups (H : Hp) (ts : List Addr) (ps : List (Int × Int)) : Prop := ts.length = ps.length ∧ ∀ (i : Nat) t p, ts[i]? = some t → ps[i]? = some p → H t = some (.tup [.int p.1, .int p.2])
theorem Tups.keep {H H' : Hp} {ts : List Addr} {ps : List (Int × Int)} (h : Tups H ts ps) (s : ∀ b xs, H b = some (.tup xs) → H' b = some (.tup xs)) : Tups H' ts ps := ⟨h.1, fun i t p a b => s _ _ (h.2 i t p a b)⟩
theorem Tups.same {H H' : Hp} {ts : List Addr} {ps : List (Int × Int)} (h : Tups H ts ps) (s : Same H H') : Tups H' ts ps := h.keep fun b xs e => s _ _ e
theorem Tups.nil {H : Hp} : Tups H [] [] := ⟨rfl, fun _ _ _ h _ => by simp at h⟩
theorem Tups.snoc {H : Hp} {ts : List Addr} {ps : List (Int × Int)} {t : Addr} {p : Int × Int} (h : Tups H ts ps) (ht : H t = some (.tup [.int p.1, .int p.2])) : Tups H (ts ++ [t]) (ps ++ [p]) := by
  refine ⟨by rw [List.length_append, List.length_append, h.1]; rfl, fun i u q a b => ?_⟩
  by_cases hi : i < ts.length
  · rw [List.getElem?_append_left hi] at a
    rw [List.getElem?_append_left (by rw [← h.1]; exact hi)] at b
    exact h.2 i u q a b
  · rw [List.getElem?_append_right (by omega)] at a
    rw [List.getElem?_append_right (by rw [← h.1]; omega), ← h.1] at b
    cases z : i - ts.length with
    | zero =>
      rw [z] at a b
      simp only [List.getElem?_cons_zero, Option.some.injEq] at a b
      subst a b
      exact ht
    | succ j =>
      rw [z] at a
      simp at a
def LvT (H : Hp) (a : Addr) (lv : List (Int × Int)) : Prop := ∃ ts : List Addr, H a = some (.tup (ts.map V.ref)) ∧ Tups H ts lv
theorem LvT.keep {H H' : Hp} {a : Addr} {lv : List (Int × Int)} (h : LvT H a lv) (s : ∀ b xs, H b = some (.tup xs) → H' b = some (.tup xs)) : LvT H' a lv := by
  obtain ⟨ts, h1, h2⟩ := h
  exact ⟨ts, s _ _ h1, h2.keep s⟩
theorem LvT.same {H H' : Hp} {a : Addr} {lv : List (Int × Int)} (h : LvT H a lv) (s : Same H H') : LvT H' a lv := h.keep fun b xs e => s _ _ e
/-- the i-th -/
theorem Tups.at {H : Hp} {ts : List Addr} {ps : List (Int × Int)} (h : Tups H ts ps) {i : Nat} (hi : i < ps.length) : ∃ t, ts[i]? = some t ∧ (ts.map V.ref)[i]? = some (.ref t) ∧ H t = some (.tup [.int (ps.getD i (0, 0)).1, .int (ps.getD i (0, 0)).2]) := by
  have h1 : ts[i]? = some (ts[i]'(by rw [h.1]; exact hi)) := List.getElem?_eq_getElem _
  have h2 : ps[i]? = some (ps.getD i (0, 0)) := by rw [List.getD_eq_getElem?_getD, List.getElem?_eq_getElem hi]; rfl
  exact ⟨_, h1, by rw [List.getElem?_map, h1]; rfl, h.2 i _ _ h1 h2⟩
theorem nat_at {xs : List Int} {i : Nat} (h : i < xs.length) : xs[i]? = some (xs.getD i 0) := by
  rw [List.getD_eq_getElem?_getD, List.getElem?_eq_getElem h]
  rfl
theorem vatD {xs : List Int} {i : Nat} (h : i < xs.length) : atI (xs.map V.int) (i : Int) = some (.int (xs.getD i 0)) := atI_nat (by rw [List.getElem?_map, nat_at h]; rfl)
theorem vat? {xs : List Int} {i : Nat} (h : i < xs.length) : (xs.map V.int)[i]? = some (.int (xs.getD i 0)) := by rw [List.getElem?_map, nat_at h]; rfl
def ovl (p q : Int × Int) : Bool := decide (p.1 ≤ q.2) && decide (q.1 ≤ p.2)
def alv (p : Int × Int) (t : Int) : Bool := decide (p.1 ≤ t) && decide (t ≤ p.2)
abbrev lvA (lv : List (Int × Int)) (i : Nat) : Int × Int := lv.getD i (0, 0)
abbrev ia (xs : List Int) (i : Nat) : Int := xs.getD i 0
def OkJ (lv : List (Int × Int)) (sz pl : List Int) (i j : Nat) : Prop := (ia pl i + ia sz i ≤ ia pl j ∨ ia pl j + ia sz j ≤ ia pl i) ∨ ovl (lvA lv i) (lvA lv j) = false
def OkI (lv : List (Int × Int)) (sz pl : List Int) (i : Nat) : Prop := 0 ≤ ia pl i ∧ ∀ j, j < i → OkJ lv sz pl i j
def OkP (lv : List (Int × Int)) (sz pl : List Int) : Prop := pl.length = lv.length ∧ ∀ i, i < pl.length → OkI lv sz pl i
def endsOf (sz pl : List Int) : List Int := List.zipWith (· + ·) pl sz
theorem endsOf_at {sz pl : List Int} {i : Nat} (h1 : i < pl.length) (h2 : i < sz.length) : (endsOf sz pl)[i]? = some (ia pl i + ia sz i) := by
  unfold endsOf
  rw [List.getElem?_zipWith, nat_at h1, nat_at h2]
theorem endsOf_len (sz pl : List Int) : (endsOf sz pl).length = min pl.length sz.length := List.length_zipWith
/-- the sum of the sizes that live at t, of the first n -/
def sumAt (lv : List (Int × Int)) (sz : List Int) (n : Nat) (t : Int) : List Int := (((List.range n).filter fun k => alv (lvA lv k) t).map fun k => ia sz k)
theorem filt1 (f : Nat → Bool) (n : Nat) (h : f n = true) : [n].filter f = [n] := by simp [h]
theorem filt0 (f : Nat → Bool) (n : Nat) (h : ¬ f n = true) : [n].filter f = [] := by simp [h]
theorem sumAt_succ (lv : List (Int × Int)) (sz : List Int) (n : Nat) (t : Int) : sumAt lv sz (n + 1) t = if alv (lvA lv n) t = true then sumAt lv sz n t ++ [ia sz n] else sumAt lv sz n t := by
  unfold sumAt
  rw [List.range_succ, List.filter_append, List.map_append]
  by_cases h : alv (lvA lv n) t = true
  · rw [if_pos h, filt1 _ n h]
    rfl
  · rw [if_neg h, filt0 _ n h, List.map_nil, List.append_nil]
theorem sumAt_len (lv : List (Int × Int)) (sz : List Int) (n : Nat) (t : Int) : (sumAt lv sz n t).length ≤ n := by
  unfold sumAt
  rw [List.length_map]
  exact Nat.le_trans (List.length_filter_le _ _) (by rw [List.length_range]; exact Nat.le_refl _)
def PeakP (lv : List (Int × Int)) (sz : List Int) (n : Nat) (b : Int) : Prop := (b = 0 ∨ ∃ j, j < n ∧ b = (sumAt lv sz lv.length (lvA lv j).1).sum) ∧ 0 ≤ b ∧ ∀ j, j < n → (sumAt lv sz lv.length (lvA lv j).1).sum ≤ b
section
variable {P : Program} {w : World} {K : PySem.W.Frag} {mg : Str → Option Value} {base : Heap}
structure TxtP (mg : Str → Option Value) extends TxtD mg where
  max : mg "max" = none
  min : mg "min" = none
  zip : mg "zip" = none
  range : mg "range" = none
  enum : mg "enumerate" = none
  sum : mg "sum" = none
  set : mg "set" = none
  tuple : mg "tuple" = none
  isi : mg "isinstance" = none
/-! ### the program's own defs -/
def spMeet : Sp := fun vs H Q _ => ∃ (a b : Addr) (p q : Int × Int), vs = [.ref a, .ref b] ∧ H a = some (.tup [.int p.1, .int p.2]) ∧ H b = some (.tup [.int q.1, .int q.2]) ∧ Q (.bl (ovl p q)) H
abbrev nM : List Str := ["one", "other"]
theorem scM : FnScope nM ["one", "other"] (defScope sMeet) := ⟨rfl, rfl, rfl, by decide +kernel, rfl, by decide +kernel, by decide +kernel⟩
theorem ok_meet {f : Addr} {fd : FuncData} (F : Fun K "meet" "meet" sMeet f fd) : FnOk P w K mg base CX0 1 f fd ["one", "other"] spMeet := by
  refine F.ok scM (fun vs H Q E h => ?_) (fun cdv A outer s H vs Q E hr h => ?_)
  · obtain ⟨a, b, p, q, rfl, _⟩ := h
    rfl
  · obtain ⟨a, b, p, q, rfl, ha, hb, hq⟩ := h
    refine ⟨_, (pss_one (ps_ret (pe_and (pe_cmpR op_le (pe_ix ix_tup (pv 0) pe_int (fun _ _ => rfl)) (pe_ix ix_tup (pv 1) pe_int (fun _ _ => rfl)) (nomark _)) (pe_one (pe_cmpR op_le (pe_ix ix_tup (pv 1) pe_int (fun _ _ => rfl)) (pe_ix ix_tup (pv 0) pe_int (fun _ _ => rfl)) (nomark _)))))), ?_⟩
    refine ⟨_, rfl, a, _, 0, _, rfl, rfl, SqT.of ha, rfl, _, rfl, b, _, 1, _, rfl, rfl, SqT.of hb, rfl, _, _, rfl, rfl, _, rfl, ite2 (fun e => ?_) (fun e => ?_)⟩
    · refine ⟨_, rfl, b, _, 0, _, rfl, rfl, SqT.of hb, rfl, _, rfl, a, _, 1, _, rfl, rfl, SqT.of ha, rfl, _, _, rfl, rfl, ?_⟩
      unfold ovl at hq
      rw [e, Bool.true_and] at hq
      exact hq
    · unfold ovl at hq
      rw [Bool.eq_false_iff.mpr e, Bool.false_and] at hq
      exact hq
def spWords (K : PySem.W.Frag) : Sp := fun vs H Q _ => ∃ (a b : Addr) (sz pl : List Int), vs = [.ref a, .ref b] ∧ H a = some (.tup (sz.map V.int)) ∧ H b = some (.tup (pl.map V.int)) ∧ pl.length ≤ 1000 ∧ ∀ H', Same H H' → Q (.int (maxI 0 (endsOf sz pl))) H'
abbrev nW : List Str := ["sizes", "places", "place", "size"]
theorem scW : FnScope nW ["sizes", "places"] (defScope sWords) := ⟨rfl, rfl, rfl, by decide +kernel, rfl, by decide +kernel, by decide +kernel⟩
theorem ok_words {f : Addr} {fd : FuncData} (F : Fun K "_words_of" "_words_of" sWords f fd) (T : TxtP mg) : FnOk P w K mg base CX0 1 f fd ["sizes", "places"] (spWords K) := by
  refine F.ok scW (fun vs H Q E h => ?_) (fun cdv A outer s H vs Q E hr h => ?_)
  · obtain ⟨a, b, sz, pl, rfl, _⟩ := h
    rfl
  · obtain ⟨a, b, sz, pl, rfl, ha, hb, hl, q⟩ := h
    refine ⟨_, (pss_one (ps_ret (pe_callBK (cr_maxDf rfl hr.units) (by rfl) T.max (by decide +kernel) (pa_cons (pe_lc (own := [("place", 2), ("size", 3)]) (g := (gTup K 2 (gCons (gName 2) (gCons (gName 3) gNil)))) (tt := tYes) (te := (tOp (rI0 fun i j => .int (i + j)) (tVar 2) (tVar 3))) rfl scW.nd (RZ.pi_zipA (by rfl) T.zip (pa_cons (pv 1) (pa_cons (pv 0) pa_nil))) (blkOk_by (N := nW) (sc := defScope sWords) (by decide +kernel)) (fun _ _ _ _ _ => (pg_tup rfl (pgs_cons (pg_name (i := 2) scW.nd rfl (.inl rfl) (hf := Or.inr rfl)) (pgs_cons (pg_name (i := 3) scW.nd rfl (.inl rfl) (hf := Or.inr rfl)) pgs_nil)))) (fun _ _ _ _ _ => pts_nil) (fun _ _ _ _ _ => (pe_op op_add (pv 2) (pv 3)))) pa_nil) (pk_cons pe_int pk_nil)))), ?_⟩
    refine ⟨_, rfl, _, rfl, b, a, pl.map V.int, sz.map V.int, rfl, .inr ⟨SqT.of hb, SqT.of ha, fun D nD => lc_it (walk_zipT rfl) (fun i H' => Same H H' ∧ H' D = some (.lst (((endsOf sz pl).take i).map V.int))) ⟨same_upd nD, upd_same⟩ (fun i H' _ h => ⟨SqT.of (h.1 _ _ hb), SqT.of (h.1 _ _ ha)⟩) ?_ ?_⟩⟩
    · rintro i x H' H'' hi ⟨sm, hD⟩ ⟨T', x', y', rfl, nT, rfl, e1, e2⟩
      rw [List.length_map, List.length_map] at hi
      have i1 : i < pl.length := by omega
      have i2 : i < sz.length := by omega
      dsimp only at e1 e2
      rw [vat? i1] at e1
      rw [vat? i2] at e2
      cases e1
      cases e2
      refine ⟨T', _, rfl, SqT.of upd_same, rfl, _, _, rfl, _, _, rfl, rfl, rfl, ?_⟩
      unfold tYes
      dsimp only
      rw [if_pos rfl]
      have s2 := same_upd (o := .tup [.int (pl.getD i 0), .int (sz.getD i 0)]) nT
      have hDT : D ≠ T' := ne_of_none hD nT
      refine ⟨_, rfl, _, rfl, _, _, rfl, rfl, _, s2 _ _ hD, ?_, ?_, ?_⟩
      · rw [List.length_map, List.length_take, endsOf_len]
        exact small1000 (by omega)
      · exact fun c o e => by rw [upd_ne (ne_of_none e nD)]; exact s2 _ _ (sm _ _ e)
      · rw [upd_same, take_snoc (endsOf_at i1 i2), List.map_append]
        rfl
    · rintro H' ⟨sm, hD⟩
      rw [show min (pl.map V.int).length (sz.map V.int).length = (endsOf sz pl).length by rw [List.length_map, List.length_map, endsOf_len], List.take_length] at hD
      exact ⟨D, _, _, rfl, rfl, SqL.of hD, q _ sm⟩
def spCheck (K : PySem.W.Frag) (Z : Addr) : Sp := fun vs H Q E => ∃ (a b c : Addr) (lv : List (Int × Int)) (sz pl : List Int), vs = [.ref a, .ref b, .ref c] ∧ LvT H a lv ∧ H b = some (.tup (sz.map V.int)) ∧ H c = some (.tup (pl.map V.int)) ∧ sz.length = lv.length ∧ pl.length ≤ 1000 ∧
  ∀ H', Same H H' → (OkP lv sz pl → Q (.int (maxI 0 (endsOf sz pl))) H') ∧ (¬ OkP lv sz pl → E (.ref Z) none H')
abbrev nC : List Str := ["all_lives", "sizes", "places", "buffer", "place", "other", "apart"]
theorem scC : FnScope nC ["all_lives", "sizes", "places"] (defScope sCheck) := ⟨rfl, rfl, rfl, by decide +kernel, rfl, by decide +kernel, by decide +kernel⟩
theorem ok_check {f Z : Addr} {fd : FuncData} (F : Fun K "check_places" "check_places" sCheck f fd) (T : TxtP mg) (R : ErrR K mg "PlaceError" Z) (cM : Calls P w K mg base CX0 1 "meet" ["one", "other"] spMeet) (cW : Calls P w K mg base CX0 1 "_words_of" ["sizes", "places"] (spWords K)) : FnOk P w K mg base (L2.CX P w) 2 f fd ["all_lives", "sizes", "places"] (spCheck K Z) := by
  obtain ⟨fM, dM, GM, kM, bM, gM⟩ := cM.ex
  obtain ⟨fW, dW, GW, kW, bW, gW⟩ := cW.ex
  refine F.okX scC (fun vs H Q E h => ?_) (fun cdv A outer s H vs Q E hr1 h => ?_)
  · obtain ⟨a, b, c, lv, sz, pl, rfl, _⟩ := h
    rfl
  · obtain ⟨a, b, c, lv, sz, pl, rfl, ⟨ts, ha, hx⟩, hb, hc, hls, hlp, q⟩ := h
    refine ⟨_, (pss_cons (ps_if (pt_cmpR op_ne (pe_callB call_len_seq (by rfl) T.len PySem.boot_len (pa_cons (pv 2) pa_nil)) (pe_callB call_len_seq (by rfl) T.len PySem.boot_len (pa_cons (pv 0) pa_nil)) (nomark _)) (pss_one (ps_raise rfl (takes_of rfl rfl rfl rfl) (pmk_own PySem.F.excBase_ValueError R.x R.g R.k (raises_own R.b R.t) rfl))) pss_nil)
      (pss_cons (ps_for (passes_of rfl) rfl (pi_enumT (by rfl) T.enum (pa_cons (pv 2) pa_nil)) (pg_tup rfl (pgs_cons (pg_name (i := 3) scC.nd rfl (.inl rfl)) (pgs_cons (pg_name (i := 4) scC.nd rfl (.inl rfl)) pgs_nil))) (pss_cons (ps_if (pt_cmpR op_lt (pv 4) pe_int (nomark _)) (pss_one (ps_raise rfl (takes_of rfl rfl rfl rfl) (pmk_own PySem.F.excBase_ValueError R.x R.g R.k (raises_own R.b R.t) rfl))) pss_nil)
      (pss_one (ps_for (passes_of rfl) rfl (pi_range1 rfl T.range (pa_cons (pv 3) pa_nil)) (pg_name (i := 5) scC.nd rfl (.inl rfl)) (Evl.pss_cut (ps_set (i := 6) scC.nd rfl (.inl rfl) (pe_or (pe_cmpR op_le (pe_op op_add (pv 4) (pe_ix ix_tup (pv 1) (pv 3) (fun _ _ => rfl))) (pe_ix ix_tup (pv 2) (pv 5) (fun _ _ => rfl)) (nomark _)) (pe_one (pe_cmpR op_le (pe_op op_add (pe_ix ix_tup (pv 2) (pv 5) (fun _ _ => rfl)) (pe_ix ix_tup (pv 1) (pv 5) (fun _ _ => rfl))) (pv 4) (nomark _)))))
      (pss_one (ps_if (PW.pt (pw_and (pt_not (pt_val (pv 6))) (pw_and1 (pt_val (pe_call GM hr1 (by rfl) gM kM bM .nil pass0 (pa_cons (pe_ix ix_tup (pv 0) (pv 3) (fun _ _ => rfl)) (pa_cons (pe_ix ix_tup (pv 0) (pv 5) (fun _ _ => rfl)) pa_nil))))))) (pss_one (ps_raise rfl (takes_of rfl rfl rfl rfl) (pmk_own PySem.F.excBase_ValueError R.x R.g R.k (raises_own R.b R.t) rfl))) pss_nil)))))))
      (pss_one (ps_ret (pe_call GW hr1 (by rfl) gW kW bW .nil pass0 (pa_cons (pv 1) (pa_cons (pv 2) pa_nil))))))), ?_⟩
    refine ⟨_, rfl, c, _, rfl, .inr (SqT.of hc), _, rfl, a, _, rfl, .inr (SqT.of ha), rfl, _, rfl, ?_⟩
    rw [List.length_map, List.length_map, hx.1]
    by_cases hle : pl.length = lv.length
    · refine iteNS (by rw [hle]) ?_
      refine ⟨_, rfl, c, _, rfl, SqT.of hc, for_it walk_enumT (fun i σ H' => ∃ (v3 v4 v5 v6 : Option V), σ = [some (.ref a), some (.ref b), some (.ref c), v3, v4, v5, v6] ∧ Same H H' ∧ ∀ k, k < i → OkI lv sz pl k)
        ⟨none, none, none, none, rfl, Same.refl H, fun k h => absurd h (Nat.not_lt_zero _)⟩ (fun i σ H' _ ⟨_, _, _, _, _, sm, _⟩ => SqT.of (sm _ _ hc)) ?_ ?_⟩
      · rintro i x σ H' H'' hi ⟨v3, v4, v5, v6, rfl, sm, hok⟩ ⟨T', x', y', rfl, nT, rfl, e1, e2⟩
        rw [List.length_map] at hi
        dsimp only at e1 e2
        rw [vat? hi] at e2
        cases e1
        cases e2
        have s2 := sm.trans (same_upd (o := .tup [.int (i : Int), .int (pl.getD i 0)]) nT)
        refine ⟨T', _, rfl, SqT.of upd_same, rfl, _, _, rfl, _, _, rfl, rfl, ?_⟩
        generalize upd H' T' _ = H2 at s2
        have bad : ¬ OkI lv sz pl i → E (.ref Z) none H2 := fun nb => (q _ s2).2 fun z => nb (z.2 i hi)
        refine ⟨_, rfl, _, _, rfl, rfl, _, rfl, ite2 (fun e => bad fun z => absurd (show ia pl i < 0 from of_decide_eq_true e) (by have := z.1; omega)) (fun e => ?_)⟩
        have hp0 : 0 ≤ ia pl i := by
          have : ¬ ia pl i < 0 := fun z => e (decide_eq_true z)
          omega
        refine ⟨_, rfl, _, rfl, by omega, by omega, for_range (lo := 0) (n := i) (fun j σ H' => ∃ (v5 v6 : Option V), σ = [some (.ref a), some (.ref b), some (.ref c), some (.int (i : Int)), some (.int (pl.getD i 0)), v5, v6] ∧ H' = H2 ∧ ∀ k, k < j → OkJ lv sz pl i k)
          ⟨v5, v6, rfl, rfl, fun k h => absurd h (Nat.not_lt_zero _)⟩ ?_ ?_⟩
        · rintro j σ H' hj ⟨v5, v6, rfl, rfl, hoj⟩
          rw [Int.zero_add]
          have hb2 := s2 _ _ hb
          have hc2 := s2 _ _ hc
          have ha2 := s2 _ _ ha
          have hx2 := hx.same s2
          have j1 : j < pl.length := by omega
          have j2 : j < sz.length := by omega
          have i2 : i < sz.length := by omega
          refine ⟨fun σ' H3 => σ' = [some (.ref a), some (.ref b), some (.ref c), some (.int (i : Int)), some (.int (pl.getD i 0)), some (.int (j : Int)), some (.bl (decide (ia pl i + ia sz i ≤ ia pl j ∨ ia pl j + ia sz j ≤ ia pl i)))] ∧ H3 = H', ?_, ?_⟩
          · refine ⟨_, rfl, _, rfl, _, rfl, b, _, _, _, rfl, rfl, SqT.of hb2, vatD i2, _, _, rfl, rfl, _, rfl, _, rfl, c, _, _, _, rfl, rfl, SqT.of hc2, vatD j1, _, _, rfl, rfl, _, rfl, ite2 (fun e => ?_) (fun e => ?_)⟩
            · have e := of_decide_eq_true e
              exact ⟨by rw [decide_eq_true (Or.inl e : ia pl i + ia sz i ≤ ia pl j ∨ ia pl j + ia sz j ≤ ia pl i)]; rfl, rfl⟩
            · have e : ¬ ia pl i + ia sz i ≤ ia pl j := fun z => e (decide_eq_true z)
              refine ⟨_, rfl, _, rfl, c, _, _, _, rfl, rfl, SqT.of hc2, vatD j1, _, rfl, _, rfl, b, _, _, _, rfl, rfl, SqT.of hb2, vatD j2, _, _, rfl, rfl, _, rfl, _, _, rfl, rfl, ?_, rfl⟩
              rw [show decide (ia pl i + ia sz i ≤ ia pl j ∨ ia pl j + ia sz j ≤ ia pl i) = decide (ia pl j + ia sz j ≤ ia pl i) from decide_eq_decide.mpr ⟨fun z => z.resolve_left e, .inr⟩]
              rfl
          · rintro σ' H3 ⟨rfl, rfl⟩
            obtain ⟨t1, _, t2, t3⟩ := hx2.at (show i < lv.length by omega)
            obtain ⟨u1, _, u2, u3⟩ := hx2.at (show j < lv.length by omega)
            have next : OkJ lv sz pl i j → ∃ (v5 v6 : Option V), [some (.ref a), some (.ref b), some (.ref c), some (.int (i : Int)), some (.int (pl.getD i 0)), some (V.int (j : Int)), some (.bl (decide (ia pl i + ia sz i ≤ ia pl j ∨ ia pl j + ia sz j ≤ ia pl i)))] = [some (.ref a), some (.ref b), some (.ref c), some (.int (i : Int)), some (.int (pl.getD i 0)), v5, v6] ∧ H3 = H3 ∧ ∀ k, k < j + 1 → OkJ lv sz pl i k := fun z =>
              ⟨_, _, rfl, rfl, fun k hk => by
                by_cases ek : k = j
                · subst ek
                  exact z
                · exact hoj k (by omega)⟩
            refine ⟨_, rfl, _, rfl, ?_⟩
            by_cases hap : ia pl i + ia sz i ≤ ia pl j ∨ ia pl j + ia sz j ≤ ia pl i
            · rw [decide_eq_true hap] at next ⊢
              exact iteF (next (.inl hap))
            · rw [decide_eq_false hap] at next ⊢
              refine iteT ⟨_, rfl, _, rfl, a, _, _, _, rfl, rfl, SqT.of ha2, atI_nat t2, _, rfl, _, rfl, a, _, _, _, rfl, rfl, SqT.of ha2, atI_nat u2, t1, u1, _, _, rfl, t3, u3, _, rfl, ite2 (fun e => ?_) (fun e => ?_)⟩
              · exact bad fun z => (z.2 j hj).elim (fun z => hap z) fun z => absurd (e.symm.trans z) (by decide)
              · exact next (.inr (Bool.eq_false_iff.mpr e))
        · rintro σ H' ⟨v5, v6, rfl, rfl, hoj⟩
          refine ⟨_, _, _, _, rfl, s2, fun k hk => ?_⟩
          by_cases ek : k = i
          · subst ek
            exact ⟨hp0, hoj⟩
          · exact hok k (by omega)
      · rintro σ H' ⟨v3, v4, v5, v6, rfl, sm, hok⟩
        rw [List.length_map] at hok
        exact ⟨_, rfl, _, rfl, b, c, sz, pl, rfl, sm _ _ hb, sm _ _ hc, hlp, fun H'' s'' => (q _ (sm.trans s'')).1 ⟨hle, hok⟩⟩
    · rw [show (!decide (V.int ((pl.length : Nat) : Int) = V.int ((lv.length : Nat) : Int))) = true by rw [decide_eq_false (fun z => hle (by injection z; omega))]; rfl]
      exact iteT ((q _ (Same.refl H)).2 fun z => hle z.1)
end

/-! ### mathematics -/
theorem PeakP.step {lv : List (Int × Int)} {sz : List Int} {n : Nat} {b : Int} (h : PeakP lv sz n b) : PeakP lv sz (n + 1) (if (sumAt lv sz lv.length (lvA lv n).1).sum > b then (sumAt lv sz lv.length (lvA lv n).1).sum else b) := by
  obtain ⟨h1, h2, h3⟩ := h
  generalize hs : (sumAt lv sz lv.length (lvA lv n).1).sum = s
  split
  · rename_i h
    refine ⟨.inr ⟨n, Nat.lt_succ_self _, hs.symm⟩, by omega, fun j hj => ?_⟩
    by_cases e : j = n
    · subst e
      rw [hs]
      exact Int.le_refl _
    · have := h3 j (by omega)
      omega
  · rename_i h
    refine ⟨h1.imp id fun ⟨j, hj, e⟩ => ⟨j, by omega, e⟩, h2, fun j hj => ?_⟩
    by_cases e : j = n
    · subst e
      rw [hs]
      omega
    · exact h3 j (by omega)
def blkW (sz pl : List Int) (n : Nat) : List Int := (List.range (ia sz n).toNat).map fun (e : Nat) => ia pl n + (e : Int)
def wordsAt (lv : List (Int × Int)) (sz pl : List Int) : Nat → Int → List Int
  | 0, _ => []
  | n + 1, t => if alv (lvA lv n) t = true then wordsAt lv sz pl n t ++ blkW sz pl n else wordsAt lv sz pl n t
theorem mem_blkW {sz pl : List Int} {n : Nat} {x : Int} : x ∈ blkW sz pl n ↔ ia pl n ≤ x ∧ x < ia pl n + ia sz n := by
  unfold blkW
  rw [List.mem_map]
  constructor
  · rintro ⟨e, he, rfl⟩
    rw [List.mem_range] at he
    omega
  · rintro ⟨h1, h2⟩
    refine ⟨(x - ia pl n).toNat, ?_, by omega⟩
    rw [List.mem_range]
    omega
theorem blkW_nodup (sz pl : List Int) (n : Nat) : (blkW sz pl n).Nodup := by
  unfold blkW
  refine List.pairwise_map.mpr ?_
  refine List.Pairwise.imp ?_ List.nodup_range
  intro a b h e
  exact h (by omega)
theorem blkW_len (sz pl : List Int) (n : Nat) : (blkW sz pl n).length = (ia sz n).toNat := by
  unfold blkW
  rw [List.length_map, List.length_range]
theorem mem_wordsAt {lv : List (Int × Int)} {sz pl : List Int} {t x : Int} : ∀ {n : Nat}, x ∈ wordsAt lv sz pl n t ↔ ∃ k, k < n ∧ alv (lvA lv k) t = true ∧ ia pl k ≤ x ∧ x < ia pl k + ia sz k
  | 0 => ⟨fun h => (by cases h), fun ⟨k, h, _⟩ => absurd h (Nat.not_lt_zero _)⟩
  | n + 1 => by
    unfold wordsAt
    by_cases h : alv (lvA lv n) t = true
    · rw [if_pos h, List.mem_append, mem_wordsAt, mem_blkW]
      constructor
      · rintro (⟨k, h1, h2⟩ | h2)
        · exact ⟨k, by omega, h2⟩
        · exact ⟨n, by omega, h, h2⟩
      · rintro ⟨k, h1, h2, h3⟩
        by_cases e : k = n
        · subst e
          exact .inr h3
        · exact .inl ⟨k, by omega, h2, h3⟩
    · rw [if_neg h, mem_wordsAt]
      constructor
      · rintro ⟨k, h1, h2⟩
        exact ⟨k, by omega, h2⟩
      · rintro ⟨k, h1, h2, h3⟩
        by_cases e : k = n
        · subst e
          exact absurd h2 h
        · exact ⟨k, by omega, h2, h3⟩
theorem wordsAt_nodup {lv : List (Int × Int)} {sz pl : List Int} {t : Int} : ∀ {n : Nat}, (∀ k, k < n → 1 ≤ ia sz k) → ((wordsAt lv sz pl n t).Nodup ↔ ∀ i j, i < n → j < i → alv (lvA lv i) t = true → alv (lvA lv j) t = true → ia pl i + ia sz i ≤ ia pl j ∨ ia pl j + ia sz j ≤ ia pl i)
  | 0, _ => ⟨fun _ i j h => absurd h (Nat.not_lt_zero _), fun _ => List.nodup_nil⟩
  | n + 1, hs => by
    have ih := wordsAt_nodup (lv := lv) (sz := sz) (pl := pl) (t := t) (n := n) fun k h => hs k (by omega)
    unfold wordsAt
    by_cases h : alv (lvA lv n) t = true
    · rw [if_pos h, List.nodup_append, ih]
      constructor
      · rintro ⟨h1, _, h3⟩ i j hi hj ai aj
        by_cases e : i = n
        · subst e
          have s1 := hs i (by omega)
          have s2 := hs j (by omega)
          by_cases c1 : ia pl i + ia sz i ≤ ia pl j
          · exact .inl c1
          · by_cases c2 : ia pl j + ia sz j ≤ ia pl i
            · exact .inr c2
            · by_cases c3 : ia pl i ≤ ia pl j
              · exact absurd rfl (h3 (ia pl j) (mem_wordsAt.mpr ⟨j, hj, aj, by omega, by omega⟩) (ia pl j) (mem_blkW.mpr ⟨by omega, by omega⟩))
              · exact absurd rfl (h3 (ia pl i) (mem_wordsAt.mpr ⟨j, hj, aj, by omega, by omega⟩) (ia pl i) (mem_blkW.mpr ⟨by omega, by omega⟩))
        · exact h1 i j (by omega) hj ai aj
      · intro h1
        refine ⟨fun i j hi hj => h1 i j (by omega) hj, blkW_nodup _ _ _, fun x hx y hy e => ?_⟩
        subst e
        obtain ⟨k, hk, ak, k1, k2⟩ := mem_wordsAt.mp hx
        obtain ⟨m1, m2⟩ := mem_blkW.mp hy
        have := h1 n k (by omega) hk h ak
        omega
    · rw [if_neg h, ih]
      constructor
      · intro h1 i j hi hj ai aj
        by_cases e : i = n
        · subst e
          exact absurd ai h
        · exact h1 i j (by omega) hj ai aj
      · exact fun h1 i j hi hj => h1 i j (by omega) hj
theorem wordsAt_len {lv : List (Int × Int)} {sz pl : List Int} {t : Int} : ∀ {n : Nat}, (∀ k, k < n → 0 ≤ ia sz k) → ((wordsAt lv sz pl n t).length : Int) = (sumAt lv sz n t).sum
  | 0, _ => rfl
  | n + 1, hs => by
    have ih := wordsAt_len (lv := lv) (sz := sz) (pl := pl) (t := t) (n := n) fun k h => hs k (by omega)
    have := hs n (by omega)
    unfold wordsAt
    rw [sumAt_succ]
    by_cases h : alv (lvA lv n) t = true
    · rw [if_pos h, if_pos h, List.length_append, List.sum_append, ← ih, blkW_len]
      show _ = _ + (ia sz n + 0)
      omega
    · rw [if_neg h, if_neg h, ih]
theorem wordsAt_le {lv : List (Int × Int)} {sz pl : List Int} {t : Int} : ∀ {n : Nat}, (∀ k, k < n → ia sz k ≤ 6) → (wordsAt lv sz pl n t).length ≤ 6 * n
  | 0, _ => Nat.le_refl _
  | n + 1, hs => by
    have ih := wordsAt_le (lv := lv) (sz := sz) (pl := pl) (t := t) (n := n) fun k h => hs k (by omega)
    have := hs n (by omega)
    unfold wordsAt
    split
    · rw [List.length_append, blkW_len]
      omega
    · omega
/-- what is known of the drawn lives and sizes -/
structure Drawn (lv : List (Int × Int)) (sz : List Int) : Prop where
  len : sz.length = lv.length
  few : lv.length ≤ 8
  lo : ∀ k, k < lv.length → 1 ≤ ia sz k
  hi : ∀ k, k < lv.length → ia sz k ≤ 6
  l0 : ∀ k, k < lv.length → 0 ≤ (lvA lv k).1
  l1 : ∀ k, k < lv.length → (lvA lv k).1 ≤ (lvA lv k).2
  l2 : ∀ k, k < lv.length → (lvA lv k).2 < 20
theorem alv_iff {p : Int × Int} {t : Int} : alv p t = true ↔ p.1 ≤ t ∧ t ≤ p.2 := by
  unfold alv
  rw [Bool.and_eq_true, decide_eq_true_eq, decide_eq_true_eq]
theorem ovl_iff {p q : Int × Int} : ovl p q = false ↔ ¬ (p.1 ≤ q.2 ∧ q.1 ≤ p.2) := by
  unfold ovl
  rw [← Bool.decide_and, decide_eq_false_iff_not]
theorem due_iff {lv : List (Int × Int)} {sz pl : List Int} (D : Drawn lv sz) (hl : pl.length = lv.length) :
    ((∀ i, i < pl.length → 0 ≤ ia pl i) ∧ ∀ t : Nat, t < 20 → (wordsAt lv sz pl lv.length (t : Int)).Nodup) ↔ OkP lv sz pl := by
  constructor
  · rintro ⟨h1, h2⟩
    refine ⟨hl, fun i hi => ⟨h1 i hi, fun j hj => ?_⟩⟩
    by_cases ho : ovl (lvA lv i) (lvA lv j) = false
    · exact .inr ho
    · refine .inl ?_
      have ho : (lvA lv i).1 ≤ (lvA lv j).2 ∧ (lvA lv j).1 ≤ (lvA lv i).2 := Classical.not_not.mp fun z => ho (ovl_iff.mpr z)
      have a1 := D.l0 i (by omega)
      have a2 := D.l1 i (by omega)
      have a3 := D.l2 i (by omega)
      have b1 := D.l0 j (by omega)
      have b2 := D.l1 j (by omega)
      have b3 := D.l2 j (by omega)
      by_cases c : (lvA lv i).1 ≤ (lvA lv j).1
      · have := (wordsAt_nodup D.lo).mp (h2 (lvA lv j).1.toNat (by omega))
        rw [Int.toNat_of_nonneg b1] at this
        exact this i j (by omega) hj (alv_iff.mpr ⟨c, ho.2⟩) (alv_iff.mpr ⟨Int.le_refl _, b2⟩)
      · have := (wordsAt_nodup D.lo).mp (h2 (lvA lv i).1.toNat (by omega))
        rw [Int.toNat_of_nonneg a1] at this
        exact this i j (by omega) hj (alv_iff.mpr ⟨Int.le_refl _, a2⟩) (alv_iff.mpr ⟨by omega, ho.1⟩)
  · rintro ⟨_, h⟩
    refine ⟨fun i hi => (h i hi).1, fun t _ => (wordsAt_nodup D.lo).mpr fun i j hi hj ai aj => ?_⟩
    obtain ⟨a1, a2⟩ := alv_iff.mp ai
    obtain ⟨b1, b2⟩ := alv_iff.mp aj
    refine ((h i (by omega)).2 j hj).resolve_right fun z => ?_
    exact (ovl_iff.mp z) ⟨by omega, by omega⟩
theorem nodup_range : ∀ (n : Nat) {l : List Nat}, l.Nodup → (∀ x ∈ l, x < n) → l.length ≤ n
  | 0, l, _, h => by
    cases l with
    | nil => exact Nat.le_refl _
    | cons x l => exact absurd (h x (List.mem_cons_self ..)) (Nat.not_lt_zero _)
  | n + 1, l, hn, h => by
    by_cases hm : n ∈ l
    · have ih := nodup_range n (hn.erase n) fun x hx => by
        have := h x (List.mem_of_mem_erase hx)
        have : x ≠ n := fun e => ((hn.mem_erase_iff).mp (e ▸ hx)).1 rfl
        omega
      rw [List.length_erase_of_mem hm] at ih
      omega
    · exact Nat.le_succ_of_le (nodup_range n hn fun x hx => by
        have := h x hx
        have : x ≠ n := fun e => hm (e ▸ hx)
        omega)
theorem nodup_bound {W : Int} (hW : 0 ≤ W) {l : List Int} (hn : l.Nodup) (hb : ∀ x ∈ l, 0 ≤ x ∧ x < W) : (l.length : Int) ≤ W := by
  have h1 : (l.map Int.toNat).Nodup := by
    refine List.pairwise_map.mpr (List.Pairwise.imp_of_mem ?_ hn)
    intro a b ha hb' h e
    have := hb a ha
    have := hb b hb'
    exact h (by omega)
  have h2 : (l.map Int.toNat).length ≤ W.toNat := by
    refine nodup_range _ h1 fun x hx => ?_
    obtain ⟨y, hy, rfl⟩ := List.mem_map.mp hx
    have := hb y hy
    omega
  rw [List.length_map] at h2
  omega
theorem ends_ge {lv : List (Int × Int)} {sz pl : List Int} (D : Drawn lv sz) (h : OkP lv sz pl) {t : Int} : (sumAt lv sz lv.length t).sum ≤ maxI 0 (endsOf sz pl) := by
  rw [← wordsAt_len (pl := pl) fun k hk => by have := D.lo k hk; omega]
  have hn : (wordsAt lv sz pl lv.length t).Nodup := (wordsAt_nodup D.lo).mpr fun i j hi hj ai aj => by
    obtain ⟨a1, a2⟩ := alv_iff.mp ai
    obtain ⟨b1, b2⟩ := alv_iff.mp aj
    refine ((h.2 i (by rw [h.1]; exact hi)).2 j hj).resolve_right fun z => ?_
    exact (ovl_iff.mp z) ⟨by omega, by omega⟩
  have at' : ∀ k, k < lv.length → 0 ≤ ia pl k ∧ ia pl k + ia sz k ≤ maxI 0 (endsOf sz pl) := fun k hk => by
    refine ⟨(h.2 k (by rw [h.1]; exact hk)).1, maxI_le _ ?_⟩
    exact List.mem_of_getElem? (endsOf_at (by rw [h.1]; exact hk) (by rw [D.len]; exact hk))
  refine nodup_bound ?_ hn fun x hx => ?_
  · rcases maxI_mem (d := 0) (ns := endsOf sz pl) with ⟨e, _⟩ | e
    · omega
    · obtain ⟨k, hk⟩ := List.mem_iff_getElem?.mp e
      have hlt := (List.getElem?_eq_some_iff.mp hk).1
      rw [endsOf_len, h.1, D.len] at hlt
      have := at' k (by omega)
      have := D.lo k (by omega)
      omega
  · obtain ⟨k, hk, ak, k1, k2⟩ := mem_wordsAt.mp hx
    have := at' k hk
    omega
theorem filter_sub {f g : Nat → Bool} {s : Nat → Int} : ∀ {l : List Nat}, (∀ k ∈ l, 0 ≤ s k) → (∀ k ∈ l, f k = true → g k = true) → ((l.filter f).map s).sum ≤ ((l.filter g).map s).sum
  | [], _, _ => Int.le_refl _
  | k :: l, h0, h => by
    have ih := filter_sub (f := f) (g := g) (s := s) (l := l) (fun k hk => h0 k (List.mem_cons_of_mem _ hk)) fun k hk => h k (List.mem_cons_of_mem _ hk)
    have h0k := h0 k (List.mem_cons_self ..)
    rw [List.filter_cons, List.filter_cons]
    by_cases hf : f k = true
    · rw [if_pos hf, if_pos (h k (List.mem_cons_self ..) hf), List.map_cons, List.map_cons, List.sum_cons, List.sum_cons]
      omega
    · rw [if_neg hf]
      split
      · rw [List.map_cons, List.sum_cons]
        omega
      · exact ih
/-- the last to begin, of those that live at t -/
theorem last_begin {lv : List (Int × Int)} {t : Int} : ∀ n : Nat, (∀ k, k < n → alv (lvA lv k) t = false) ∨ ∃ j, j < n ∧ alv (lvA lv j) t = true ∧ ∀ k, k < n → alv (lvA lv k) t = true → (lvA lv k).1 ≤ (lvA lv j).1
  | 0 => .inl fun k h => absurd h (Nat.not_lt_zero _)
  | n + 1 => by
    cases hn : alv (lvA lv n) t with
    | false =>
      rcases last_begin (lv := lv) (t := t) n with h | ⟨j, h1, h2, h3⟩
      · refine .inl fun k hk => ?_
        by_cases e : k = n
        · subst e; exact hn
        · exact h k (by omega)
      · refine .inr ⟨j, by omega, h2, fun k hk ak => ?_⟩
        by_cases e : k = n
        · subst e; rw [hn] at ak; cases ak
        · exact h3 k (by omega) ak
    | true =>
      rcases last_begin (lv := lv) (t := t) n with h | ⟨j, h1, h2, h3⟩
      · refine .inr ⟨n, Nat.lt_succ_self _, hn, fun k hk ak => ?_⟩
        by_cases e : k = n
        · subst e; exact Int.le_refl _
        · have := h k (by omega); rw [this] at ak; cases ak
      · by_cases c : (lvA lv j).1 ≤ (lvA lv n).1
        · refine .inr ⟨n, Nat.lt_succ_self _, hn, fun k hk ak => ?_⟩
          by_cases e : k = n
          · subst e; exact Int.le_refl _
          · have := h3 k (by omega) ak; omega
        · refine .inr ⟨j, by omega, h2, fun k hk ak => ?_⟩
          by_cases e : k = n
          · subst e; omega
          · exact h3 k (by omega) ak
theorem peak_same {lv : List (Int × Int)} {sz : List Int} (D : Drawn lv sz) {b m : Int} (hb : PeakP lv sz lv.length b) (hm : m = 0 ∨ ∃ t : Nat, t < 20 ∧ m = (sumAt lv sz lv.length (t : Int)).sum) (h0 : 0 ≤ m) (hle : ∀ t : Nat, t < 20 → (sumAt lv sz lv.length (t : Int)).sum ≤ m) : b = m := by
  obtain ⟨b1, b2, b3⟩ := hb
  have up : b ≤ m := by
    rcases b1 with rfl | ⟨j, hj, rfl⟩
    · exact h0
    · have a1 := D.l0 j hj
      have a2 := D.l1 j hj
      have a3 := D.l2 j hj
      have := hle (lvA lv j).1.toNat (by omega)
      rw [Int.toNat_of_nonneg a1] at this
      exact this
  have down : m ≤ b := by
    rcases hm with rfl | ⟨t, ht, rfl⟩
    · exact b2
    · rcases last_begin (lv := lv) (t := (t : Int)) lv.length with h | ⟨j, h1, h2, h3⟩
      · have : sumAt lv sz lv.length (t : Int) = [] := by
          unfold sumAt
          rw [List.filter_eq_nil_iff.mpr, List.map_nil]
          intro k hk
          rw [List.mem_range] at hk
          rw [h k hk]
          exact Bool.false_ne_true
        rw [this]
        exact b2
      · refine Int.le_trans (filter_sub (fun k hk => ?_) fun k hk ak => ?_) (b3 j h1)
        · rw [List.mem_range] at hk
          have := D.lo k hk
          omega
        · rw [List.mem_range] at hk
          obtain ⟨a1, a2⟩ := alv_iff.mp ak
          obtain ⟨c1, c2⟩ := alv_iff.mp h2
          exact alv_iff.mpr ⟨h3 k hk ak, by omega⟩
  omega
theorem ends_max {lv : List (Int × Int)} {sz pl : List Int} (D : Drawn lv sz) (h : OkP lv sz pl) {m : Int} (h1 : m ∈ 0 :: endsOf sz pl) (h2 : ∀ y ∈ 0 :: endsOf sz pl, y ≤ m) : m = maxI 0 (endsOf sz pl) := by
  have pos : ∀ x ∈ endsOf sz pl, 1 ≤ x := fun x hx => by
    obtain ⟨k, hk⟩ := List.mem_iff_getElem?.mp hx
    have hlt := (List.getElem?_eq_some_iff.mp hk).1
    rw [endsOf_len, h.1, D.len] at hlt
    rw [endsOf_at (by rw [h.1]; omega) (by rw [D.len]; omega)] at hk
    cases hk
    have := (h.2 k (by rw [h.1]; omega)).1
    have := D.lo k (by omega)
    omega
  have a := h2 0 (List.mem_cons_self ..)
  rcases maxI_mem (d := 0) (ns := endsOf sz pl) with ⟨e, en⟩ | e
  · rw [en] at h1
    rw [e]
    simpa using h1
  · have b := h2 _ (List.mem_cons_of_mem _ e)
    rcases List.mem_cons.mp h1 with rfl | h1
    · have := pos _ e
      omega
    · have := maxI_le (d := 0) _ h1
      omega

section
variable {P : Program} {w : World} {K : PySem.W.Frag} {mg : Str → Option Value} {base : Heap}
def spPeak (K : PySem.W.Frag) : Sp := fun vs H Q _ => ∃ (a b : Addr) (lv : List (Int × Int)) (sz : List Int), vs = [.ref a, .ref b] ∧ LvT H a lv ∧ H b = some (.tup (sz.map V.int)) ∧ sz.length = lv.length ∧ lv.length ≤ 900 ∧ ∀ H' m, Same H H' → PeakP lv sz lv.length m → Q (.int m) H'
abbrev nP : List Str := ["all_lives", "sizes", "best", "begin", "_", "living", "size", "first", "last"]
theorem scP : FnScope nP ["all_lives", "sizes"] (defScope sPeak) := ⟨rfl, rfl, rfl, by decide +kernel, rfl, by decide +kernel, by decide +kernel⟩
theorem ok_peak {f : Addr} {fd : FuncData} (F : Fun K "peak_of" "peak_of" sPeak f fd) (T : TxtP mg) : FnOk P w K mg base CX0 1 f fd ["all_lives", "sizes"] (spPeak K) := by
  refine F.ok scP (fun vs H Q E h => ?_) (fun cdv A outer s H vs Q E hr h => ?_)
  · obtain ⟨a, b, lv, sz, rfl, _⟩ := h
    rfl
  · obtain ⟨a, b, lv, sz, rfl, ⟨ts, ha, hx⟩, hb, hls, hlv, q⟩ := h
    refine ⟨_, (pss_cons (ps_set (i := 2) scP.nd rfl (.inl rfl) pe_int)
      (pss_cons (ps_for PassesOwn.never rfl (pi_tup (pv 0)) (pg_tup rfl (pgs_cons (pg_name (i := 3) scP.nd rfl (.inr rfl)) (pgs_cons (pg_name (i := 4) scP.nd rfl (.inl rfl)) pgs_nil))) (pss_cons (ps_setLc (i := 5) (own := [("size", 6), ("first", 7), ("last", 8)]) (g := (gTup K 2 (gCons (gTup K 2 (gCons (gName 7) (gCons (gName 8) gNil))) (gCons (gName 6) gNil)))) (tt := (tTest (tChain (rI0 fun i j => .bl (decide (i ≤ j))) (rI0 fun i j => .bl (decide (i ≤ j))) (tVar 7) (tVar 3) (tVar 8)))) (te := (tVar 6)) (by rfl) scP.nd rfl rfl (sw_true rfl rfl rfl (by decide +kernel)) (RZ.pi_zipA (by rfl) T.zip (pa_cons (pv 0) (pa_cons (pv 1) pa_nil))) (blkOk_by (N := nP) (sc := defScope sPeak) (by decide +kernel)) (fun _ _ _ _ _ => (pg_tup rfl (pgs_cons (pg_tup rfl (pgs_cons (pg_name (i := 7) scP.nd rfl (.inl rfl) (hf := Or.inr rfl)) (pgs_cons (pg_name (i := 8) scP.nd rfl (.inl rfl) (hf := Or.inr rfl)) pgs_nil))) (pgs_cons (pg_name (i := 6) scP.nd rfl (.inl rfl) (hf := Or.inr rfl)) pgs_nil)))) (fun _ _ _ _ _ => pts_one (pt_chain op_le op_le (pv 7) (pv 3) (pv 8))) (fun _ _ _ _ _ => (pv 6)))
      (pss_one (ps_set (i := 2) scP.nd rfl (.inl rfl) (pe_callB (call_max2 rfl) (by rfl) T.max (by decide +kernel) (pa_cons (pv 2) (pa_cons (pe_callB (cr_sum rfl) (by rfl) T.sum (by decide +kernel) (pa_cons (pv 5) pa_nil)) pa_nil)))))))
      (pss_one (ps_ret (pv 2))))), ?_⟩
    have htl : (ts.map V.ref).length = lv.length := by rw [List.length_map, hx.1]
    refine ⟨_, rfl, a, rfl, ⟨_, SqT.of ha⟩, for_tup (K := K) (a := a) (xs := ts.map V.ref) (fun i σ H' => ∃ (v3 v4 v5 : Option V) (m : Int), σ = [some (.ref a), some (.ref b), some (.int m), v3, v4, v5, none, none, none] ∧ Same H H' ∧ PeakP lv sz i m)
      ⟨none, none, none, 0, rfl, Same.refl H, .inl rfl, Int.le_refl _, fun j h => absurd h (Nat.not_lt_zero _)⟩ (fun i σ H' _ ⟨_, _, _, _, _, sm, _⟩ => SqT.of (sm _ _ ha)) ?_ ?_⟩
    · rintro i x σ H' hi ⟨v3, v4, v5, m, rfl, sm, hp⟩
      have hil : i < lv.length := by
        have := (List.getElem?_eq_some_iff.mp hi).1
        omega
      obtain ⟨t, _, t2, t3⟩ := (hx.same sm).at hil
      rw [t2] at hi
      cases hi
      refine ⟨t, _, rfl, SqT.of t3, rfl, _, _, rfl, _, _, rfl, rfl, ?_⟩
      have ha' := sm _ _ ha
      have hb' := sm _ _ hb
      refine ⟨_, rfl, _, rfl, a, b, ts.map V.ref, sz.map V.int, rfl, .inr ⟨SqT.of ha', SqT.of hb', fun D nD => lc_it (walk_zipT rfl) (fun j H3 => Same H' H3 ∧ H3 D = some (.lst ((sumAt lv sz j (lvA lv i).1).map V.int))) ⟨same_upd nD, upd_same⟩ (fun j H' _ h => ⟨SqT.of (h.1 _ _ ha'), SqT.of (h.1 _ _ hb')⟩) ?_ ?_⟩⟩
      · rintro j x H3 H4 hj ⟨sm3, hD⟩ ⟨T', x', y', rfl, nT, rfl, e1, e2⟩
        rw [htl, List.length_map] at hj
        have j1 : j < lv.length := by omega
        have j2 : j < sz.length := by omega
        obtain ⟨u, _, u2, u3⟩ := (hx.same (sm.trans sm3)).at j1
        dsimp only at e1 e2
        rw [u2] at e1
        rw [vat? j2] at e2
        cases e1
        cases e2
        have s2 := same_upd (o := .tup [.ref u, .int (sz.getD j 0)]) nT
        have hsl := sumAt_len lv sz j (lvA lv i).1
        have hsz : ((sumAt lv sz j (lvA lv i).1).map V.int).length < sizeLine := by
          rw [List.length_map]
          exact small1000 (by omega)
        have fin : Same H' (upd (upd H3 T' (.tup [.ref u, .int (sz.getD j 0)])) D (.lst ((sumAt lv sz j (lvA lv i).1).map V.int ++ [.int (ia sz j)]))) := fun c o e => by rw [upd_ne (ne_of_none e nD)]; exact s2 _ _ (sm3 _ _ e)
        have hD2 := s2 _ _ hD
        refine ⟨T', _, rfl, SqT.of upd_same, rfl, _, _, rfl, u, _, rfl, SqT.of (s2 _ _ u3), rfl, _, _, rfl, _, _, rfl, rfl, _, _, rfl, rfl, rfl, ?_⟩
        refine ⟨_, rfl, _, rfl, _, _, rfl, rfl, _, rfl, ite2 (fun e => ⟨_, rfl, _, _, rfl, rfl, _, rfl, ite2 (fun e' => ?_) (fun e' => ?_)⟩) (fun e => ⟨_, rfl, iteF ?_⟩)⟩
        · have al : alv (lvA lv j) (lvA lv i).1 = true := alv_iff.mpr ⟨of_decide_eq_true e, of_decide_eq_true e'⟩
          refine ⟨_, rfl, _, hD2, hsz, fin, ?_⟩
          rw [upd_same, sumAt_succ, if_pos al, List.map_append]
          rfl
        · have al : ¬ alv (lvA lv j) (lvA lv i).1 = true := fun z => e' (decide_eq_true (alv_iff.mp z).2)
          refine ⟨sm3.trans s2, ?_⟩
          rw [sumAt_succ, if_neg al]
          exact hD2
        · have al : ¬ alv (lvA lv j) (lvA lv i).1 = true := fun z => e (decide_eq_true (alv_iff.mp z).1)
          refine ⟨sm3.trans s2, ?_⟩
          rw [sumAt_succ, if_neg al]
          exact hD2
      · rintro H3 ⟨sm3, hD⟩
        rw [show min (ts.map V.ref).length (sz.map V.int).length = lv.length by rw [htl, List.length_map]; omega] at hD
        exact ⟨_, rfl, _, rfl, D, _, rfl, SqL.of hD, _, _, rfl, _, _, _, _, rfl, sm.trans sm3, hp.step⟩
    · rintro σ H' ⟨v3, v4, v5, m, rfl, sm, hp⟩
      rw [htl] at hp
      exact ⟨_, rfl, q _ _ sm hp⟩
/-- what the law's defs ask of places -/
def spTold (K : PySem.W.Frag) : Sp := fun vs H Q _ => ∃ (a b c : Addr) (lv : List (Int × Int)) (sz pl : List Int), vs = [.ref a, .ref b, .ref c] ∧ LvT H a lv ∧ H b = some (.tup (sz.map V.int)) ∧ H c = some (.tup (pl.map V.int)) ∧ sz.length = lv.length ∧ pl.length ≤ 1000 ∧
  ∀ H', Same H H' → (OkP lv sz pl → Q (.int (maxI 0 (endsOf sz pl))) H') ∧ (¬ OkP lv sz pl → Q .non H')
structure TxtE (K : PySem.W.Frag) (mg : Str → Option Value) (Z TE : Addr) : Prop where
  nT : ErrN K mg "TensorError" TE
  gZ : mg "PlaceError" = some (.ref Z)
  isi : mg "isinstance" = none
  sub : PySem.W.subIn K (.ref Z) (.ref TE) = some true
  exc : ExcC K Z
  kit : PySem.W.kitOne K (.ref Z) (.ref Z) = some true
abbrev nTD : List Str := ["lives", "sizes", "places", "actual", "e"]
theorem scTD : FnScope nTD ["lives", "sizes", "places"] (defScope sTold) := ⟨rfl, rfl, rfl, by decide +kernel, rfl, by decide +kernel, by decide +kernel⟩
theorem ok_told {f Z TE : Addr} {fd : FuncData} (F : Fun K "_law_told" "_law_told" sTold f fd) (T : TxtE K mg Z TE) (cC : Calls P w K mg base (L2.CX P w) 2 "check_places" ["all_lives", "sizes", "places"] (spCheck K Z)) : FnOk P w K mg base CX0 3 f fd ["lives", "sizes", "places"] (spTold K) := by
  obtain ⟨fC, dC, GC, kC, bC, gC⟩ := cC.ex
  refine F.ok scTD (fun vs H Q E h => ?_) (fun cdv A outer s H vs Q E hr h => ?_)
  · obtain ⟨a, b, c, lv, sz, pl, rfl, _⟩ := h
    rfl
  · obtain ⟨a, b, c, lv, sz, pl, rfl, ha, hb, hc, h1, h2, q⟩ := h
    refine ⟨_, pss_cons (ps_try_as (i := 4) (tb := fun W => tAsg (tCallS (spCheck K Z) (WE W) (tCons (tVar 0) (tCons (tVar 1) (tCons (tVar 2) tNil)))) (gName 3)) (Wout := fun _ _ _ _ => False) rfl rfl scTD.nd rfl rfl ⟨rfl, by decide, Or.inl T.nT.g⟩ takes0
        (fun W pn xe tk _ => pss_one (ps_set (i := 3) scTD.nd rfl (.inl rfl) (by exact (pe_callS GC hr (by rfl) gC kC bC (fun σ => passAt tk σ) (by exact (pa_cons (pv 0) (pa_cons (pv 1) (pa_cons (pv 2) pa_nil))))))))
        (fun a oe cls d pn hz hf => su_ok hz hf))
      (pss_one (ps_ret (pv 3))), ?_⟩
    refine ⟨_, rfl, _, rfl, _, rfl, a, b, c, lv, sz, pl, rfl, ha, hb, hc, h1, h2, fun H1 sm1 => ⟨fun ok => ?_, fun nok => ?_⟩⟩
    · exact ⟨_, rfl, (q _ sm1).1 ok⟩
    · refine ⟨true, T.nT.ex T.sub, fun _ ax hax => fun oe pn hz hf => ?_, fun z => nomatch z⟩
      refine ⟨_, pss_one (ps_ret (pe_ifExp (pt_val (pe_callB (call_isE T.exc hz hf) (by rfl) T.isi (by decide +kernel) (pa_cons (pv 4) (pa_cons (pe_glob (v := .ref Z) (by rfl) T.gZ rfl) pa_nil)))) pe_non pe_str)), ?_⟩
      exact ⟨_, rfl, _, _, _, rfl, fun _ h => h, T.kit, _, rfl, iteT ((q _ sm1).2 nok)⟩
def spDue (K : PySem.W.Frag) : Sp := fun vs H Q _ => ∃ (a b c : Addr) (lv : List (Int × Int)) (sz pl : List Int), vs = [.ref a, .ref b, .ref c] ∧ LvT H a lv ∧ H b = some (.tup (sz.map V.int)) ∧ H c = some (.lst (pl.map V.int)) ∧ Drawn lv sz ∧ pl.length ≤ 50 ∧
  ∀ H', Same H H' → (OkP lv sz pl → Q (.int (maxI 0 (endsOf sz pl))) H') ∧ (¬ OkP lv sz pl → Q .non H')
abbrev nD : List Str := ["lives", "sizes", "places", "t", "words", "k", "e"]
theorem scD : FnScope nD ["lives", "sizes", "places"] (defScope sDue) := ⟨rfl, rfl, rfl, by decide +kernel, rfl, by decide +kernel, by decide +kernel⟩
theorem ok_due {f : Addr} {fd : FuncData} (F : Fun K "_law_due" "_law_due" sDue f fd) (T : TxtP mg) : FnOk P w K mg base CX0 1 f fd ["lives", "sizes", "places"] (spDue K) := by
  refine F.ok scD (fun vs H Q E h => ?_) (fun cdv A outer s H vs Q E hr h => ?_)
  · obtain ⟨a, b, c, lv, sz, pl, rfl, _⟩ := h
    rfl
  · obtain ⟨a, b, c, lv, sz, pl, rfl, ⟨ts, ha, hx⟩, hb, hc, D, hpl, q⟩ := h
    refine ⟨_, (pss_cons (ps_if (PW.pt (pw_or (pt_cmpR op_ne (pe_callB call_len_seq (by rfl) T.len PySem.boot_len (pa_cons (pv 2) pa_nil)) (pe_callB call_len_seq (by rfl) T.len PySem.boot_len (pa_cons (pv 0) pa_nil)) (nomark _)) (pw_or1 (pt_cmpR op_lt (pe_callB (cr_min rfl) (by rfl) T.min (by decide +kernel) (pa_cons (pe_op op_cat (pe_lst (pa_cons pe_int pa_nil)) (pe_callTy call_list_of (by rfl) T.list (by decide +kernel) (pa_cons (pv 2) pa_nil))) pa_nil)) pe_int (nomark _))))) (pss_one (ps_ret pe_non)) pss_nil)
      (pss_cons (ps_for PassesOwn.never rfl (pi_range1 rfl T.range (pa_cons pe_int pa_nil)) (pg_name (i := 3) scD.nd rfl (.inl rfl)) (pss_cons (ps_set (i := 4) scD.nd rfl (.inl rfl) (pe_lst pa_nil))
      (pss_cons (ps_for PassesOwn.never rfl (pi_range1 rfl T.range (pa_cons (pe_callB call_len_seq (by rfl) T.len PySem.boot_len (pa_cons (pv 0) pa_nil)) pa_nil)) (pg_name (i := 5) scD.nd rfl (.inr rfl)) (pss_one (ps_if (pt_chain op_le op_le (pe_ix ix_tup (pe_ix ix_tup (pv 0) (pv 5) (fun _ _ => rfl)) pe_int (fun _ _ => rfl)) (pv 3) (pe_ix ix_tup (pe_ix ix_tup (pv 0) (pv 5) (fun _ _ => rfl)) pe_int (fun _ _ => rfl))) (pss_one (ps_set (i := 4) scD.nd rfl (.inl rfl) (pe_op op_cat (pv 4) (pe_lc (own := [("e", 6)]) (g := (gName 6)) (tt := tYes) (te := (tOp (rI0 fun i j => .int (i + j)) (tOp (rIxL K) (tVar 2) (tVar 5)) (tVar 6))) rfl scD.nd (pi_range1 rfl T.range (pa_cons (pe_ix ix_tup (pv 1) (pv 5) (fun _ _ => rfl)) pa_nil)) (blkOk_by (N := nD) (sc := defScope sDue) (by decide +kernel)) (fun _ _ _ _ _ => (pg_name (i := 6) scD.nd rfl (.inl rfl) (hf := Or.inr rfl))) (fun _ _ _ _ _ => pts_nil) (fun _ _ _ _ _ => (pe_op op_add (pe_ix ix_list (pv 2) (pv 5) (fun _ _ => rfl)) (pv 6))))))) pss_nil)))
      (pss_one (ps_if (pt_cmpR op_ne (pe_callB call_len_seq (by rfl) T.len PySem.boot_len (pa_cons (pv 4) pa_nil)) (pe_lenSetL (by rfl) T.len (by rfl) T.set (pv 4)) (nomark _)) (pss_one (ps_ret pe_non)) pss_nil)))))
      (pss_one (ps_ret (pe_callB (cr_max rfl) (by rfl) T.max (by decide +kernel) (pa_cons (pe_op op_cat (pe_lst (pa_cons pe_int pa_nil)) (pe_lc (own := [("k", 5)]) (g := (gName 5)) (tt := tYes) (te := (tOp (rI0 fun i j => .int (i + j)) (tOp (rIxL K) (tVar 2) (tVar 5)) (tOp (rIxT K) (tVar 1) (tVar 5)))) rfl scD.nd (pi_range1 rfl T.range (pa_cons (pe_callB call_len_seq (by rfl) T.len PySem.boot_len (pa_cons (pv 2) pa_nil)) pa_nil)) (blkOk_by (N := nD) (sc := defScope sDue) (by decide +kernel)) (fun _ _ _ _ _ => (pg_name (i := 5) scD.nd rfl (.inl rfl))) (fun _ _ _ _ _ => pts_nil) (fun _ _ _ _ _ => (pe_op op_add (pe_ix ix_list (pv 2) (pv 5) (fun _ _ => rfl)) (pe_ix ix_tup (pv 1) (pv 5) (fun _ _ => rfl)))))) pa_nil)))))), ?_⟩
    have htl : (ts.map V.ref).length = lv.length := by rw [List.length_map, hx.1]
    refine ⟨_, rfl, c, _, rfl, .inl (SqL.of hc), _, rfl, a, _, rfl, .inr (SqT.of ha), rfl, _, rfl, ?_⟩
    rw [htl, List.length_map]
    by_cases hle : pl.length = lv.length
    · refine iteNS (by rw [hle]) ?_
      have t1 : 1 ≤ sizeLine := by decide
      refine ⟨t1, fun p1 n1 => ⟨_, rfl, c, _, rfl, .inl (SqL.of (same_upd n1 _ _ hc)), fun p2 n2 => ⟨p1, p2, _, _, rfl, rfl, same_upd n2 _ _ upd_same, upd_same, ?_, fun p3 n3 => ?_⟩⟩⟩
      · rw [List.length_map]
        exact Nat.le_of_lt (small1000 (by show 1 + pl.length ≤ 1000; omega))
      have s3 := ((same_upd (o := .lst [.int 0]) n1).trans (same_upd (o := .lst (pl.map V.int)) n2)).trans (same_upd (o := .lst ([.int 0] ++ pl.map V.int)) n3)
      refine ⟨p3, 0 :: pl, rfl, SqL.of upd_same, Nat.succ_pos _, fun m hm hml => ⟨_, _, rfl, rfl, _, rfl, ?_⟩⟩
      generalize upd (upd (upd H p1 _) p2 _) p3 _ = H1 at s3
      clear n1 n2 n3
      refine ite2 (fun e => ?_) (fun e => ?_)
      · refine (q _ s3).2 fun z => ?_
        have e : m < 0 := of_decide_eq_true e
        rcases List.mem_cons.mp hm with rfl | hm
        · omega
        · obtain ⟨i, hi⟩ := List.mem_iff_getElem?.mp hm
          have hlt := (List.getElem?_eq_some_iff.mp hi).1
          rw [nat_at hlt] at hi
          cases hi
          have := (z.2 i hlt).1
          have e2 : ia pl i = pl.getD i 0 := rfl
          omega
      have hp0 : ∀ i, i < pl.length → 0 ≤ ia pl i := fun i hi => by
        have e : ¬ m < 0 := fun z => e (decide_eq_true z)
        have := hml _ (List.mem_cons_of_mem _ (List.mem_of_getElem? (nat_at hi)))
        have e2 : ia pl i = pl.getD i 0 := rfl
        omega
      clear hm hml e
      have ha := s3 _ _ ha
      have hb := s3 _ _ hb
      have hc := s3 _ _ hc
      have hx := hx.same s3
      refine ⟨20, rfl, by decide, by decide, for_range (lo := 0) (n := 20) (fun i σ H' => ∃ (v3 v4 v5 : Option V), σ = [some (.ref a), some (.ref b), some (.ref c), v3, v4, v5, none] ∧ Same H1 H' ∧ ∀ k, k < i → (wordsAt lv sz pl lv.length (k : Int)).Nodup)
        ⟨none, none, none, rfl, Same.refl _, fun k h => absurd h (Nat.not_lt_zero _)⟩ ?_ ?_⟩
      · rintro i σ H2 hi ⟨v3, v4, v5, rfl, sm, hnd⟩
        rw [Int.zero_add]
        have ha := sm _ _ ha
        have hb := sm _ _ hb
        have hc := sm _ _ hc
        have hx := hx.same sm
        refine ⟨Nat.zero_le _, fun p np => ?_⟩
        have sp := same_upd (o := .lst []) np
        refine ⟨_, rfl, a, _, rfl, .inr (SqT.of (sp _ _ ha)), _, rfl, ?_, ?_, for_range (lo := 0) (n := ((((ts.map V.ref).length : Nat) : Int)).toNat) (fun j σ H' => ∃ (v5 : Option V) (pp : Addr), σ = [some (.ref a), some (.ref b), some (.ref c), some (.int (i : Int)), some (.ref pp), v5, none] ∧ Same H2 H' ∧ H' pp = some (.lst ((wordsAt lv sz pl j (i : Int)).map V.int)))
          ⟨v5, p, rfl, sp, upd_same⟩ ?_ ?_⟩
        · omega
        · rw [htl]
          have := D.few
          omega
        · rintro j σ H' hj ⟨v5, pp, rfl, sm2, hpp⟩
          rw [Int.zero_add]
          rw [htl] at hj
          have hj : j < lv.length := by omega
          have j1 : j < sz.length := by rw [D.len]; exact hj
          have j2 : j < pl.length := by omega
          have ha := sm2 _ _ ha
          have hb := sm2 _ _ hb
          have hc := sm2 _ _ hc
          obtain ⟨t, _, t2, t3⟩ := (hx.same sm2).at hj
          have hw1 := wordsAt_le (lv := lv) (sz := sz) (pl := pl) (t := (i : Int)) (n := j) fun k hk => D.hi k (by omega)
          have d1 := D.lo j hj
          have d2 := D.hi j hj
          have d3 := D.few
          refine ⟨_, rfl, _, rfl, a, _, _, _, rfl, rfl, SqT.of ha, atI_nat t2, t, _, 0, _, rfl, rfl, SqT.of t3, rfl, _, rfl, _, _, rfl, rfl, _, rfl, ite2 (fun e => ⟨_, rfl, _, rfl, a, _, _, _, rfl, rfl, SqT.of ha, atI_nat t2, t, _, 1, _, rfl, rfl, SqT.of t3, rfl, _, _, rfl, rfl, _, rfl, ite2 (fun e' => ?_) (fun e' => ?_)⟩) (fun e => ⟨_, rfl, iteF ?_⟩)⟩
          · have al : alv (lvA lv j) (i : Int) = true := alv_iff.mpr ⟨of_decide_eq_true e, of_decide_eq_true e'⟩
            refine ⟨_, rfl, _, rfl, _, rfl, b, _, _, _, rfl, rfl, SqT.of hb, vatD j1, _, rfl, ?_, ?_, fun L nL => lc_range (lo := 0) (n := (ia sz j).toNat) (fun e H3 => Same H' H3 ∧ H3 L = some (.lst (((blkW sz pl j).take e).map V.int)))
              ⟨same_upd nL, upd_same⟩ ?_ ?_⟩
            · show -(2 ^ 62) ≤ ia sz j
              omega
            · show ia sz j < 2 ^ 62
              omega
            · rintro e H3 he ⟨sm3, hL⟩
              refine ⟨rfl, ?_⟩
              unfold tYes
              dsimp only
              rw [if_pos rfl]
              refine ⟨_, rfl, _, rfl, c, _, _, _, rfl, rfl, SqL.of (sm3 _ _ hc), vatD j2, _, rfl, _, _, rfl, rfl, _, hL, ?_, ?_, ?_⟩
              · rw [List.length_map, List.length_take, blkW_len]
                exact small1000 (by omega)
              · exact fun x o z => by rw [upd_ne (ne_of_none z nL)]; exact sm3 _ _ z
              · have g : (blkW sz pl j)[e]? = some (ia pl j + (e : Int)) := by
                  unfold blkW
                  rw [List.getElem?_map, List.getElem?_range he]
                  rfl
                rw [upd_same, take_snoc g, List.map_append, Int.zero_add]
                rfl
            · rintro H3 ⟨sm3, hL⟩
              rw [show (ia sz j).toNat = (blkW sz pl j).length from (blkW_len _ _ _).symm, List.take_length] at hL
              refine ⟨pp, L, _, _, rfl, rfl, sm3 _ _ hpp, hL, ?_, fun p4 n4 => ?_⟩
              · rw [List.length_map, List.length_map, blkW_len]
                exact Nat.le_of_lt (small1000 (by omega))
              refine ⟨_, p4, rfl, (sm2.trans sm3).trans (same_upd n4), ?_⟩
              rw [upd_same, ← List.map_append]
              show _ = some (HO.lst ((if alv (lvA lv j) (i : Int) = true then wordsAt lv sz pl j (i : Int) ++ blkW sz pl j else _).map V.int))
              rw [if_pos al]
          · have al : ¬ alv (lvA lv j) (i : Int) = true := fun z => e' (decide_eq_true (alv_iff.mp z).2)
            refine ⟨_, pp, rfl, sm2, ?_⟩
            show _ = some (HO.lst ((if alv (lvA lv j) (i : Int) = true then wordsAt lv sz pl j (i : Int) ++ blkW sz pl j else wordsAt lv sz pl j (i : Int)).map V.int))
            rw [if_neg al]
            exact hpp
          · have al : ¬ alv (lvA lv j) (i : Int) = true := fun z => e (decide_eq_true (alv_iff.mp z).1)
            refine ⟨_, pp, rfl, sm2, ?_⟩
            show _ = some (HO.lst ((if alv (lvA lv j) (i : Int) = true then wordsAt lv sz pl j (i : Int) ++ blkW sz pl j else wordsAt lv sz pl j (i : Int)).map V.int))
            rw [if_neg al]
            exact hpp
        · rintro σ H' ⟨v5, pp, rfl, sm2, hpp⟩
          rw [htl, Int.toNat_natCast] at hpp
          have hw1 := wordsAt_le (lv := lv) (sz := sz) (pl := pl) (t := (i : Int)) (n := lv.length) D.hi
          have d3 := D.few
          refine ⟨_, rfl, pp, _, rfl, .inl (SqL.of hpp), _, rfl, pp, _, rfl, SqL.of hpp, by omega, rfl, _, rfl, ?_⟩
          rw [List.length_map]
          obtain ⟨_, de⟩ := dedN_eq (wordsAt lv sz pl lv.length (i : Int))
          by_cases hd : (wordsAt lv sz pl lv.length (i : Int)).Nodup
          · refine iteNS (by rw [de.mpr hd]) ?_
            refine ⟨_, _, _, rfl, sm.trans sm2, fun k hk => ?_⟩
            by_cases ek : k = i
            · subst ek
              exact hd
            · exact hnd k (by omega)
          · rw [show (!decide (V.int (((wordsAt lv sz pl lv.length (i : Int)).length : Nat) : Int) = V.int ((dedN (wordsAt lv sz pl lv.length (i : Int)) : Nat) : Int))) = true by rw [decide_eq_false (fun z => hd (de.mp (by injection z; omega)))]; rfl]
            refine iteT ((q _ ((s3.trans sm).trans sm2)).2 fun z => ?_)
            exact hd (((due_iff D hle).mpr z).2 i hi)
      · rintro σ H2 ⟨v3, v4, v5, rfl, sm, hnd⟩
        have hok : OkP lv sz pl := (due_iff D hle).mp ⟨hp0, hnd⟩
        have hb := sm _ _ hb
        have hc := sm _ _ hc
        refine ⟨t1, fun p1 n1 => ?_⟩
        have s1 := same_upd (o := .lst [.int 0]) n1
        refine ⟨_, rfl, c, _, rfl, .inl (SqL.of (s1 _ _ hc)), _, rfl, ?_, ?_, fun L nL => lc_range (lo := 0) (n := ((((pl.map V.int).length : Nat) : Int)).toNat) (fun e H3 => Same (upd H2 p1 (.lst [.int 0])) H3 ∧ H3 L = some (.lst (((endsOf sz pl).take e).map V.int)))
          ⟨same_upd nL, upd_same⟩ ?_ ?_⟩
        · omega
        · rw [List.length_map]
          omega
        · rintro e H3 he ⟨sm3, hL⟩
          rw [List.length_map] at he
          have e1 : e < pl.length := by omega
          have e2 : e < sz.length := by rw [D.len]; omega
          refine ⟨rfl, ?_⟩
          unfold tYes
          dsimp only
          rw [if_pos rfl, Int.zero_add]
          refine ⟨_, rfl, _, rfl, c, _, _, _, rfl, rfl, SqL.of (sm3 _ _ (s1 _ _ hc)), vatD e1, _, rfl, _, rfl, b, _, _, _, rfl, rfl, SqT.of (sm3 _ _ (s1 _ _ hb)), vatD e2, _, _, rfl, rfl, _, hL, ?_, ?_, ?_⟩
          · rw [List.length_map, List.length_take]
            exact small1000 (by omega)
          · exact fun x o z => by rw [upd_ne (ne_of_none z nL)]; exact sm3 _ _ z
          · rw [upd_same, take_snoc (endsOf_at e1 e2), List.map_append]
            rfl
        · rintro H3 ⟨sm3, hL⟩
          rw [show ((((pl.map V.int).length : Nat) : Int)).toNat = (endsOf sz pl).length by rw [List.length_map, endsOf_len, D.len]; omega, List.take_length] at hL
          refine ⟨p1, L, _, _, rfl, rfl, sm3 _ _ upd_same, hL, ?_, fun p4 n4 => ?_⟩
          · rw [List.length_map, endsOf_len]
            exact Nat.le_of_lt (small1000 (by show 1 + _ ≤ 1000; omega))
          refine ⟨p4, 0 :: endsOf sz pl, rfl, SqL.of upd_same, Nat.succ_pos _, fun m h1 h2 => ?_⟩
          rw [ends_max D hok h1 h2]
          exact (q _ (((s3.trans sm).trans (s1.trans sm3)).trans (same_upd n4))).1 hok
    · rw [show (!decide (V.int ((pl.length : Nat) : Int) = V.int ((lv.length : Nat) : Int))) = true by rw [decide_eq_false (fun z => hle (by injection z; omega))]; rfl]
      exact iteT ((q _ (Same.refl H)).2 fun z => hle z.1)
end

section
variable {P : Program} {w : World} {K : PySem.W.Frag} {mg : Str → Option Value} {base : Heap}
structure Fy (H : Hp) (d c al as : Addr) (lv : List (Int × Int)) (sz : List Int) : Prop where
  dr : DrAt H d c
  l : LvT H al lv
  s : H as = some (.tup (sz.map V.int))
variable {H H' : Hp} {d c al as D : Addr} {lv : List (Int × Int)} {sz : List Int}
theorem Fy.same (f : Fy H d c al as lv sz) (s : Same H H') : Fy H' d c al as lv sz := ⟨f.dr.same s, f.l.same s, s _ _ f.s⟩
theorem Fy.but (f : Fy H d c al as lv sz) (k : But d H H') (dr : DrAt H' d c) : Fy H' d c al as lv sz := ⟨dr, f.l.keep fun b xs e => k.tup f.dr e, k.tup f.dr f.s⟩
theorem Fy.upd {xs ys : List V} (f : Fy H d c al as lv sz) (hD : H D = some (.lst xs)) (nd : D ≠ d) (nc : D ≠ c) : Fy (upd H D (.lst ys)) d c al as lv sz :=
  ⟨f.dr.upd _ nd nc, f.l.keep fun b xs e => by rw [upd_ne (ne_of e hD (fun z => nomatch z))]; exact e, by rw [upd_ne (ne_of f.s hD (fun z => nomatch z))]; exact f.s⟩
theorem new_ne (dr : DrAt H d c) (n : H D = none) : D ≠ d ∧ D ≠ c := ⟨(ne_of_none dr.lst.choose_spec n).symm, (ne_of_none dr.lstc.choose_spec n).symm⟩
theorem cut_ints (pl : List Int) (lo hi : Option Int) : ∃ pl' : List Int, cutV (pl.map V.int) lo hi = pl'.map V.int ∧ pl'.length ≤ pl.length := by
  refine ⟨(pl.drop (HT.sIx (pl.map V.int).length 0 lo)).take (HT.sIx (pl.map V.int).length (pl.map V.int).length hi - HT.sIx (pl.map V.int).length 0 lo), ?_, ?_⟩
  · rw [List.map_take, List.map_drop]
    rfl
  · rw [List.length_take, List.length_drop]
    omega
def spLaw (K : PySem.W.Frag) : Sp := fun vs H Q _ => ∃ (a : Addr) (ns : List Int), vs = [.ref a] ∧ SqL K H a (ns.map V.int) ∧ ns.length ≤ 63 ∧ ∀ H', Q (.bl true) H'
abbrev nL : List Str := ["script", "d", "many", "k", "firsts", "lives", "sizes", "peak", "told", "turn", "wide", "places", "at", "j", "menu", "actual", "first", "t"]
theorem scL : FnScope nL ["script"] (defScope sLaw) := ⟨rfl, rfl, rfl, by decide +kernel, rfl, by decide +kernel, by decide +kernel⟩
theorem ok_law {f : Addr} {fd : FuncData} (F : Fun K "law" "law" sLaw f fd) (T : TxtP mg) (cB : Calls P w K mg base CX0 1 "_law_begin" ["script"] (spBegin K)) (cT : Calls P w K mg base CX0 1 "_law_take" ["d", "many"] spTake) (cN : Calls P w K mg base CX0 1 "_law_int" ["actual"] spInt) (cTo : Calls P w K mg base CX0 3 "_law_told" ["lives", "sizes", "places"] (spTold K)) (cDu : Calls P w K mg base CX0 1 "_law_due" ["lives", "sizes", "places"] (spDue K)) (cP : Calls P w K mg base CX0 1 "peak_of" ["all_lives", "sizes"] (spPeak K)) : FnOk P w K mg base CX0 4 f fd ["script"] (spLaw K) := by
  obtain ⟨fB, dB, GB, kB, bB, gB⟩ := cB.ex
  obtain ⟨fT, dT, GT, kT, bT, gT⟩ := cT.ex
  obtain ⟨fN, dN, GN, kN, bN, gN⟩ := cN.ex
  obtain ⟨fTo, dTo, GTo, kTo, bTo, gTo⟩ := cTo.ex
  obtain ⟨fDu, dDu, GDu, kDu, bDu, gDu⟩ := cDu.ex
  obtain ⟨fP, dP, GP, kP, bP, gP⟩ := cP.ex
  refine F.ok scL (fun vs H Q E h => ?_) (fun cdv A outer s H vs Q E hr3 h => ?_)
  · obtain ⟨a, ns, rfl, _⟩ := h
    rfl
  · obtain ⟨a, ns, rfl, hS, hlen, q⟩ := h
    have hr1 : Room 1 _ := hr3.mono (by decide)
    refine ⟨_, (pss_cons (ps_set (i := 1) scL.nd rfl (.inr rfl) (pe_call GB hr1 (by rfl) gB kB bB .nil pass0 (pa_cons (pv 0) pa_nil)))
      (pss_cons (ps_set (i := 2) scL.nd rfl (.inr rfl) (pe_call GT hr1 (by rfl) gT kT bT .nil pass0 (pa_cons (pv 1) (pa_cons pe_int pa_nil))))
      (Evl.pss_cut (ps_setLc (i := 4) (own := [("k", 3)]) (g := (gName 3)) (tt := tYes) (te := (tCall spTake [] E0 (tCons (tVar 1) (tCons (tC (.int 8)) tNil)))) (by rfl) scL.nd rfl rfl (sw_true rfl rfl rfl (by decide +kernel)) (pi_range1 rfl T.range (pa_cons (pv 2) pa_nil)) (blkOk_by (N := nL) (sc := defScope sLaw) (by decide +kernel)) (fun _ _ _ _ _ => (pg_name (i := 3) scL.nd rfl (.inl rfl))) (fun _ _ _ _ _ => pts_nil) (fun _ _ _ _ _ => (pe_call GT hr1 (by rfl) gT kT bT .nil pass0 (pa_cons (pv 1) (pa_cons pe_int pa_nil)))))
      (pss_cons (ps_set (i := 5) scL.nd rfl (.inr rfl) (pe_callTy call_tuple_of (by rfl) T.tuple (by decide +kernel) (pa_cons (pe_lc (own := [("first", 16)]) (g := (gName 16)) (tt := tYes) (te := (tTup (tCons (tVar 16) (tCons (tOp (rI0 fun i j => .int (i + j)) (tVar 16) (tCall spTake [] E0 (tCons (tVar 1) (tCons (tC (.int 5)) tNil)))) tNil)))) rfl scL.nd (pi_list (pv 4)) (blkOk_by (N := nL) (sc := defScope sLaw) (by decide +kernel)) (fun _ _ _ _ _ => (pg_name (i := 16) scL.nd rfl (.inl rfl) (hf := Or.inr rfl))) (fun _ _ _ _ _ => pts_nil) (fun _ _ _ _ _ => (pe_tup (pa_cons (pv 16) (pa_cons (pe_op op_add (pv 16) (pe_call GT hr1 (by rfl) gT kT bT .nil pass0 (pa_cons (pv 1) (pa_cons pe_int pa_nil)))) pa_nil))))) pa_nil)))
      (pss_cons (ps_set (i := 6) scL.nd rfl (.inr rfl) (pe_callTy call_tuple_of (by rfl) T.tuple (by decide +kernel) (pa_cons (pe_lc (own := [("k", 3)]) (g := (gName 3)) (tt := tYes) (te := (tOp (rI0 fun i j => .int (i + j)) (tC (.int 1)) (tCall spTake [] E0 (tCons (tVar 1) (tCons (tC (.int 6)) tNil))))) rfl scL.nd (pi_range1 rfl T.range (pa_cons (pv 2) pa_nil)) (blkOk_by (N := nL) (sc := defScope sLaw) (by decide +kernel)) (fun _ _ _ _ _ => (pg_name (i := 3) scL.nd rfl (.inl rfl))) (fun _ _ _ _ _ => pts_nil) (fun _ _ _ _ _ => (pe_op op_add pe_int (pe_call GT hr1 (by rfl) gT kT bT .nil pass0 (pa_cons (pv 1) (pa_cons pe_int pa_nil)))))) pa_nil)))
      (pss_cons (ps_set (i := 7) scL.nd rfl (.inl rfl) (pe_callB (cr_max rfl) (by rfl) T.max (by decide +kernel) (pa_cons (pe_op op_cat (pe_lst (pa_cons pe_int pa_nil)) (pe_lc (own := [("t", 17)]) (g := (gName 17)) (tt := tYes) (te := (tCB (rSum K) (tCons (tLc (iRng1 (tCons (tVar 2) tNil)) (gName 3) (tTest (tChain (rI0 fun i j => .bl (decide (i ≤ j))) (rI0 fun i j => .bl (decide (i ≤ j))) (tOp (rIxT K) (tOp (rIxT K) (tVar 5) (tVar 3)) (tC (.int 0))) (tVar 17) (tOp (rIxT K) (tOp (rIxT K) (tVar 5) (tVar 3)) (tC (.int 1))))) (tOp (rIxT K) (tVar 6) (tVar 3)) [3]) tNil))) rfl scL.nd (pi_range1 rfl T.range (pa_cons pe_int pa_nil)) (blkOk_by (N := nL) (sc := defScope sLaw) (by decide +kernel)) (fun _ _ _ _ _ => (pg_name (i := 17) scL.nd rfl (.inr rfl) (hf := Or.inl rfl))) (fun _ _ _ _ _ => pts_nil) (fun _ _ _ _ _ => (pe_callB (cr_sum rfl) (by rfl) T.sum (by decide +kernel) (pa_cons (pe_lc (own := [("k", 3)]) (g := (gName 3)) (tt := (tTest (tChain (rI0 fun i j => .bl (decide (i ≤ j))) (rI0 fun i j => .bl (decide (i ≤ j))) (tOp (rIxT K) (tOp (rIxT K) (tVar 5) (tVar 3)) (tC (.int 0))) (tVar 17) (tOp (rIxT K) (tOp (rIxT K) (tVar 5) (tVar 3)) (tC (.int 1)))))) (te := (tOp (rIxT K) (tVar 6) (tVar 3))) rfl scL.nd (pi_range1 rfl T.range (pa_cons (pv 2) pa_nil)) (blkOk_by (by rfl)) (fun _ _ _ _ _ => (pg_name (i := 3) scL.nd rfl (.inl rfl))) (fun _ _ _ _ _ => pts_one (pt_chain op_le op_le (pe_ix ix_tup (pe_ix ix_tup (pv 5) (pv 3) (fun _ _ => rfl)) pe_int (fun _ _ => rfl)) (pv 17) (pe_ix ix_tup (pe_ix ix_tup (pv 5) (pv 3) (fun _ _ => rfl)) pe_int (fun _ _ => rfl)))) (fun _ _ _ _ _ => (pe_ix ix_tup (pv 6) (pv 3) (fun _ _ => rfl)))) pa_nil))))) pa_nil)))
      (pss_cons (ps_set (i := 8) scL.nd rfl (.inl rfl) (pe_call GP hr1 (by rfl) gP kP bP .nil pass0 (pa_cons (pv 5) (pa_cons (pv 6) pa_nil))))
      (pss_cons (ps_if (PW.pt (pw_or (pt_not (pt_val (pe_call GN hr1 (by rfl) gN kN bN .nil pass0 (pa_cons (pv 8) pa_nil)))) (pw_or1 (pt_cmpR op_ne (pv 8) (pv 7) (nomark _))))) (pss_one (ps_ret pe_bl)) pss_nil)
      (pss_cons (ps_for PassesOwn.never rfl (pi_range1 rfl T.range (pa_cons pe_int pa_nil)) (pg_name (i := 9) scL.nd rfl (.inl rfl)) (pss_cons (ps_set (i := 10) scL.nd rfl (.inr rfl) (pe_op op_add pe_int (pe_call GT hr1 (by rfl) gT kT bT .nil pass0 (pa_cons (pv 1) (pa_cons pe_int pa_nil)))))
      (pss_cons (ps_setLc (i := 11) (own := [("k", 3)]) (g := (gName 3)) (tt := tYes) (te := (tCall spTake [] E0 (tCons (tVar 1) (tCons (tVar 10) tNil)))) (by rfl) scL.nd rfl rfl (sw_true rfl rfl rfl (by decide +kernel)) (pi_range1 rfl T.range (pa_cons (pv 2) pa_nil)) (blkOk_by (N := nL) (sc := defScope sLaw) (by decide +kernel)) (fun _ _ _ _ _ => (pg_name (i := 3) scL.nd rfl (.inl rfl))) (fun _ _ _ _ _ => pts_nil) (fun _ _ _ _ _ => (pe_call GT hr1 (by rfl) gT kT bT .nil pass0 (pa_cons (pv 1) (pa_cons (pv 10) pa_nil)))))
      (Evl.pss_cut (ps_if (pt_cmpR op_eq (pv 9) pe_int (nomark _)) (pss_cons (ps_set (i := 11) scL.nd rfl (.inl rfl) (pe_lst pa_nil))
      (pss_one (ps_for PassesOwn.never rfl (pi_range1 rfl T.range (pa_cons (pv 2) pa_nil)) (pg_name (i := 3) scL.nd rfl (.inl rfl)) (pss_cons (ps_set (i := 12) scL.nd rfl (.inl rfl) pe_int)
      (pss_cons (ps_for PassesOwn.never rfl (pi_range1 rfl T.range (pa_cons (pv 3) pa_nil)) (pg_name (i := 13) scL.nd rfl (.inl rfl)) (pss_one (ps_if (PW.pt (pw_and (pt_cmpR op_le (pe_ix ix_tup (pe_ix ix_tup (pv 5) (pv 13) (fun _ _ => rfl)) pe_int (fun _ _ => rfl)) (pe_ix ix_tup (pe_ix ix_tup (pv 5) (pv 3) (fun _ _ => rfl)) pe_int (fun _ _ => rfl)) (nomark _)) (pw_and1 (pt_cmpR op_le (pe_ix ix_tup (pe_ix ix_tup (pv 5) (pv 3) (fun _ _ => rfl)) pe_int (fun _ _ => rfl)) (pe_ix ix_tup (pe_ix ix_tup (pv 5) (pv 13) (fun _ _ => rfl)) pe_int (fun _ _ => rfl)) (nomark _))))) (pss_one (ps_set (i := 12) scL.nd rfl (.inl rfl) (pe_callB (call_max2 rfl) (by rfl) T.max (by decide +kernel) (pa_cons (pv 12) (pa_cons (pe_op op_add (pe_ix ix_list (pv 11) (pv 13) (fun _ _ => rfl)) (pe_ix ix_tup (pv 6) (pv 13) (fun _ _ => rfl))) pa_nil))))) pss_nil)))
      (pss_one (ps_expr (pe_bm PySem.F.plainAttrs_list PySem.F.slot_list_append PySem.F.type_list_append mt_append (pv 11) (pa_cons (pv 12) pa_nil))))))))) pss_nil)
      (pss_cons (ps_set (i := 14) scL.nd rfl (.inl rfl) (pe_call GT hr1 (by rfl) gT kT bT .nil pass0 (pa_cons (pv 1) (pa_cons pe_int pa_nil))))
      (Evl.pss_cut (ps_if (PW.pt (pw_and (pt_cmpR op_eq (pv 14) pe_int (nomark _)) (pw_and1 (pt_cmpR op_gt (pv 2) pe_int (nomark _))))) (pss_one (ps_asg (pe_op op_sub pe_int pe_int) (pg_sub (pv 11) (pe_call GT hr1 (by rfl) gT kT bT .nil pass0 (pa_cons (pv 1) (pa_cons (pv 2) pa_nil))) set_list))) (pss_one (ps_if (pt_cmpR op_eq (pv 14) pe_int (nomark _)) (pss_one (ps_set (i := 11) scL.nd rfl (.inl rfl) (pe_ifExp (pt_cmpR op_eq (pe_call GT hr1 (by rfl) gT kT bT .nil pass0 (pa_cons (pv 1) (pa_cons pe_int pa_nil))) pe_int (nomark _)) (pe_slice sl_list (pv 11) (po_some pe_int) po_none) (pe_op op_cat (pv 11) (pe_lst (pa_cons pe_int pa_nil)))))) pss_nil)))
      (pss_cons (ps_set (i := 15) scL.nd rfl (.inl rfl) (pe_call GTo hr3 (by rfl) gTo kTo bTo .nil pass0 (pa_cons (pv 5) (pa_cons (pv 6) (pa_cons (pe_callTy call_tuple_of (by rfl) T.tuple (by decide +kernel) (pa_cons (pv 11) pa_nil)) pa_nil)))))
      (pss_cons (ps_if (pt_cmpR op_ne (pv 15) (pe_call GDu hr1 (by rfl) gDu kDu bDu .nil pass0 (pa_cons (pv 5) (pa_cons (pv 6) (pa_cons (pv 11) pa_nil)))) (nomark _)) (pss_one (ps_ret pe_bl)) pss_nil)
      (pss_one (ps_if (PW.pt (pw_and (pt_cmpR op_notN (pv 15) pe_non (nomark _)) (pw_and1 (PW.pt (pw_or (pt_not (pt_val (pe_call GN hr1 (by rfl) gN kN bN .nil pass0 (pa_cons (pv 15) pa_nil)))) (pw_or1 (pt_cmpR op_lt (pv 15) (pv 7) (nomark _)))))))) (pss_one (ps_ret pe_bl)) pss_nil))))))))))
      (pss_one (ps_ret pe_bl))))))))))), ?_⟩
    refine ⟨_, rfl, a, ns, rfl, hS, hlen, fun H1 d c sm1 nd nc dr => ?_⟩
    refine ⟨_, rfl, d, c, 8, rfl, dr, by decide, bnd_le (by decide), fun H2 nv k2 dr2 n0 n1 => ?_⟩
    obtain ⟨n, rfl⟩ : ∃ n : Nat, nv = (n : Int) := ⟨nv.toNat, by omega⟩
    clear dr k2 sm1 nd nc
    refine ⟨fun σ' H' => ∃ (D1 : Addr) (fs : List Int), σ' = [some (.ref a), some (.ref d), some (.int (n : Int)), none, some (.ref D1), none, none, none, none, none, none, none, none, none, none, none, none, none] ∧ DrAt H' d c ∧ H' D1 = some (.lst (fs.map V.int)) ∧ D1 ≠ d ∧ fs.length = n ∧ ∀ k, k < n → 0 ≤ ia fs k ∧ ia fs k < 8, ?_, ?_⟩
    · refine ⟨_, rfl, _, rfl, by omega, by omega, fun D nD => lc_range (lo := 0) (n := ((n : Nat) : Int).toNat) (fun i H' => ∃ fs : List Int, H' D = some (.lst (fs.map V.int)) ∧ fs.length = i ∧ (∀ k, k < i → 0 ≤ ia fs k ∧ ia fs k < 8) ∧ DrAt H' d c)
        ⟨[], upd_same, rfl, fun k h => absurd h (Nat.not_lt_zero _), dr2.same (same_upd nD)⟩ ?_ ?_⟩
      · rintro i H' hi ⟨fs, hD, hl, hb, dr'⟩
        obtain ⟨hDd, hDc⟩ := new_ne dr2 nD
        refine ⟨rfl, ?_⟩
        unfold tYes
        dsimp only
        rw [if_pos rfl]
        refine ⟨_, rfl, d, c, 8, rfl, dr', by decide, bnd_le (by decide), fun H3 v k3 dr3 v0 v1 => ⟨_, keepD k3 hDd hD, ?_, fs ++ [v], ?_, ?_, ?_, dr3.upd _ hDd hDc⟩⟩
        · rw [List.length_map, hl]
          exact small1000 (by omega)
        · rw [upd_same, List.map_append]
          rfl
        · rw [List.length_append, hl]
          rfl
        · intro k hk
          by_cases e : k < fs.length
          · rw [show ia (fs ++ [v]) k = ia fs k by unfold ia; rw [List.getD_eq_getElem?_getD, List.getD_eq_getElem?_getD, List.getElem?_append_left e]]
            exact hb k (by omega)
          · have ek : k = fs.length := by omega
            subst ek
            rw [show ia (fs ++ [v]) fs.length = v by unfold ia; rw [List.getD_eq_getElem?_getD, List.getElem?_append_right (Nat.le_refl _), Nat.sub_self]; rfl]
            exact ⟨v0, v1⟩
      · rintro H3 ⟨fs, hD, hl, hb, dr3⟩
        rw [Int.toNat_natCast] at hl hb
        exact ⟨D, fs, rfl, dr3, hD, (new_ne dr2 nD).1, hl, hb⟩
    clear dr2
    rintro σ' H3 ⟨D1, fs, rfl, dr3, hD1, hD1d, hfl, hfb⟩
    -- lives
    refine ⟨_, rfl, D1, rfl, ⟨_, SqL.of hD1⟩, fun D nD => lc_list (K := K) (a := D1) (xs := fs.map V.int) (fun i H' => ∃ (ts : List Addr) (lv : List (Int × Int)), H' D = some (.lst (ts.map V.ref)) ∧ Tups H' ts lv ∧ lv.length = i ∧ (∀ k, k < i → 0 ≤ (lvA lv k).1 ∧ (lvA lv k).1 ≤ (lvA lv k).2 ∧ (lvA lv k).2 < 20) ∧ DrAt H' d c ∧ H' D1 = some (.lst (fs.map V.int)))
      ⟨[], [], upd_same, Tups.nil, rfl, fun k h => absurd h (Nat.not_lt_zero _), dr3.same (same_upd nD), same_upd nD _ _ hD1⟩ (fun i H' _ ⟨_, _, _, _, _, _, _, e⟩ => SqL.of e) ?_ ?_⟩
    · rintro i x H' hi ⟨ts, lv, hD, hx, hl, hb, dr', hD1'⟩
      have hif : i < fs.length := by
        have := (List.getElem?_eq_some_iff.mp hi).1
        rw [List.length_map] at this
        exact this
      rw [vat? hif] at hi
      cases hi
      obtain ⟨f0, f1⟩ := hfb i (by omega)
      obtain ⟨hDd, hDc⟩ := new_ne dr3 nD
      have hDD1 : D ≠ D1 := (ne_of_none hD1 nD).symm
      refine ⟨rfl, ?_⟩
      unfold tYes
      dsimp only
      rw [if_pos rfl]
      have t2 : 2 ≤ sizeLine := by decide
      refine ⟨_, rfl, _, rfl, _, rfl, d, c, 5, rfl, dr', by decide, bnd_le (by decide), fun H4 v k4 dr4 v0 v1 => ⟨_, _, rfl, rfl, t2, fun t nt => ⟨_, same_upd nt _ _ (keepD k4 hDd hD), ?_, ts ++ [t], lv ++ [(ia fs i, ia fs i + v)], ?_, ?_, ?_, ?_, ?_, ?_⟩⟩⟩
      · rw [List.length_map, hx.1, hl]
        exact small1000 (by omega)
      · rw [upd_same, List.map_append]
        rfl
      · have hx4 := (hx.keep fun b xs e => k4.tup dr' e).same (same_upd (o := .tup [.int (fs.getD i 0), .int (fs.getD i 0 + v)]) nt)
        refine (hx4.snoc (p := (ia fs i, ia fs i + v)) upd_same).keep fun b xs e => ?_
        rw [upd_ne (ne_of e (same_upd nt _ _ (keepD k4 hDd hD)) (fun z => nomatch z))]
        exact e
      · rw [List.length_append, hl]
        rfl
      · intro k hk
        by_cases e : k < lv.length
        · rw [show lvA (lv ++ [(ia fs i, ia fs i + v)]) k = lvA lv k by unfold lvA; rw [List.getD_eq_getElem?_getD, List.getD_eq_getElem?_getD, List.getElem?_append_left e]]
          exact hb k (by omega)
        · have ek : k = lv.length := by omega
          subst ek
          rw [show lvA (lv ++ [(ia fs i, ia fs i + v)]) lv.length = (ia fs i, ia fs i + v) by unfold lvA; rw [List.getD_eq_getElem?_getD, List.getElem?_append_right (Nat.le_refl _), Nat.sub_self]; rfl]
          exact ⟨f0, by show ia fs i ≤ ia fs i + v; omega, by show ia fs i + v < 20; omega⟩
      · exact (dr4.same (same_upd nt)).upd _ hDd hDc
      · rw [upd_ne hDD1.symm]
        exact same_upd nt _ _ (keepD k4 hD1d hD1')
    · rintro H4 ⟨ts, lv, hD, hx, hl, hb, dr4, _⟩
      rw [List.length_map, hfl] at hl hb
      refine ⟨D, _, rfl, .inl ⟨SqL.of hD, fun al nal => ?_⟩⟩
      have s1 := same_upd (o := .tup (ts.map V.ref)) nal
      have hlv : LvT (upd H4 al (.tup (ts.map V.ref))) al lv := ⟨ts, upd_same, hx.same s1⟩
      have dr5 := dr4.same s1
      generalize upd H4 al (.tup (ts.map V.ref)) = H5 at hlv dr5
      clear s1 nal dr4 hx hD nD dr3 hD1 hD1d
      -- sizes
      refine ⟨_, rfl, _, rfl, by omega, by omega, fun D nD => lc_range (lo := 0) (n := ((n : Nat) : Int).toNat) (fun i H' => ∃ fs : List Int, H' D = some (.lst (fs.map V.int)) ∧ fs.length = i ∧ (∀ k, k < i → 1 ≤ ia fs k ∧ ia fs k ≤ 6) ∧ DrAt H' d c ∧ LvT H' al lv)
        ⟨[], upd_same, rfl, fun k h => absurd h (Nat.not_lt_zero _), dr5.same (same_upd nD), hlv.same (same_upd nD)⟩ ?_ ?_⟩
      · rintro i H' hi ⟨fs, hD, hl, hb, dr', hlv'⟩
        obtain ⟨hDd, hDc⟩ := new_ne dr5 nD
        refine ⟨rfl, ?_⟩
        unfold tYes
        dsimp only
        rw [if_pos rfl]
        refine ⟨_, rfl, d, c, 6, rfl, dr', by decide, bnd_le (by decide), fun H3 v k3 dr3 v0 v1 => ⟨_, _, rfl, rfl, _, keepD k3 hDd hD, ?_, fs ++ [1 + v], ?_, ?_, ?_, dr3.upd _ hDd hDc, (hlv'.keep fun b xs e => k3.tup dr' e).keep fun b xs e => ?_⟩⟩
        · rw [List.length_map, hl]
          exact small1000 (by omega)
        · rw [upd_same, List.map_append]
          rfl
        · rw [List.length_append, hl]
          rfl
        · intro k hk
          by_cases e : k < fs.length
          · rw [show ia (fs ++ [1 + v]) k = ia fs k by unfold ia; rw [List.getD_eq_getElem?_getD, List.getD_eq_getElem?_getD, List.getElem?_append_left e]]
            exact hb k (by omega)
          · have ek : k = fs.length := by omega
            subst ek
            rw [show ia (fs ++ [1 + v]) fs.length = 1 + v by unfold ia; rw [List.getD_eq_getElem?_getD, List.getElem?_append_right (Nat.le_refl _), Nat.sub_self]; rfl]
            omega
        · rw [upd_ne (ne_of e (keepD k3 hDd hD) (fun z => nomatch z))]
          exact e
      · rintro H6 ⟨sz, hD, hsl, hsb, dr6, hlv6⟩
        rw [Int.toNat_natCast] at hsl hsb
        refine ⟨D, _, rfl, .inl ⟨SqL.of hD, fun as nas => ?_⟩⟩
        have s1 := same_upd (o := .tup (sz.map V.int)) nas
        have fy : Fy (upd H6 as (.tup (sz.map V.int))) d c al as lv sz := ⟨dr6.same s1, hlv6.same s1, upd_same⟩
        have DW : Drawn lv sz := ⟨by omega, by omega, fun k hk => (hsb k (by omega)).1, fun k hk => (hsb k (by omega)).2, fun k hk => (hb k (by omega)).1, fun k hk => (hb k (by omega)).2.1, fun k hk => (hb k (by omega)).2.2⟩
        generalize upd H6 as (.tup (sz.map V.int)) = H7 at fy
        clear s1 nas dr6 hlv6 hD nD hlv dr5 hsb hb hfb
        -- peak
        have t1 : 1 ≤ sizeLine := by decide
        refine ⟨t1, fun p1 n1 => ⟨20, rfl, by decide, by decide, fun L nL => lc_range (lo := 0) (n := 20) (fun i H' => ∃ sm : List Int, H' L = some (.lst (sm.map V.int)) ∧ sm.length = i ∧ (∀ k : Nat, k < i → ia sm k = (sumAt lv sz lv.length (k : Int)).sum) ∧ Same (upd H7 p1 (.lst [.int 0])) H')
          ⟨[], upd_same, rfl, fun k h => absurd h (Nat.not_lt_zero _), same_upd nL⟩ ?_ ?_⟩⟩
        · rintro i H' hi ⟨sm, hL, hl, hb, s1⟩
          have fy' := (fy.same (same_upd n1)).same s1
          obtain ⟨ts, hal, hx⟩ := id fy'.l
          rw [Int.zero_add]
          refine ⟨rfl, ?_⟩
          unfold tYes
          dsimp only
          rw [if_pos rfl]
          refine ⟨_, rfl, _, rfl, by omega, by omega, fun D3 nD3 => lc_range (lo := 0) (n := ((n : Nat) : Int).toNat) (fun j H3 => Same H' H3 ∧ H3 D3 = some (.lst ((sumAt lv sz j (i : Int)).map V.int)))
            ⟨same_upd nD3, upd_same⟩ ?_ ?_⟩
          · rintro j H3 hj ⟨sm3, hD3⟩
            have j1 : j < lv.length := by omega
            have j2 : j < sz.length := by omega
            obtain ⟨t, _, t2, t3⟩ := (hx.same sm3).at j1
            have ha3 := sm3 _ _ hal
            have hs3 := sm3 _ _ fy'.s
            have hsl := sumAt_len lv sz j (i : Int)
            rw [Int.zero_add]
            refine ⟨rfl, ?_⟩
            refine ⟨_, rfl, _, rfl, al, _, _, _, rfl, rfl, SqT.of ha3, atI_nat t2, t, _, 0, _, rfl, rfl, SqT.of t3, rfl, _, rfl, _, _, rfl, rfl, _, rfl, ite2 (fun e => ⟨_, rfl, _, rfl, al, _, _, _, rfl, rfl, SqT.of ha3, atI_nat t2, t, _, 1, _, rfl, rfl, SqT.of t3, rfl, _, _, rfl, rfl, _, rfl, ite2 (fun e' => ?_) (fun e' => ?_)⟩) (fun e => ⟨_, rfl, iteF ?_⟩)⟩
            · have alh : alv (lvA lv j) (i : Int) = true := alv_iff.mpr ⟨of_decide_eq_true e, of_decide_eq_true e'⟩
              refine ⟨_, rfl, _, rfl, as, _, _, _, rfl, rfl, SqT.of hs3, vatD j2, _, hD3, ?_, fun b o z => by rw [upd_ne (ne_of_none z nD3)]; exact sm3 _ _ z, ?_⟩
              · rw [List.length_map]
                exact small1000 (by omega)
              · rw [upd_same, sumAt_succ, if_pos alh, List.map_append]
                rfl
            · have alh : ¬ alv (lvA lv j) (i : Int) = true := fun z => e' (decide_eq_true (alv_iff.mp z).2)
              refine ⟨sm3, ?_⟩
              rw [sumAt_succ, if_neg alh]
              exact hD3
            · have alh : ¬ alv (lvA lv j) (i : Int) = true := fun z => e (decide_eq_true (alv_iff.mp z).1)
              refine ⟨sm3, ?_⟩
              rw [sumAt_succ, if_neg alh]
              exact hD3
          · rintro H3 ⟨sm3, hD3⟩
            rw [show ((n : Nat) : Int).toNat = lv.length by omega] at hD3
            have hL3 := sm3 _ _ hL
            refine ⟨D3, _, rfl, SqL.of hD3, _, hL3, ?_, sm ++ [(sumAt lv sz lv.length (i : Int)).sum], ?_, ?_, ?_, ?_⟩
            · rw [List.length_map, hl]
              exact small1000 (by omega)
            · rw [upd_same, List.map_append]
              rfl
            · rw [List.length_append, hl]
              rfl
            · intro k hk
              by_cases e : k < sm.length
              · rw [show ia (sm ++ [(sumAt lv sz lv.length (i : Int)).sum]) k = ia sm k by unfold ia; rw [List.getD_eq_getElem?_getD, List.getD_eq_getElem?_getD, List.getElem?_append_left e]]
                exact hb k (by omega)
              · have ek : k = sm.length := by omega
                subst ek
                rw [show ia (sm ++ [(sumAt lv sz lv.length (i : Int)).sum]) sm.length = (sumAt lv sz lv.length (i : Int)).sum by unfold ia; rw [List.getD_eq_getElem?_getD, List.getElem?_append_right (Nat.le_refl _), Nat.sub_self]; rfl, hl]
            · exact fun b o z => by rw [upd_ne (ne_of_none z nL)]; exact sm3 _ _ (s1 _ _ z)
        · rintro H8 ⟨sums, hL, hl, hbs, s8⟩
          have s78 := (same_upd (o := .lst [.int 0]) n1).trans s8
          refine ⟨p1, L, _, _, rfl, rfl, s8 _ _ upd_same, hL, ?_, fun p2 n2 => ⟨p2, 0 :: sums, rfl, SqL.of upd_same, Nat.succ_pos _, fun m hm hml => ?_⟩⟩
          · rw [List.length_map, hl]
            exact Nat.le_of_lt (small1000 (by decide))
          have fy9 := (fy.same s78).same (same_upd (o := .lst ([.int 0] ++ sums.map V.int)) n2)
          have sz1 := DW.len
          have sz2 := DW.few
          refine ⟨_, rfl, _, rfl, al, as, lv, sz, rfl, fy9.l, fy9.s, DW.len, by omega, fun H10 b s10 hbp => ?_⟩
          have ebm : b = m := peak_same DW hbp (by
            rcases List.mem_cons.mp hm with rfl | hm
            · exact .inl rfl
            · obtain ⟨k, hk⟩ := List.mem_iff_getElem?.mp hm
              have hlt := (List.getElem?_eq_some_iff.mp hk).1
              rw [nat_at hlt] at hk
              cases hk
              exact .inr ⟨k, by omega, hbs k (by omega)⟩) (hml 0 (List.mem_cons_self ..)) fun t ht => by
              rw [← hbs t ht]
              exact hml _ (List.mem_cons_of_mem _ (List.mem_of_getElem? (nat_at (by omega))))
          subst ebm
          have fy11 := fy9.same s10
          have hW : ∀ pl, OkP lv sz pl → b ≤ maxI 0 (endsOf sz pl) := fun pl ok => by
            rcases List.mem_cons.mp hm with e | hm
            · rw [e]
              rcases maxI_mem (d := 0) (ns := endsOf sz pl) with ⟨e, _⟩ | e
              · omega
              · obtain ⟨k, hk⟩ := List.mem_iff_getElem?.mp e
                have hlt := (List.getElem?_eq_some_iff.mp hk).1
                rw [endsOf_len, ok.1, DW.len] at hlt
                rw [endsOf_at (by rw [ok.1]; omega) (by omega)] at hk
                injection hk with hk
                have := (ok.2 k (by rw [ok.1]; omega)).1
                have := DW.lo k (by omega)
                omega
            · obtain ⟨k, hk⟩ := List.mem_iff_getElem?.mp hm
              have hlt := (List.getElem?_eq_some_iff.mp hk).1
              rw [nat_at hlt] at hk
              injection hk with hk
              have e1 := hbs k (by omega)
              have e2 : ia sums k = sums.getD k 0 := rfl
              rw [← hk, ← e2, e1]
              exact ends_ge DW ok
          clear hbp hm hml hbs hL s8 s78 fy fy9 n1 n2 nL s10
          refine ⟨_, rfl, _, rfl, _, rfl, iteF ⟨_, rfl, _, rfl, rfl, _, rfl, iteNS rfl ?_⟩⟩
          clear hfl
          refine ⟨4, rfl, by decide, by decide, for_range (lo := 0) (n := 4) (fun i σ H' => ∃ (v3 v4 v9 v10 v11 v12 v13 v14 v15 : Option V), σ = [some (.ref a), some (.ref d), some (.int (n : Int)), v3, v4, some (.ref al), some (.ref as), some (.int b), some (.int b), v9, v10, v11, v12, v13, v14, v15, none, none] ∧ Fy H' d c al as lv sz)
            ⟨_, _, _, _, _, _, _, _, _, rfl, fy11⟩ ?_ ?_⟩
          · clear fy11
            rintro i σ H12 hi ⟨v3, v4, v9, v10, v11, v12, v13, v14, v15, rfl, fy⟩
            refine ⟨_, rfl, d, c, 25, rfl, fy.dr, by decide, bnd_le (by decide), fun H13 wv k13 dr13 w0 w1 => ⟨_, _, rfl, rfl, ?_⟩⟩
            replace fy := fy.but k13 dr13
            clear k13 dr13
            refine ⟨_, rfl, _, rfl, by omega, by omega, fun D nD => lc_range (lo := 0) (n := ((n : Nat) : Int).toNat) (fun i H' => ∃ pl : List Int, H' D = some (.lst (pl.map V.int)) ∧ pl.length = i ∧ Fy H' d c al as lv sz)
              ⟨[], upd_same, rfl, fy.same (same_upd nD)⟩ ?_ ?_⟩
            · rintro j H' hj ⟨pl, hD, hl, fy'⟩
              obtain ⟨hDd, hDc⟩ := new_ne fy.dr nD
              refine ⟨rfl, ?_⟩
              unfold tYes
              dsimp only
              rw [if_pos rfl]
              refine ⟨_, rfl, _, rfl, d, c, _, rfl, fy'.dr, by omega, bnd_le (by omega), fun H4 v k4 dr4 v0 v1 => ⟨_, keepD k4 hDd hD, ?_, pl ++ [v], ?_, ?_, (fy'.but k4 dr4).upd (keepD k4 hDd hD) hDd hDc⟩⟩
              · rw [List.length_map, hl]
                exact small1000 (by omega)
              · rw [upd_same, List.map_append]
                rfl
              · rw [List.length_append, hl]
                rfl
            rintro H14 ⟨pl, hD, hl, fy14⟩
            obtain ⟨hDd, hDc⟩ := new_ne fy.dr nD
            rw [Int.toNat_natCast] at hl
            clear fy nD
            refine ⟨fun σ' H' => ∃ (D : Addr) (pl : List Int) (v3 v12 v13 : Option V), σ' = [some (.ref a), some (.ref d), some (.int (n : Int)), v3, v4, some (.ref al), some (.ref as), some (.int b), some (.int b), some (.int ((0 : Int) + i)), some (.int (1 + wv)), some (.ref D), v12, v13, v14, v15, none, none] ∧ Fy H' d c al as lv sz ∧ H' D = some (.lst (pl.map V.int)) ∧ pl.length = n ∧ D ≠ d ∧ D ≠ c, ?_, ?_⟩
            · refine ⟨_, rfl, rfl, _, rfl, ite2 (fun _ => ?_) (fun _ => ⟨D, pl, _, _, _, rfl, fy14, hD, hl, hDd, hDc⟩)⟩
              refine ⟨Nat.zero_le _, fun p np => ?_⟩
              obtain ⟨hpd, hpc⟩ := new_ne fy14.dr np
              refine ⟨_, rfl, _, rfl, by omega, by omega, for_range (lo := 0) (n := ((n : Nat) : Int).toNat) (fun k σ H' => ∃ (pl : List Int) (v3 v12 v13 : Option V), σ = [some (.ref a), some (.ref d), some (.int (n : Int)), v3, v4, some (.ref al), some (.ref as), some (.int b), some (.int b), some (.int ((0 : Int) + i)), some (.int (1 + wv)), some (.ref p), v12, v13, v14, v15, none, none] ∧ Fy H' d c al as lv sz ∧ H' p = some (.lst (pl.map V.int)) ∧ pl.length = k)
                ⟨[], _, _, _, rfl, fy14.same (same_upd np), upd_same, rfl⟩ ?_ ?_⟩
              · rintro k σ H' hk ⟨pl, v3, v12, v13, rfl, fy, hp, hpl⟩
                obtain ⟨ts, hal, hx⟩ := id fy.l
                have k1 : k < lv.length := by omega
                obtain ⟨t1', _, tt2, tt3⟩ := hx.at k1
                rw [Int.zero_add]
                refine ⟨_, rfl, _, rfl, by omega, by omega, for_range (lo := 0) (n := ((k : Nat) : Int).toNat) (fun j σ H'' => ∃ (v13 : Option V) (at' : Int), σ = [some (.ref a), some (.ref d), some (.int (n : Int)), some (.int (k : Int)), v4, some (.ref al), some (.ref as), some (.int b), some (.int b), some (.int ((0 : Int) + i)), some (.int (1 + wv)), some (.ref p), some (.int at'), v13, v14, v15, none, none] ∧ H'' = H')
                  ⟨_, 0, rfl, rfl⟩ ?_ ?_⟩
                · rintro j σ H'' hj ⟨v13, at', rfl, rfl⟩
                  have j1 : j < lv.length := by omega
                  have j2 : j < sz.length := by omega
                  have j3 : j < pl.length := by omega
                  obtain ⟨u1, _, u2, u3⟩ := hx.at j1
                  rw [Int.zero_add]
                  refine ⟨_, rfl, _, rfl, al, _, _, _, rfl, rfl, SqT.of hal, atI_nat u2, u1, _, 0, _, rfl, rfl, SqT.of u3, rfl, _, rfl, _, rfl, al, _, _, _, rfl, rfl, SqT.of hal, atI_nat tt2, t1', _, 1, _, rfl, rfl, SqT.of tt3, rfl, _, _, rfl, rfl, _, rfl, ite2 (fun _ => ⟨_, rfl, _, rfl, al, _, _, _, rfl, rfl, SqT.of hal, atI_nat tt2, t1', _, 0, _, rfl, rfl, SqT.of tt3, rfl, _, rfl, _, rfl, al, _, _, _, rfl, rfl, SqT.of hal, atI_nat u2, u1, _, 1, _, rfl, rfl, SqT.of u3, rfl, _, _, rfl, rfl, _, rfl, ite2 (fun _ => ?_) (fun _ => ⟨_, _, rfl, rfl⟩)⟩) (fun _ => iteF ⟨_, _, rfl, rfl⟩)⟩
                  refine ⟨_, rfl, _, rfl, _, rfl, p, _, _, _, rfl, rfl, SqL.of hp, vatD j3, _, rfl, _, rfl, as, _, _, _, rfl, rfl, SqT.of fy.s, vatD j2, _, _, rfl, rfl, _, _, rfl, ?_⟩
                  exact ⟨_, _, rfl, rfl⟩
                · rintro σ H'' ⟨v13, at', rfl, rfl⟩
                  refine ⟨_, rfl, .inl ⟨rfl, _, SqL.of hp⟩, _, rfl, p, _, _, rfl, rfl, hp, ?_, pl ++ [at'], _, _, _, rfl, fy.upd hp hpd hpc, ?_, ?_⟩
                  · rw [List.length_map]
                    exact small1000 (by omega)
                  · rw [upd_same, List.map_append]
                    rfl
                  · rw [List.length_append, hpl]
                    rfl
              · rintro σ H' ⟨pl, v3, v12, v13, rfl, fy, hp, hpl⟩
                rw [Int.toNat_natCast] at hpl
                exact ⟨p, pl, _, _, _, rfl, fy, hp, hpl, hpd, hpc⟩
            clear hD hl hDd hDc fy14
            rintro σ' H15 ⟨D, pl, v3, v12, v13, rfl, fy, hD, hl, hDd, hDc⟩
            refine ⟨_, rfl, d, c, 12, rfl, fy.dr, by decide, bnd_le (by decide), fun H16 mv k16 dr16 m0 m1 => ?_⟩
            replace hD := keepD k16 hDd hD
            replace fy := fy.but k16 dr16
            clear k16 dr16
            refine ⟨fun σ' H' => ∃ (D : Addr) (pl : List Int) (v3 : Option V), σ' = [some (.ref a), some (.ref d), some (.int (n : Int)), v3, v4, some (.ref al), some (.ref as), some (.int b), some (.int b), some (.int ((0 : Int) + i)), some (.int (1 + wv)), some (.ref D), v12, v13, some (.int mv), v15, none, none] ∧ Fy H' d c al as lv sz ∧ H' D = some (.lst (pl.map V.int)) ∧ pl.length ≤ n + 1 ∧ D ≠ d ∧ D ≠ c, ?_, ?_⟩
            · refine ⟨_, rfl, rfl, _, rfl, ite2 (fun _ => ⟨_, rfl, _, _, rfl, rfl, _, rfl, ite2 (fun e2 => ?_) (fun _ => ⟨_, rfl, rfl, _, rfl, ite2 (fun _ => ⟨_, rfl, d, c, 2, rfl, fy.dr, by decide, bnd_le (by decide), fun H15 xv k15 dr15 _ _ => ⟨rfl, _, rfl, ite2 (fun _ => ?_) (fun _ => ?_)⟩⟩) (fun _ => ⟨D, pl, _, rfl, fy, hD, by omega, hDd, hDc⟩)⟩)⟩) (fun _ => iteF ⟨_, rfl, rfl, _, rfl, ite2 (fun _ => ⟨_, rfl, d, c, 2, rfl, fy.dr, by decide, bnd_le (by decide), fun H15 xv k15 dr15 _ _ => ⟨rfl, _, rfl, ite2 (fun _ => ?_) (fun _ => ?_)⟩⟩) (fun _ => ⟨D, pl, _, rfl, fy, hD, by omega, hDd, hDc⟩)⟩)⟩
              · have e2 : (0 : Int) < (n : Int) := of_decide_eq_true e2
                refine ⟨_, _, rfl, rfl, _, rfl, _, rfl, _, rfl, d, c, _, rfl, fy.dr, e2, bnd_le (by omega), fun H17 iv k17 dr17 i0 i1 => ?_⟩
                obtain ⟨jn, rfl⟩ : ∃ jn : Nat, iv = (jn : Int) := ⟨iv.toNat, by omega⟩
                have hD17 := keepD k17 hDd hD
                refine ⟨D, _, _, jn, rfl, rfl, hD17, Evl.ixN_nat (by rw [List.length_map]; omega), D, pl.set jn (0 - 1), _, rfl, (fy.but k17 dr17).upd hD17 hDd hDc, ?_, by rw [List.length_set]; omega, hDd, hDc⟩
                rw [upd_same, List.map_set]
              · obtain ⟨pl', e, hl'⟩ := cut_ints pl (some 1) none
                refine ⟨_, rfl, _, rfl, D, _, rfl, SqL.of (keepD k15 hDd hD), fun p np => ?_⟩
                obtain ⟨g1, g2⟩ := new_ne dr15 np
                exact ⟨p, pl', _, rfl, (fy.but k15 dr15).same (same_upd np), by rw [upd_same, ← e], by omega, g1, g2⟩
              · refine ⟨_, rfl, t1, fun p np => ⟨D, p, _, _, rfl, rfl, same_upd np _ _ (keepD k15 hDd hD), upd_same, ?_, fun p2 np2 => ?_⟩⟩
                · rw [List.length_map]
                  exact Nat.le_of_lt (small1000 (by show pl.length + 1 ≤ 1000; omega))
                have s16 := (same_upd (o := .lst [.int 40]) np).trans (same_upd (o := .lst (pl.map V.int ++ [.int 40])) np2)
                obtain ⟨g1, g2⟩ := new_ne (dr15.same (same_upd (o := .lst [.int 40]) np)) np2
                refine ⟨p2, pl ++ [40], _, rfl, (fy.but k15 dr15).same s16, ?_, ?_, g1, g2⟩
                · rw [upd_same, List.map_append]
                  rfl
                · rw [List.length_append]
                  show pl.length + 1 ≤ n + 1
                  omega
              · obtain ⟨pl', e, hl'⟩ := cut_ints pl (some 1) none
                refine ⟨_, rfl, _, rfl, D, _, rfl, SqL.of (keepD k15 hDd hD), fun p np => ?_⟩
                obtain ⟨g1, g2⟩ := new_ne dr15 np
                exact ⟨p, pl', _, rfl, (fy.but k15 dr15).same (same_upd np), by rw [upd_same, ← e], by omega, g1, g2⟩
              · refine ⟨_, rfl, t1, fun p np => ⟨D, p, _, _, rfl, rfl, same_upd np _ _ (keepD k15 hDd hD), upd_same, ?_, fun p2 np2 => ?_⟩⟩
                · rw [List.length_map]
                  exact Nat.le_of_lt (small1000 (by show pl.length + 1 ≤ 1000; omega))
                have s16 := (same_upd (o := .lst [.int 40]) np).trans (same_upd (o := .lst (pl.map V.int ++ [.int 40])) np2)
                obtain ⟨g1, g2⟩ := new_ne (dr15.same (same_upd (o := .lst [.int 40]) np)) np2
                refine ⟨p2, pl ++ [40], _, rfl, (fy.but k15 dr15).same s16, ?_, ?_, g1, g2⟩
                · rw [upd_same, List.map_append]
                  rfl
                · rw [List.length_append]
                  show pl.length + 1 ≤ n + 1
                  omega
            clear hD hl hDd hDc fy
            rintro σ' H18 ⟨D, pl, v3, rfl, fy, hD, hl, hDd, hDc⟩
            refine ⟨_, rfl, _, rfl, _, rfl, D, _, rfl, .inl ⟨SqL.of hD, fun t nt => ?_⟩⟩
            have s18 := same_upd (o := .tup (pl.map V.int)) nt
            have fy19 := fy.same s18
            refine ⟨al, as, t, lv, sz, pl, rfl, fy19.l, fy19.s, upd_same, DW.len, by omega, fun H20 s20 => ⟨fun ok => ?_, fun nok => ?_⟩⟩
            · have fy20 := fy19.same s20
              refine ⟨_, rfl, _, rfl, _, rfl, _, rfl, al, as, D, lv, sz, pl, rfl, fy20.l, fy20.s, s20 _ _ (s18 _ _ hD), DW, by omega, fun H21 s21 => ⟨fun _ => ⟨rfl, _, rfl, iteNS rfl ?_⟩, fun z => absurd ok z⟩⟩
              refine ⟨_, rfl, rfl, _, rfl, iteT ⟨_, rfl, _, rfl, _, rfl, iteF ⟨_, rfl, _, rfl, _, _, rfl, rfl, _, rfl, ?_⟩⟩⟩
              have := hW pl ok
              rw [decide_eq_false (by omega : ¬ maxI 0 (endsOf sz pl) < b)]
              exact iteF ⟨_, _, _, _, _, _, _, _, _, rfl, fy20.same s21⟩
            · have fy20 := fy19.same s20
              refine ⟨_, rfl, _, rfl, _, rfl, _, rfl, al, as, D, lv, sz, pl, rfl, fy20.l, fy20.s, s20 _ _ (s18 _ _ hD), DW, by omega, fun H21 s21 => ⟨fun z => absurd z nok, fun _ => ⟨rfl, _, rfl, iteNS rfl ?_⟩⟩⟩
              exact ⟨_, rfl, rfl, _, rfl, iteF (iteF ⟨_, _, _, _, _, _, _, _, _, rfl, fy20.same s21⟩)⟩
          · rintro σ H12 _
            exact q _
end
/-! ### what the top has written, the head -/
theorem all_mk {l : PySem.W.OpenLaw} {w : World} {K : PySem.W.Frag} {h : Heap} {mg : Str → Option Value} {fa f1 f2 f3 f4 f5 f6 f7 f8 f9 f10 z1 cT : Addr} (X : K.In h) (G : h.Ns mainGlobals mg) (hfa : mg "law" = some (.ref fa))
    {od1 an1 od2 an2 od3 an3 od4 an4 od5 an5 od6 an6 od7 an7 od8 an8 od9 an9 od10 an10 : Option Addr} {sl1 sl2 sl3 sl4 sl5 sl6 sl7 sl8 sl9 sl10 : Array (Option Value)} {oc1 kV1 dc1 pm1 cd1 ct1 oc2 kV2 dc2 pm2 cd2 ct2 oc3 kV3 dc3 pm3 cd3 ct3 oc4 kV4 dc4 pm4 cd4 ct4 oc5 kV5 dc5 pm5 cd5 ct5 oc6 kV6 dc6 pm6 cd6 ct6 oc7 kV7 dc7 pm7 cd7 ct7 oc8 kV8 dc8 pm8 cd8 ct8 oc9 kV9 dc9 pm9 cd9 ct9 oc10 kV10 dc10 pm10 cd10 ct10 : Value}
    (a1 : PySem.W.nsIn K mainGlobals "meet" = some (some (.ref f1))) (l1 : K.lookup f1 = some ⟨oc1, od1, .func (PySem.W.fnOf "meet" "meet" (defArgs sMeet) (defBody sMeet) (defScope sMeet) .none kV1 dc1 pm1 an1 cd1 ct1), sl1⟩) (c1 : PySem.W.codeIn K cd1 "meet" = true) (k1 : PySem.W.keepIn K (.ref f1) = true)
    (a2 : PySem.W.nsIn K mainGlobals "check_places" = some (some (.ref f2))) (l2 : K.lookup f2 = some ⟨oc2, od2, .func (PySem.W.fnOf "check_places" "check_places" (defArgs sCheck) (defBody sCheck) (defScope sCheck) .none kV2 dc2 pm2 an2 cd2 ct2), sl2⟩) (c2 : PySem.W.codeIn K cd2 "check_places" = true) (k2 : PySem.W.keepIn K (.ref f2) = true)
    (a3 : PySem.W.nsIn K mainGlobals "peak_of" = some (some (.ref f3))) (l3 : K.lookup f3 = some ⟨oc3, od3, .func (PySem.W.fnOf "peak_of" "peak_of" (defArgs sPeak) (defBody sPeak) (defScope sPeak) .none kV3 dc3 pm3 an3 cd3 ct3), sl3⟩) (c3 : PySem.W.codeIn K cd3 "peak_of" = true) (k3 : PySem.W.keepIn K (.ref f3) = true)
    (a4 : PySem.W.nsIn K mainGlobals "_words_of" = some (some (.ref f4))) (l4 : K.lookup f4 = some ⟨oc4, od4, .func (PySem.W.fnOf "_words_of" "_words_of" (defArgs sWords) (defBody sWords) (defScope sWords) .none kV4 dc4 pm4 an4 cd4 ct4), sl4⟩) (c4 : PySem.W.codeIn K cd4 "_words_of" = true) (k4 : PySem.W.keepIn K (.ref f4) = true)
    (a5 : PySem.W.nsIn K mainGlobals "_law_begin" = some (some (.ref f5))) (l5 : K.lookup f5 = some ⟨oc5, od5, .func (PySem.W.fnOf "_law_begin" "_law_begin" (defArgs sBegin) (defBody sBegin) (defScope sBegin) .none kV5 dc5 pm5 an5 cd5 ct5), sl5⟩) (c5 : PySem.W.codeIn K cd5 "_law_begin" = true) (k5 : PySem.W.keepIn K (.ref f5) = true)
    (a6 : PySem.W.nsIn K mainGlobals "_law_take" = some (some (.ref f6))) (l6 : K.lookup f6 = some ⟨oc6, od6, .func (PySem.W.fnOf "_law_take" "_law_take" (defArgs sTake) (defBody sTake) (defScope sTake) .none kV6 dc6 pm6 an6 cd6 ct6), sl6⟩) (c6 : PySem.W.codeIn K cd6 "_law_take" = true) (k6 : PySem.W.keepIn K (.ref f6) = true)
    (a7 : PySem.W.nsIn K mainGlobals "_law_int" = some (some (.ref f7))) (l7 : K.lookup f7 = some ⟨oc7, od7, .func (PySem.W.fnOf "_law_int" "_law_int" (defArgs sInt) (defBody sInt) (defScope sInt) .none kV7 dc7 pm7 an7 cd7 ct7), sl7⟩) (c7 : PySem.W.codeIn K cd7 "_law_int" = true) (k7 : PySem.W.keepIn K (.ref f7) = true)
    (a8 : PySem.W.nsIn K mainGlobals "_law_told" = some (some (.ref f8))) (l8 : K.lookup f8 = some ⟨oc8, od8, .func (PySem.W.fnOf "_law_told" "_law_told" (defArgs sTold) (defBody sTold) (defScope sTold) .none kV8 dc8 pm8 an8 cd8 ct8), sl8⟩) (c8 : PySem.W.codeIn K cd8 "_law_told" = true) (k8 : PySem.W.keepIn K (.ref f8) = true)
    (a9 : PySem.W.nsIn K mainGlobals "_law_due" = some (some (.ref f9))) (l9 : K.lookup f9 = some ⟨oc9, od9, .func (PySem.W.fnOf "_law_due" "_law_due" (defArgs sDue) (defBody sDue) (defScope sDue) .none kV9 dc9 pm9 an9 cd9 ct9), sl9⟩) (c9 : PySem.W.codeIn K cd9 "_law_due" = true) (k9 : PySem.W.keepIn K (.ref f9) = true)
    (a10 : PySem.W.nsIn K mainGlobals "law" = some (some (.ref f10))) (l10 : K.lookup f10 = some ⟨oc10, od10, .func (PySem.W.fnOf "law" "law" (defArgs sLaw) (defBody sLaw) (defScope sLaw) .none kV10 dc10 pm10 an10 cd10 ct10), sl10⟩) (c10 : PySem.W.codeIn K cd10 "law" = true) (k10 : PySem.W.keepIn K (.ref f10) = true)
    (aEz1 : PySem.W.nsIn K mainGlobals "PlaceError" = some (some (.ref z1)))
    (kEz1 : PySem.W.keepIn K (.ref z1) = true)
    (bEz1 : PySem.W.subIn K (.ref z1) (.type "BaseException") = some true)
    (tEz1 : PySem.W.typeIn K (.ref z1) = some (.type "type"))
    (hEz1 : PySem.W.hasDictIn K z1 = true)
    (aEcT : PySem.W.nsIn K mainGlobals "TensorError" = some (some (.ref cT)))
    (kEcT : PySem.W.keepIn K (.ref cT) = true)
    (bEcT : PySem.W.subIn K (.ref cT) (.type "BaseException") = some true)
    (tEcT : PySem.W.typeIn K (.ref cT) = some (.type "type"))
    (hEcT : PySem.W.hasDictIn K cT = true)
    (xz1 : PySem.W.excIn K z1 valErr "ValueError.__new__" = true)
    (sTz1 : PySem.W.subIn K (.ref z1) (.ref cT) = some true)
    (i1z1 : PySem.W.findIn K (.ref z1) "__getattribute__" = some (some (.builtin "BaseException.__getattribute__")))
    (i2z1 : PySem.W.findIn K (.ref z1) "__getattr__" = some none)
    (i3z1 : PySem.W.findIn K (.ref z1) "__class__" = some (some (.builtin "object.__class__")))
    (i6z1 : PySem.W.mroIn K z1 (.type "object") = some true)
    (sz1z1 : PySem.W.subIn K (.ref z1) (.ref z1) = some true)
    (i4 : PySem.W.specialIn K (.builtin "object.__class__") "__get__" = some (some (.builtin "getset_descriptor.__get__")))
    (i5 : PySem.W.takesIn K (.builtin "object.__class__") = some true)
    (z_int : PySem.W.nsIn K mainGlobals "int" = some none)
    (z_abs : PySem.W.nsIn K mainGlobals "abs" = some none)
    (z_len : PySem.W.nsIn K mainGlobals "len" = some none)
    (z_list : PySem.W.nsIn K mainGlobals "list" = some none)
    (z_max : PySem.W.nsIn K mainGlobals "max" = some none)
    (z_min : PySem.W.nsIn K mainGlobals "min" = some none)
    (z_zip : PySem.W.nsIn K mainGlobals "zip" = some none)
    (z_range : PySem.W.nsIn K mainGlobals "range" = some none)
    (z_enumerate : PySem.W.nsIn K mainGlobals "enumerate" = some none)
    (z_sum : PySem.W.nsIn K mainGlobals "sum" = some none)
    (z_set : PySem.W.nsIn K mainGlobals "set" = some none)
    (z_tuple : PySem.W.nsIn K mainGlobals "tuple" = some none)
    (z_isinstance : PySem.W.nsIn K mainGlobals "isinstance" = some none)
    (z_bool : PySem.W.nsIn K mainGlobals "bool" = some none)
    : ∃ fd : FuncData, (∀ (s : Shared) (v : Value), BindsTo s fd ⟨[v], []⟩ [("script", v)]) ∧ ∀ base : Heap, K.In base → base.Ns mainGlobals mg → FnOk l.prog w K mg base CX0 4 fa fd ["script"] (spLaw K) := by
  have e := hfa.symm.trans (PySem.W.mg_of X G a10)
  cases e
  have F1 := fun_mk (st := sMeet) l1 c1 k1
  have m1 := PySem.W.mg_of X G a1
  have b1 := F1.binds (ps := ["one", "other"]) fun _ _ _ _ _ _ us hl => match us, hl with | [_, _], _ => rfl
  have F2 := fun_mk (st := sCheck) l2 c2 k2
  have m2 := PySem.W.mg_of X G a2
  have b2 := F2.binds (ps := ["all_lives", "sizes", "places"]) fun _ _ _ _ _ _ us hl => match us, hl with | [_, _, _], _ => rfl
  have F3 := fun_mk (st := sPeak) l3 c3 k3
  have m3 := PySem.W.mg_of X G a3
  have b3 := F3.binds (ps := ["all_lives", "sizes"]) fun _ _ _ _ _ _ us hl => match us, hl with | [_, _], _ => rfl
  have F4 := fun_mk (st := sWords) l4 c4 k4
  have m4 := PySem.W.mg_of X G a4
  have b4 := F4.binds (ps := ["sizes", "places"]) fun _ _ _ _ _ _ us hl => match us, hl with | [_, _], _ => rfl
  have F5 := fun_mk (st := sBegin) l5 c5 k5
  have m5 := PySem.W.mg_of X G a5
  have b5 := F5.binds (ps := ["script"]) fun _ _ _ _ _ _ us hl => match us, hl with | [_], _ => rfl
  have F6 := fun_mk (st := sTake) l6 c6 k6
  have m6 := PySem.W.mg_of X G a6
  have b6 := F6.binds (ps := ["d", "many"]) fun _ _ _ _ _ _ us hl => match us, hl with | [_, _], _ => rfl
  have F7 := fun_mk (st := sInt) l7 c7 k7
  have m7 := PySem.W.mg_of X G a7
  have b7 := F7.binds (ps := ["actual"]) fun _ _ _ _ _ _ us hl => match us, hl with | [_], _ => rfl
  have F8 := fun_mk (st := sTold) l8 c8 k8
  have m8 := PySem.W.mg_of X G a8
  have b8 := F8.binds (ps := ["lives", "sizes", "places"]) fun _ _ _ _ _ _ us hl => match us, hl with | [_, _, _], _ => rfl
  have F9 := fun_mk (st := sDue) l9 c9 k9
  have m9 := PySem.W.mg_of X G a9
  have b9 := F9.binds (ps := ["lives", "sizes", "places"]) fun _ _ _ _ _ _ us hl => match us, hl with | [_, _, _], _ => rfl
  have F10 := fun_mk (st := sLaw) l10 c10 k10
  have m10 := PySem.W.mg_of X G a10
  have n_int := PySem.W.mg_none_of X G z_int
  have n_abs := PySem.W.mg_none_of X G z_abs
  have n_len := PySem.W.mg_none_of X G z_len
  have n_list := PySem.W.mg_none_of X G z_list
  have n_max := PySem.W.mg_none_of X G z_max
  have n_min := PySem.W.mg_none_of X G z_min
  have n_zip := PySem.W.mg_none_of X G z_zip
  have n_range := PySem.W.mg_none_of X G z_range
  have n_enumerate := PySem.W.mg_none_of X G z_enumerate
  have n_sum := PySem.W.mg_none_of X G z_sum
  have n_set := PySem.W.mg_none_of X G z_set
  have n_tuple := PySem.W.mg_none_of X G z_tuple
  have n_isinstance := PySem.W.mg_none_of X G z_isinstance
  have n_bool := PySem.W.mg_none_of X G z_bool
  have TD : TxtD mg := ⟨n_int, n_abs, n_len, n_list⟩
  have T : TxtP mg := ⟨TD, n_max, n_min, n_zip, n_range, n_enumerate, n_sum, n_set, n_tuple, n_isinstance⟩
  have RM : ErrR K mg "PlaceError" z1 := ⟨PySem.W.mg_of X G aEz1, xz1, kEz1, bEz1, tEz1⟩
  have ET : TxtE K mg z1 cT := ⟨⟨PySem.W.mg_of X G aEcT, bEcT, hEcT, tEcT⟩, PySem.W.mg_of X G aEz1, n_isinstance, sTz1, ⟨i1z1, i2z1, bEz1, hEz1, i3z1, i4, i5, i6z1⟩, kit_rr sz1z1 sz1z1 hEz1 tEz1⟩
  refine ⟨PySem.W.fnOf "law" "law" (defArgs sLaw) (defBody sLaw) (defScope sLaw) .none kV10 dc10 pm10 an10 cd10 ct10, fun s v => .of_eq rfl, fun base _ _ => ?_⟩
  have gM : FnOk l.prog w K mg base CX0 1 _ _ ["one", "other"] spMeet := ok_meet F1
  have cM : Calls l.prog w K mg base CX0 1 "meet" ["one", "other"] spMeet := ⟨_, _, gM, k1, b1, m1⟩
  have gW : FnOk l.prog w K mg base CX0 1 _ _ ["sizes", "places"] (spWords K) := ok_words F4 T
  have cW : Calls l.prog w K mg base CX0 1 "_words_of" ["sizes", "places"] (spWords K) := ⟨_, _, gW, k4, b4, m4⟩
  have gC : FnOk l.prog w K mg base (L2.CX l.prog w) 2 _ _ ["all_lives", "sizes", "places"] (spCheck K z1) := ok_check F2 T RM cM cW
  have cC : Calls l.prog w K mg base (L2.CX l.prog w) 2 "check_places" ["all_lives", "sizes", "places"] (spCheck K z1) := ⟨_, _, gC, k2, b2, m2⟩
  have gP : FnOk l.prog w K mg base CX0 1 _ _ ["all_lives", "sizes"] (spPeak K) := ok_peak F3 T
  have cP : Calls l.prog w K mg base CX0 1 "peak_of" ["all_lives", "sizes"] (spPeak K) := ⟨_, _, gP, k3, b3, m3⟩
  have gB : FnOk l.prog w K mg base CX0 1 _ _ ["script"] (spBegin K) := ok_begin F5 TD
  have cB : Calls l.prog w K mg base CX0 1 "_law_begin" ["script"] (spBegin K) := ⟨_, _, gB, k5, b5, m5⟩
  have gT : FnOk l.prog w K mg base CX0 1 _ _ ["d", "many"] spTake := ok_take F6 TD
  have cT : Calls l.prog w K mg base CX0 1 "_law_take" ["d", "many"] spTake := ⟨_, _, gT, k6, b6, m6⟩
  have gN : FnOk l.prog w K mg base CX0 1 _ _ ["actual"] spInt := ok_int F7 n_isinstance n_int n_bool
  have cN : Calls l.prog w K mg base CX0 1 "_law_int" ["actual"] spInt := ⟨_, _, gN, k7, b7, m7⟩
  have gTo : FnOk l.prog w K mg base CX0 3 _ _ ["lives", "sizes", "places"] (spTold K) := ok_told F8 ET cC
  have cTo : Calls l.prog w K mg base CX0 3 "_law_told" ["lives", "sizes", "places"] (spTold K) := ⟨_, _, gTo, k8, b8, m8⟩
  have gDu : FnOk l.prog w K mg base CX0 1 _ _ ["lives", "sizes", "places"] (spDue K) := ok_due F9 T
  have cDu : Calls l.prog w K mg base CX0 1 "_law_due" ["lives", "sizes", "places"] (spDue K) := ⟨_, _, gDu, k9, b9, m9⟩
  exact ok_law F10 T cB cT cN cTo cDu cP
end My
open PySem PySem.W PyProof.Rows
set_option maxRecDepth 100000 in
set_option maxHeartbeats 0 in
theorem PySem.Challenge.cw_tensorcompiler_k43_places_are_checked_holds : PySem.Challenge.rw_tensorcompiler_k43_places_are_checked.Holds := by
  w_on; o_law; k_head; (case hw => w_witness2)
  k_fill
  refine L2.walk_of (l := PySem.Challenge.rw_tensorcompiler_k43_places_are_checked) (n := 63) (k := 4) (x := "script") (CX := fun _ => L2.CX0) (sp := fun w => My.spLaw _) rfl (by decide) rfl ⟨rfl, by decide, by decide⟩ (fun w h Y => PySem.W.kIn_of Y) ?F (fun _ _ a ns hl _ hS => ⟨a, ns, rfl, hS, hl, fun _ => rfl⟩) (fun _ _ _ _ _ h => h)
  case F =>
    intro w mg fa h KX G hmg
    refine' My.all_mk KX G hmg ?a1 ?l1 ?c1 ?k1 ?a2 ?l2 ?c2 ?k2 ?a3 ?l3 ?c3 ?k3 ?a4 ?l4 ?c4 ?k4 ?a5 ?l5 ?c5 ?k5 ?a6 ?l6 ?c6 ?k6 ?a7 ?l7 ?c7 ?k7 ?a8 ?l8 ?c8 ?k8 ?a9 ?l9 ?c9 ?k9 ?a10 ?l10 ?c10 ?k10 ?aEz1 ?kEz1 ?bEz1 ?tEz1 ?hEz1 ?aEcT ?kEcT ?bEcT ?tEcT ?hEcT ?xz1 ?sTz1 ?i1z1 ?i2z1 ?i3z1 ?i6z1 ?sz1z1 ?i4 ?i5 ?z_int ?z_abs ?z_len ?z_list ?z_max ?z_min ?z_zip ?z_range ?z_enumerate ?z_sum ?z_set ?z_tuple ?z_isinstance ?z_bool
    (case a1 => k_is); (case l1 => k_is); (case c1 => k_is); (case k1 => k_is); (case a2 => k_is); (case l2 => k_is); (case c2 => k_is); (case k2 => k_is); (case a3 => k_is); (case l3 => k_is); (case c3 => k_is); (case k3 => k_is); (case a4 => k_is); (case l4 => k_is); (case c4 => k_is); (case k4 => k_is); (case a5 => k_is); (case l5 => k_is); (case c5 => k_is); (case k5 => k_is); (case a6 => k_is); (case l6 => k_is); (case c6 => k_is); (case k6 => k_is); (case a7 => k_is); (case l7 => k_is); (case c7 => k_is); (case k7 => k_is); (case a8 => k_is); (case l8 => k_is); (case c8 => k_is); (case k8 => k_is); (case a9 => k_is); (case l9 => k_is); (case c9 => k_is); (case k9 => k_is); (case a10 => k_is); (case l10 => k_is); (case c10 => k_is); (case k10 => k_is); (case aEz1 => k_is); (case kEz1 => k_is); (case bEz1 => k_is); (case tEz1 => k_is); (case hEz1 => k_is); (case aEcT => k_is); (case kEcT => k_is); (case bEcT => k_is); (case tEcT => k_is); (case hEcT => k_is); (case xz1 => k_exc); (case sTz1 => k_is); (case i1z1 => k_is); (case i2z1 => k_is); (case i3z1 => k_is); (case i6z1 => k_is); (case sz1z1 => first | rfl | k_is); (case i4 => k_is); (case i5 => k_is); (case z_int => k_is); (case z_abs => k_is); (case z_len => k_is); (case z_list => k_is); (case z_max => k_is); (case z_min => k_is); (case z_zip => k_is); (case z_range => k_is); (case z_enumerate => k_is); (case z_sum => k_is); (case z_set => k_is); (case z_tuple => k_is); (case z_isinstance => k_is); (case z_bool => k_is)
