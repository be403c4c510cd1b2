import PyProof.Rows.All
import Wide.All
import OpenK.AllK
import Wide.FinOn
import HandS.ForMost
import HandS.Wide
import HandS.Evl
import HandS.Exc
import HandS.ExcOwn
import HandS.TryOnly
import HandS.WordsExc
import HandS.ExcIs
import HandS.IsInst
import HandS.RaiseMore
import HandS.FStr
import HandS.Zip
import HandS.SortKw
import HandS.Wide
import HandS.Walk
import HandS.Strs
import HandS.Conv
import KE.GoesMore
import PyProof.EnumMake
import PyProof.ZipIter
import KE.DataMinMax
import PyProof.Rows.SetFrom
import PyProof.AutoSeq1
import KE.SortKeyHeap
import KE.KNestM
import HandS.Lambda
import HandS.Nested
import HandS.EndTab
import PySem.Challenge.RW_tensorcompiler_k44_chosen_places
set_option Elab.async false
set_option linter.all false
set_option maxRecDepth 100000
set_option maxHeartbeats 4000000
namespace My
open PySem L2
/-! ### the text -/
def topS (i : Nat) : Stmt := PySem.Challenge.pw_tensorcompiler_k44_chosen_places.main.body.getD i (.Pass ⟨0, 0, 0, 0⟩)
abbrev sMeet : Stmt := topS 2
abbrev sPeak : Stmt := topS 5
abbrev sChoose : Stmt := topS 6
abbrev sWords : Stmt := topS 7
abbrev sBetter : Stmt := topS 8
abbrev sOrders : Stmt := topS 9
abbrev sStack : Stmt := topS 10
abbrev sGap : Stmt := topS 11
abbrev sBegin : Stmt := topS 13
abbrev sTake : Stmt := topS 14
abbrev sInt : Stmt := topS 15
abbrev sMeets : Stmt := topS 16
abbrev sGood : Stmt := topS 17
abbrev sFits : Stmt := topS 18
abbrev sLaw : Stmt := topS 19
structure Calls (P : Program) (w : World) (K : PySem.W.Frag) (mg : Str → Option Value) (base : Heap) (CX : CXT) (k : Nat) (name : Str) (ps : List Str) (sp : Sp) : Prop where
  ex : ∃ (f : Addr) (fd : FuncData), FnOk P w K mg base CX k f fd ps sp ∧ PySem.W.keepIn K (.ref f) = true ∧ Binds K fd ps [] ∧ mg name = some (.ref f)
/-! ### own errors -/
abbrev valErr : List Value := [.type "ValueError", .type "Exception", .type "BaseException", .type "object"]
/-- what the written part says of an error class that is raised -/
structure ErrR (K : PySem.W.Frag) (mg : Str → Option Value) (n : Str) (C : Addr) : Prop where
  g : mg n = some (.ref C)
  x : PySem.W.excIn K C valErr "ValueError.__new__" = true
  k : PySem.W.keepIn K (.ref C) = true
  b : PySem.W.subIn K (.ref C) (.type "BaseException") = some true
  t : PySem.W.typeIn K (.ref C) = some (.type "type")
/-- of one that an except clause names -/
structure ErrN (K : PySem.W.Frag) (mg : Str → Option Value) (n : Str) (C : Addr) : Prop where
  g : mg n = some (.ref C)
  b : PySem.W.subIn K (.ref C) (.type "BaseException") = some true
  h : PySem.W.hasDictIn K C = true
  t : PySem.W.typeIn K (.ref C) = some (.type "type")
theorem ErrN.ex {K : PySem.W.Frag} {mg : Str → Option Value} {n : Str} {C : Addr} (e : ErrN K mg n C) {cls : Value} {r : Bool} (s : PySem.W.subIn K cls (.ref C) = some r) : PySem.W.exmOne K cls (.ref C) = some r := PySem.W.exm_ref e.b e.h e.t s
theorem pss_if {X : Cx} {sts : List Stmt} {t : TS} {P : Prop} (h : P → PSs X sts t) : PSs X sts (fun D σ H => P ∧ t D σ H) := ⟨fun pins s σ H D I hh => (h hh.1).run pins s σ H D I hh.2⟩
theorem kit_rr {K : PySem.W.Frag} {Z C : Addr} {r : Bool} (s : PySem.W.subIn K (.ref Z) (.ref C) = some r) (z : PySem.W.subIn K (.ref Z) (.ref Z) = some true) (h : PySem.W.hasDictIn K C = true) (t : PySem.W.typeIn K (.ref C) = some (.type "type")) : PySem.W.kitOne K (.ref Z) (.ref C) = some r := by
  have hc : (PySem.W.clsIn K C).isSome = true := by
    unfold PySem.W.hasDictIn at h
    cases e : PySem.W.clsIn K C with
    | none => rw [e] at h; cases h
    | some _ => rfl
  have e2 : ((PySem.W.clsIn K C).isSome && PySem.W.typeIn K (.ref C) == some (.type "type")) = true := by rw [hc, t] <;> rfl
  show (if (Value.ref Z == Value.ref C) = true then some true else (if ((PySem.W.clsIn K C).isSome && PySem.W.typeIn K (.ref C) == some (.type "type")) = true then PySem.W.subIn K (.ref Z) (.ref C) else none)) = some r
  by_cases g : (Value.ref Z == Value.ref C) = true
  · rw [if_pos g]
    have e : Value.ref Z = Value.ref C := beq_iff_eq.mp g
    rw [← e, z] at s
    exact s
  · rw [if_neg g, if_pos e2]
    exact s
theorem kit_rt {K : PySem.W.Frag} {Z : Addr} {T : String} {r : Bool} (s : PySem.W.subIn K (.ref Z) (.type T) = some r) (m : PySem.W.kitMeta T = true) : PySem.W.kitOne K (.ref Z) (.type T) = some r := by
  have g : (Value.ref Z == Value.type T) = false := rfl
  show (if (Value.ref Z == Value.type T) = true then some true else (if PySem.W.kitMeta T = true then PySem.W.subIn K (.ref Z) (.type T) else none)) = some r
  rw [g, if_neg Bool.false_ne_true, if_pos m]
  exact s
/-- the suite of an except clause, by what is known when it is reached -/
def tSu (X : Cx) (sts : List Stmt) : Addr → Value → Option Addr → TS := fun a cls d D σ H => ∀ (oe : Obj) (pn : List (Addr × Obj)), Zc cls d oe → (∃ vs, oe.data = .fields vs) → ∃ t, PSs (X.suite a ((a, oe) :: pn)) sts t ∧ t D σ H
theorem su_ok {X : Cx} {sts : List Stmt} {a : Addr} {cls : Value} {d : Option Addr} {oe : Obj} {pn : List (Addr × Obj)} (hz : Zc cls d oe) (hf : ∃ vs, oe.data = .fields vs) : PSs (X.suite a ((a, oe) :: pn)) sts (tSu X sts a cls d) :=
  ⟨fun pins s σ H D I h => by
    obtain ⟨t, p, q⟩ := h oe pn hz hf
    exact p.run pins s σ H D I q⟩
/-! ### drawing -/
/-- all but one place stands as it was -/
def But (d : Addr) (H H' : Hp) : Prop := ∀ b, b ≠ d → H' b = H b
theorem But.refl (d : Addr) (H : Hp) : But d H H := fun _ _ => rfl
theorem But.trans {d : Addr} {H H1 H2 : Hp} (a : But d H H1) (b : But d H1 H2) : But d H H2 := fun c h => (b c h).trans (a c h)
theorem But.upd {d : Addr} {H : Hp} {o : HO} : But d H (upd H d o) := fun _ h => upd_ne h
/-- the drawing state -/
def DrAt (H : Hp) (d c : Addr) : Prop := ∃ (ns : List Int) (i : Nat) (r s : Int), c ≠ d ∧ H d = some (.lst [.ref c, .int i, .int r, .int s]) ∧ H c = some (.lst (ns.map V.int)) ∧ i ≤ ns.length ∧ 0 ≤ r ∧ 0 ≤ s ∧ s < 2147483647
theorem DrAt.same {H H' : Hp} {d c : Addr} (h : DrAt H d c) (s : Same H H') : DrAt H' d c := by
  obtain ⟨ns, i, r, sd, n, h1, h2, h3⟩ := h
  exact ⟨ns, i, r, sd, n, s _ _ h1, s _ _ h2, h3⟩
theorem DrAt.lst {H : Hp} {d c : Addr} (h : DrAt H d c) : ∃ xs, H d = some (.lst xs) := by
  obtain ⟨ns, i, r, sd, n, h1, _⟩ := h
  exact ⟨_, h1⟩
theorem DrAt.lstc {H : Hp} {d c : Addr} (h : DrAt H d c) : ∃ xs, H c = some (.lst xs) := by
  obtain ⟨ns, i, r, sd, n, _, h1, _⟩ := h
  exact ⟨_, h1⟩
/-- another list may be changed -/
theorem DrAt.upd {H : Hp} {d c p : Addr} (h : DrAt H d c) (o : HO) (nd : p ≠ d) (nc : p ≠ c) : DrAt (upd H p o) d c := by
  obtain ⟨ns, i, r, sd, n, h1, h2, h3⟩ := h
  exact ⟨ns, i, r, sd, n, by rw [upd_ne nd.symm]; exact h1, by rw [upd_ne nc.symm]; exact h2, h3⟩
/-- what is no list is kept by a draw -/
theorem But.tup {d c b : Addr} {H H' : Hp} {xs : List V} (k : But d H H') (h : DrAt H d c) (hb : H b = some (.tup xs)) : H' b = some (.tup xs) := by
  obtain ⟨ys, hd⟩ := h.lst
  rw [k b (ne_of hb hd (fun z => nomatch z))]
  exact hb
def Bnd (m : Int) : Prop := m < 2 ^ 400
structure TxtD (mg : Str → Option Value) : Prop where
  int : mg "int" = none
  abs : mg "abs" = none
  len : mg "len" = none
  list : mg "list" = none
section
variable {P : Program} {w : World} {K : PySem.W.Frag} {mg : Str → Option Value} {base : Heap}
def spBegin (K : PySem.W.Frag) : Sp := fun vs H Q _ => ∃ (a : Addr) (ns : List Int), vs = [.ref a] ∧ SqL K H a (ns.map V.int) ∧ ns.length ≤ 63 ∧
  ∀ H' d c, Same H H' → H d = none → H c = none → DrAt H' d c → Q (.ref d) H'
theorem scB : FnScope ["script", "seed", "cell"] ["script"] (defScope sBegin) := ⟨rfl, rfl, rfl, by decide +kernel, rfl, by decide +kernel, by decide +kernel⟩
theorem ok_begin {f : Addr} {fd : FuncData} (F : Fun K "_law_begin" "_law_begin" sBegin f fd) (T : TxtD mg) : FnOk P w K mg base CX0 1 f fd ["script"] (spBegin K) := by
  refine F.ok scB (fun vs H Q E h => ?_) (fun cdv A outer s H vs Q E hr h => ?_)
  · obtain ⟨a, ns, rfl, _⟩ := h
    rfl
  · obtain ⟨a, ns, rfl, hS, hlen, q⟩ := h
    refine ⟨_, pss_cons (ps_set (i := 1) scB.nd rfl (.inl rfl) pe_int)
      (pss_cons (ps_for PassesOwn.never rfl (pi_list (pv 0)) (pg_name (i := 2) scB.nd rfl (.inl rfl))
        (pss_one (ps_set (i := 1) scB.nd rfl (.inl rfl)
          (pe_op op_mod (pe_op op_add (pe_op op_add (pe_op op_mul (pv 1) pe_int) (pe_op op_mod (pe_callTy call_int1 (by rfl) T.int (by decide +kernel) (pa_cons (pv 2) pa_nil)) pe_int)) pe_int) pe_int))))
      (pss_one (ps_ret (pe_lst (pa_cons (pe_callTy call_list_of (by rfl) T.list (by decide +kernel) (pa_cons (pv 0) pa_nil)) (pa_cons pe_int (pa_cons pe_int (pa_cons (pv 1) pa_nil)))))))), ?_⟩
    refine ⟨_, rfl, a, rfl, ⟨_, hS⟩, for_list (K := K) (a := a) (xs := ns.map V.int) (fun i σ H' => ∃ (z : Int) (v : Option V), σ = [some (.ref a), some (.int z), v] ∧ H' = H ∧ 0 ≤ z ∧ z < 2147483647)
      ⟨1, none, rfl, rfl, by decide, by decide⟩ (fun i σ H' _ ⟨_, _, _, e, _⟩ => by rw [e]; exact hS) ?_ ?_⟩
    · rintro i x σ H' hi ⟨z, v, rfl, rfl, h0, h1⟩
      obtain ⟨u, rfl⟩ : ∃ u, x = V.int u := by
        rw [List.getElem?_map] at hi
        cases e : ns[i]? with
        | none => rw [e] at hi; cases hi
        | some u => rw [e] at hi; exact ⟨u, (Option.some.inj hi).symm⟩
      refine ⟨_, rfl, _, _, rfl, rfl, .inl ⟨by omega, by omega⟩, _, rfl, .inl ⟨_, rfl, _, _, rfl, rfl, (by show (0 : Int) < 2147483629; decide), _, _, rfl, rfl, _, _, rfl, rfl, _, _, rfl, rfl, (by show (0 : Int) < 2147483647; decide), ?_⟩⟩
      exact ⟨_, _, rfl, rfl, Int.emod_nonneg _ (by decide), Int.emod_lt_of_pos _ (by decide)⟩
    · rintro σ H' ⟨z, v, rfl, rfl, h0, h1⟩
      refine ⟨_, rfl, a, _, rfl, .inl hS, fun c nc => ⟨_, rfl, by show 4 ≤ sizeLine; decide, fun d nd => ?_⟩⟩
      have ndc : d ≠ c := fun e => by
        rw [e, upd_same] at nd
        cases nd
      have nd0 : H' d = none := by
        rw [upd_ne ndc] at nd
        exact nd
      refine q _ d c (fun b o e => ?_) nd0 nc ⟨ns, 0, 0, z, ndc.symm, upd_same, ?_, Nat.zero_le _, by decide, h0, h1⟩
      · rw [upd_ne (ne_of_none e nd0), upd_ne (ne_of_none e nc)]
        exact e
      · rw [upd_ne ndc.symm, upd_same]
def spTake : Sp := fun vs H Q _ => ∃ (d c : Addr) (m : Int), vs = [.ref d, .int m] ∧ DrAt H d c ∧ 0 < m ∧ Bnd m ∧
  ∀ H' v, But d H H' → DrAt H' d c → 0 ≤ v → v < m → Q (.int v) H'
theorem scT : FnScope ["d", "many", "small", "digit"] ["d", "many"] (defScope sTake) := ⟨rfl, rfl, rfl, by decide +kernel, rfl, by decide +kernel, by decide +kernel⟩
theorem at0 {a b c e : V} : atI [a, b, c, e] (0 : Int) = some a := rfl
theorem at1 {a b c e : V} : atI [a, b, c, e] (1 : Int) = some b := rfl
theorem at2 {a b c e : V} : atI [a, b, c, e] (2 : Int) = some c := rfl
theorem at3 {a b c e : V} : atI [a, b, c, e] (3 : Int) = some e := rfl
theorem bnd_nat {m : Int} (h0 : 0 < m) (h : Bnd m) : m.natAbs < 2 ^ 400 := by
  have e : ((2 ^ 400 : Nat) : Int) = 2 ^ 400 := by decide +kernel
  unfold Bnd at h
  generalize (2 ^ 400 : Nat) = B at *
  omega
theorem bndW {r m : Int} (h0 : 0 < m) (h : Bnd m) : CDivW r m := wide_div (b := 400) h0 (bnd_nat h0 h) (by decide) (by decide)
theorem ok_take {f : Addr} {fd : FuncData} (F : Fun K "_law_take" "_law_take" sTake f fd) (T : TxtD mg) : FnOk P w K mg base CX0 1 f fd ["d", "many"] spTake := by
  refine F.ok scT (fun vs H Q E h => ?_) (fun cdv A outer s H vs Q E hr h => ?_)
  · obtain ⟨d, c, m, rfl, _⟩ := h
    rfl
  · obtain ⟨d, c, m, rfl, ⟨ns, i, r, sd, ncd, hd, hc, hi, hr0, hs0, hs1⟩, hm, hb, q⟩ := h
    refine ⟨_, Evl.pss_cut (ps_if (PW.pt (pw_and (pt_cmpR op_eq (pe_ix ix_list (pv 0) pe_int (fun _ _ => rfl)) pe_int (nomark _))
        (pw_and1 (pt_cmpR op_lt (pe_ix ix_list (pv 0) pe_int (fun _ _ => rfl)) (pe_callB call_len_seq (by rfl) T.len PySem.boot_len (pa_cons (pe_ix ix_list (pv 0) pe_int (fun _ _ => rfl)) pa_nil)) (nomark _)))))
        (pss_cons (ps_asg (pe_callB call_abs (by rfl) T.abs (by decide +kernel) (pa_cons (pe_callTy call_int1 (by rfl) T.int (by decide +kernel) (pa_cons (pe_ix ix_list (pe_ix ix_list (pv 0) pe_int (fun _ _ => rfl)) (pe_ix ix_list (pv 0) pe_int (fun _ _ => rfl)) (fun _ _ => rfl)) pa_nil)) pa_nil)) (pg_sub (pv 0) pe_int set_list))
        (pss_cons (ps_asg (pe_op op_add (pe_ix ix_list (pv 0) pe_int (fun _ _ => rfl)) pe_int) (pg_sub (pv 0) pe_int set_list))
        (pss_one (ps_if (pt_cmpR op_lt (pe_ix ix_list (pv 0) pe_int (fun _ _ => rfl)) (pe_op op_pow pe_int pe_int) (nomark _))
          (pss_cons (ps_set (i := 2) scT.nd rfl (.inl rfl) (pe_callTy call_int1 (by rfl) T.int (by decide +kernel) (pa_cons (pe_ix ix_list (pv 0) pe_int (fun _ _ => rfl)) pa_nil)))
          (pss_cons (ps_asg pe_int (pg_sub (pv 0) pe_int set_list))
          (pss_one (ps_ret (pe_op op_mod (pv 2) (pv 1))))))
          pss_nil))))
        pss_nil)
      (pss_cons (ps_if (pt_cmpR op_gt (pe_ix ix_list (pv 0) pe_int (fun _ _ => rfl)) pe_int (nomark _))
        (pss_cons (ps_set (i := 3) scT.nd rfl (.inl rfl) (pe_op op_mod (pe_callTy call_int1 (by rfl) T.int (by decide +kernel) (pa_cons (pe_ix ix_list (pv 0) pe_int (fun _ _ => rfl)) pa_nil)) (pv 1)))
        (pss_cons (ps_asg (pe_op op_fdivW (pe_callTy call_int1 (by rfl) T.int (by decide +kernel) (pa_cons (pe_ix ix_list (pv 0) pe_int (fun _ _ => rfl)) pa_nil)) (pv 1)) (pg_sub (pv 0) pe_int set_list))
        (pss_one (ps_ret (pv 3)))))
        pss_nil)
      (pss_cons (ps_asg (pe_op op_mod (pe_callTy call_int1 (by rfl) T.int (by decide +kernel) (pa_cons (pe_op op_add (pe_op op_mul (pe_ix ix_list (pv 0) pe_int (fun _ _ => rfl)) pe_int) pe_int) pa_nil)) pe_int) (pg_sub (pv 0) pe_int set_list))
      (pss_one (ps_ret (pe_op op_mod (pe_callTy call_int1 (by rfl) T.int (by decide +kernel) (pa_cons (pe_op op_fdiv (pe_ix ix_list (pv 0) pe_int (fun _ _ => rfl)) pe_int) pa_nil)) (pv 1)))))), ?_⟩
    refine ⟨fun σ' H' => ∃ (i r sd : Int) (x2 : Option V) (i' : Nat), σ' = [some (.ref d), some (.int m), x2, none] ∧ H' = upd H d (.lst [.ref c, .int i, .int r, .int sd]) ∧ i = i' ∧ i' ≤ ns.length ∧ 0 ≤ r ∧ 0 ≤ sd ∧ sd < 2147483647, ?_, ?_⟩
    · have same : H = upd H d (.lst [.ref c, .int i, .int r, .int sd]) := by
        funext b
        by_cases e : b = d
        · rw [e, upd_same, hd]
        · rw [upd_ne e]
      refine ⟨_, rfl, d, _, 2, _, rfl, rfl, SqL.of hd, at2, rfl, _, rfl, ite2 (fun e => ?_) (fun e => ?_)⟩
      · refine ⟨_, rfl, d, _, 1, _, rfl, rfl, SqL.of hd, at1, _, rfl, d, _, 0, _, rfl, rfl, SqL.of hd, at0, c, _, rfl, .inl (SqL.of hc), _, _, rfl, rfl, _, rfl, ite2 (fun e2 => ?_) (fun e2 => ?_)⟩
        · have hlt : i < ns.length := by
            have := of_decide_eq_true e2
            rw [List.length_map] at this
            omega
          have hx : (ns.map V.int)[i]? = some (.int ns[i]) := by
            rw [List.getElem?_map, List.getElem?_eq_getElem hlt]
            rfl
          generalize ns[i] = x at hx
          have hcd : ∀ o, (upd H d o) c = some (.lst (ns.map V.int)) := fun o => by rw [upd_ne ncd]; exact hc
          have habs : 0 ≤ (if x < 0 then -x else x) := by split <;> omega
          -- d[2] = abs(int(d[0][d[1]]))
          refine ⟨_, rfl, d, _, 0, _, rfl, rfl, SqL.of hd, at0, _, rfl, d, _, 1, _, rfl, rfl, SqL.of hd, at1, c, _, _, _, rfl, rfl, SqL.of hc, atI_nat hx, .inl ⟨x, rfl, x, rfl, _, rfl, d, _, 2, 2, rfl, rfl, hd, rfl, ?_⟩⟩
          generalize (if x < 0 then -x else x) = y at habs
          -- d[1] = d[1] + 1
          refine ⟨_, rfl, d, _, 1, _, rfl, rfl, SqL.of upd_same, at1, _, _, rfl, rfl, _, rfl, d, _, 1, 1, rfl, rfl, upd_same, rfl, ?_⟩
          rw [upd_upd]
          -- if d[2] < 10 ** 18
          refine ⟨_, rfl, d, _, 2, _, rfl, rfl, SqL.of upd_same, at2, 10, 18, rfl, rfl, ⟨by decide, by decide, by decide⟩, _, _, rfl, rfl, _, rfl, ite2 (fun e3 => ?_) (fun e3 => ?_)⟩
          · refine ⟨_, rfl, d, _, 2, _, rfl, rfl, SqL.of upd_same, at2, .inl ⟨_, rfl, _, rfl, d, _, 2, 2, rfl, rfl, upd_same, rfl, ?_⟩⟩
            rw [upd_upd]
            refine ⟨_, rfl, _, rfl, _, _, rfl, rfl, hm, ?_⟩
            exact q _ _ But.upd ⟨ns, i + 1, 0, sd, ncd, upd_same, hcd _, hlt, by decide, hs0, hs1⟩ (Int.emod_nonneg _ (by omega)) (Int.emod_lt_of_pos _ hm)
          · exact ⟨_, _, _, _, i + 1, rfl, rfl, rfl, hlt, habs, hs0, hs1⟩
        · exact ⟨_, _, _, _, i, rfl, same, rfl, hi, hr0, hs0, hs1⟩
      · exact iteF ⟨_, _, _, _, i, rfl, same, rfl, hi, hr0, hs0, hs1⟩
    · clear hd hi hr0 hs0 hs1
      rintro σ' H' ⟨i, r, sd, x2, i', rfl, rfl, rfl, hi, hr0, hs0, hs1⟩
      have hcd : ∀ o, (upd H d o) c = some (.lst (ns.map V.int)) := fun o => by rw [upd_ne ncd]; exact hc
      refine ⟨_, rfl, d, _, 2, _, rfl, rfl, SqL.of upd_same, at2, _, _, rfl, rfl, _, rfl, ite2 (fun e => ?_) (fun e => ?_)⟩
      · refine ⟨_, rfl, d, _, 2, _, rfl, rfl, SqL.of upd_same, at2, .inl ⟨_, rfl, _, rfl, _, _, rfl, rfl, hm, ?_⟩⟩
        refine ⟨_, rfl, d, _, 2, _, rfl, rfl, SqL.of upd_same, at2, .inl ⟨_, rfl, _, rfl, _, _, rfl, rfl, bndW hm hb, _, rfl, d, _, 2, 2, rfl, rfl, upd_same, rfl, ?_⟩⟩
        rw [upd_upd]
        refine ⟨_, rfl, ?_⟩
        exact q _ _ But.upd ⟨ns, i', _, sd, ncd, upd_same, hcd _, hi, Int.ediv_nonneg hr0 (by omega), hs0, hs1⟩ (Int.emod_nonneg _ (by omega)) (Int.emod_lt_of_pos _ hm)
      · refine ⟨_, rfl, d, _, 3, _, rfl, rfl, SqL.of upd_same, at3, _, _, rfl, rfl, .inl ⟨by omega, by omega⟩, _, _, rfl, rfl, .inl ⟨_, rfl, _, _, rfl, rfl, (by show (0 : Int) < 2147483647; decide), _, rfl, d, _, 3, 3, rfl, rfl, upd_same, rfl, ?_⟩⟩
        rw [upd_upd]
        refine ⟨_, rfl, d, _, 3, _, rfl, rfl, SqL.of upd_same, at3, _, _, rfl, rfl, ⟨by decide, by decide⟩, .inl ⟨_, rfl, _, rfl, _, _, rfl, rfl, hm, ?_⟩⟩
        exact q _ _ But.upd ⟨ns, i', r, _, ncd, upd_same, hcd _, hi, hr0, Int.emod_nonneg _ (by decide), Int.emod_lt_of_pos _ (by decide)⟩ (Int.emod_nonneg _ (by omega)) (Int.emod_lt_of_pos _ hm)
def spInt : Sp := fun vs H Q _ => ∃ (i : Int), vs = [.int i] ∧ Q (.bl true) H
theorem scN : FnScope ["actual"] ["actual"] (defScope sInt) := ⟨rfl, rfl, rfl, by decide +kernel, rfl, by decide +kernel, by decide +kernel⟩
theorem ok_int {f : Addr} {fd : FuncData} (F : Fun K "_law_int" "_law_int" sInt f fd) (mi : mg "isinstance" = none) (mn : mg "int" = none) (mb : mg "bool" = none) : FnOk P w K mg base CX0 1 f fd ["actual"] spInt := by
  refine F.ok scN (fun vs H Q E h => ?_) (fun cdv A outer s H vs Q E hr h => ?_)
  · obtain ⟨i, rfl, _⟩ := h
    rfl
  · obtain ⟨i, rfl, q⟩ := h
    refine ⟨_, pss_one (ps_ret (pe_and (pe_callB call_isi (by rfl) mi (by decide +kernel) (pa_cons (pv 0) (pa_cons (pe_bltn (v := .ty "int") (by rfl) mn (by decide +kernel) rfl) pa_nil)))
      (pe_one (pe_not (pe_callB call_isi (by rfl) mi (by decide +kernel) (pa_cons (pv 0) (pa_cons (pe_bltn (v := .ty "bool") (by rfl) mb (by decide +kernel) rfl) pa_nil))))))), ?_⟩
    refine ⟨_, rfl, _, _, _, _, true, rfl, ClsV.ty "int", TyX.base (TyOf.int i), kit_ty (by decide +kernel), _, rfl, iteT ?_⟩
    exact ⟨_, rfl, _, _, _, _, false, rfl, ClsV.ty "bool", TyX.base (TyOf.int i), kit_ty (by decide +kernel), _, rfl, q⟩
end
/-! ### small facts -/
theorem same_upd {H : Hp} {p : Addr} {o : HO} (h : H p = none) : Same H (upd H p o) := fun b x e => by
  rw [upd_ne (ne_of_none e h)]
  exact e
theorem sqT_same {K : PySem.W.Frag} {H H' : Hp} {a : Addr} {xs : List V} (h : SqT K H a xs) (s : Same H H') : SqT K H' a xs := by
  rcases h with (h | ⟨o, h⟩) | h
  · exact .inl (.inl (s _ _ h))
  · exact .inl (.inr ⟨o, s _ _ h⟩)
  · exact .inr h
theorem sqL_same {K : PySem.W.Frag} {H H' : Hp} {a : Addr} {xs : List V} (h : SqL K H a xs) (s : Same H H') : SqL K H' a xs := by
  rcases h with (h | ⟨o, h⟩) | h
  · exact .inl (.inl (s _ _ h))
  · exact .inl (.inr ⟨o, s _ _ h⟩)
  · exact .inr h
theorem map_int_at {ns : List Int} {i : Nat} {x : V} (h : (ns.map V.int)[i]? = some x) : ∃ n, x = .int n ∧ ns[i]? = some n := by
  rw [List.getElem?_map] at h
  cases e : ns[i]? with
  | none => rw [e] at h; cases h
  | some n => rw [e] at h; exact ⟨n, (Option.some.inj h).symm, rfl⟩
theorem map_ref_at {ns : List Addr} {i : Nat} {x : V} (h : (ns.map V.ref)[i]? = some x) : ∃ n, x = .ref n ∧ ns[i]? = some n := by
  rw [List.getElem?_map] at h
  cases e : ns[i]? with
  | none => rw [e] at h; cases h
  | some n => rw [e] at h; exact ⟨n, (Option.some.inj h).symm, rfl⟩
theorem drop_at {α : Type} {l : List α} {i : Nat} {x : α} (h : l[i]? = some x) : l.drop i = x :: l.drop (i + 1) := by
  obtain ⟨hi, e⟩ := List.getElem?_eq_some_iff.mp h
  rw [List.drop_eq_getElem_cons hi, e]
theorem take_snoc {α : Type} {l : List α} {i : Nat} {x : α} (h : l[i]? = some x) : l.take (i + 1) = l.take i ++ [x] := by
  rw [List.take_add_one, h]
  rfl
theorem txt_len (a b : Str) : (a ++ b).length = a.length + b.length := PySem.Str.length_append a b
theorem bnd_le {m : Int} (h : m ≤ 1000000) : Bnd m := by
  unfold Bnd
  have : (1000000 : Int) < 2 ^ 400 := by decide +kernel
  omega
theorem keepD {d b : Addr} {H H' : Hp} {o : HO} (k : But d H H') (h : b ≠ d) (hb : H b = some o) : H' b = some o := by rw [k b h]; exact hb
theorem atI_zero {α : Type} {x : α} {xs : List α} : atI (x :: xs) (0 : Int) = some x := by
  show ((if (0 : Int) ≤ 0 then (if (0 : Int) < ((x :: xs).length : Int) then some (Int.toNat 0) else none) else _).bind _) = _
  rw [if_pos (Int.le_refl 0), if_pos (by rw [List.length_cons]; omega)]
  rfl
/-! ### enumerate of a tuple; zip of two tuples as a walk -/
section
open PySem.AutoSeq1 (wpAny_loadPart')
open PySem.Spec PyProof.Rows
theorem meets_enumerate_newT (l : Addr) (items : Array Value) (n : Nat) (dct : Option Addr) (sl : Array (Option Value)) :
    Meets (Builtin.«enumerate.__new__» ⟨[.type "enumerate", .ref l], []⟩) (fun _ R s => s.heap.get? l = some { cls := .type "tuple", dict := dct, data := .seq items n, slots := sl } ∧
      R (.ok (.ret (.ref (s.heap.push { cls := .type "tuple_iterator", data := .fields #[.ref l, .int 0 0] }).objs.size)))
        { s with heap := (s.heap.push { cls := .type "tuple_iterator", data := .fields #[.ref l, .int 0 0] }).push { cls := .type "enumerate", data := .fields #[.none, .bool false, .ref s.heap.objs.size, rawInt 0, .none, .none] } }) :=
  .of_wp fun prog w A R s h => by
    obtain ⟨hp, g, d, tk, os⟩ := s; obtain ⟨hl, h⟩ := h
    have hsub := sub_enumerate
    have hL : Heap.IsTuple (Shared.heap ⟨hp, g, d, tk, os⟩) l items := ⟨_, hl, rfl, n, rfl⟩
    wp_walk using wpAny_loadPart' hl
    refine wpAny_stack_any fun st => wpAny_pure ?_
    split
    · rename_i c _ _ _ _ _
      cases (c == Value.type "enumerate")
      · wp_walk using wpAny_loadPart' hl, wpAny_pyIter_tuple hL
        exact ⟨_, rfl, h⟩
      · wp_walk using wpAny_loadPart' hl, wpAny_pyIter_tuple hL
        exact ⟨_, rfl, h⟩
    · wp_walk using wpAny_loadPart' hl, wpAny_pyIter_tuple hL
      exact ⟨_, rfl, h⟩
variable {prog : Program} {w : World} {A : Around} {E : Value → Shared → Prop} {s : Shared}
theorem call_enumerate_tuple {l : Addr} {items : Array Value} {Q : Value → Shared → Prop} (hL : s.heap.IsTuple l items)
    (h : ∀ h', IsEnum h' (s.heap.objs.size + 1) s.heap.objs.size 0 .none → h'.IsTupleIter s.heap.objs.size l 0 → h'.objs.size = s.heap.objs.size + 2 →
      (∀ b o, s.heap.get? b = some o → h'.get? b = some o) → Q (.ref (s.heap.objs.size + 1)) { s with heap := h' }) :
    wpAny (model prog w) A (call (.type "enumerate") [.ref l]) Q E s := by
  obtain ⟨⟨c, dct, dt, sl⟩, hl, hc, n, hd⟩ := hL
  replace hc : c = .type "tuple" := hc
  replace hd : dt = .seq items n := hd
  subst hc hd
  refine callType_new F.called_enumerate (by decide) (F.typeCall_enumerate_1 _) (F.newCall_enumerate_1 _) (fun obj => F.args_object_init_2 obj _) F.entry_enumerate_new
    (meets_enumerate_newT l items n dct sl) ⟨hl, ?_⟩
  have hz : (s.heap.push { cls := .type "tuple_iterator", data := .fields #[.ref l, .int 0 0] }).objs.size = s.heap.objs.size + 1 := Heap.size_push ..
  show _ ∧ _
  rw [hz]
  have he : IsEnum ((s.heap.push { cls := .type "tuple_iterator", data := .fields #[.ref l, .int 0 0] }).push
      { cls := .type "enumerate", data := .fields #[.none, .bool false, .ref s.heap.objs.size, rawInt 0, .none, .none] }) (s.heap.objs.size + 1) s.heap.objs.size 0 .none := by
    have := Heap.get?_push_size (s.heap.push { cls := .type "tuple_iterator", data := .fields #[.ref l, .int 0 0] })
      (o := { cls := .type "enumerate", data := .fields #[.none, .bool false, .ref s.heap.objs.size, rawInt 0, .none, .none] }) rfl
    rw [hz] at this; exact this
  refine ⟨⟨_, he, rfl⟩, h _ he ⟨_, Heap.get?_push_of_some _ (Heap.get?_push_size _ rfl), rfl, rfl⟩ (by rw [Heap.size_push, hz]) fun b o x => Heap.get?_push_of_some _ (Heap.get?_push_of_some _ x)⟩
/-- the tuple at a as it stands at each turn, each item in a new pair -/
def IteT (K : PySem.W.Frag) (a : Addr) : It :=
  ⟨fun i H => ∃ (xs : List V) (x : V), SqT K H a xs ∧ xs[i]? = some x, fun i H v H' => ∃ T x, v = .ref T ∧ H T = none ∧ H' = upd H T (.tup [.int (i : Nat), x]) ∧ ∀ xs, SqT K H a xs → xs[i]? = some x, fun i H => ∃ xs : List V, SqT K H a xs ∧ xs.length ≤ i⟩
theorem turn_enumT {P : Program} {w : World} {K : PySem.W.Frag} {elts : List Expr} {kk : Nat} {tpos : Pos} (a e it : Addr) (hai : a ≠ it) (hea : e ≠ a) :
    Turn P w K (.Tuple elts kk tpos) (IteT K a) [e, it] e (fun i h => (∃ old, IsEnum h e it ((i : Nat) : Int) old) ∧ h.IsTupleIter it a i ∧ e ≠ it) where
  mem := by simp
  obj := fun i h st b hb => by
    obtain ⟨⟨old, he⟩, ⟨o, ho, hc, hd⟩, _⟩ := st
    have e' : b = e ∨ b = it := by simpa using hb
    rcases e' with z | z
    · rw [z]; exact ⟨_, he, fun v q => nomatch q⟩
    · rw [z]; exact ⟨o, ho, fun v q => by rw [hd] at q; cases q⟩
  keep := fun i h h' st k => let ⟨⟨old, he⟩, hi, hne⟩ := st; ⟨⟨old, k e (by simp) _ he⟩, hi.at fun o q => k it (by simp) o q, hne⟩
  item := by
    intro X hP hw hK hc i pins s σ H E I hf st hg
    subst hP hw hK
    obtain ⟨⟨old, he⟩, hit, hne⟩ := st
    obtain ⟨xs, x, hq, hx⟩ := hg
    obtain ⟨its, rv, p, hz⟩ := I.tuple hq
    obtain ⟨u, hu, ru⟩ := rv.get hx
    have hel : e < s.heap.objs.size := Heap.lt_size he
    have hil : it < s.heap.objs.size := by obtain ⟨_, q, _⟩ := hit; exact Heap.lt_size q
    have hu' : its.toArray[i]? = some u := by simpa using hu
    have hlt : i < its.toArray.size := (Array.getElem?_eq_some_iff.mp hu').1
    refine wpAny_pyNext_enum_itemD (Draws.tuple (show X.A.in1.handled = none from I.ok.hd hc) it a hai its.toArray) he ⟨hit, p⟩ hlt hne (by simp only [List.mem_cons, List.not_mem_nil, or_false, not_or]; exact ⟨hne, hea⟩) fun x' h' tk hP' ho hit' hT hsz hk => ?_
    have hP' : its.toArray[i]? = some x' := hP'
    rw [hu'] at hP'
    cases hP'
    refine ⟨_, rfl, wpAny_letOwnedTupleGo_enum (s := { s with heap := h', toks := tk + 1 }) ho fun h'' he' sb => ?_⟩
    have hT2 : h''.get? s.heap.objs.size = some { cls := .type "tuple", data := .seq #[.int i tk, u] } := (sb.2 _ (Nat.ne_of_gt hel)).trans hT
    have new : ObjOk X.prog X.w (upd H s.heap.objs.size (.tup [.int (i : Nat), x])) h'' s.heap.objs.size (.tup [.int (i : Nat), x]) :=
      ⟨by show 2 ≤ sizeLine; decide, [.int i tk, u], .cons ⟨_, rfl⟩ (.cons ru .nil), ⟨_, hT2, rfl, _, rfl⟩⟩
    have I1 : Inv X pins σ (upd H s.heap.objs.size (.tup [.int (i : Nat), x])) { s with heap := h'', toks := tk + 1 } :=
      I.turnedNew (ch := [e, it]) (fun b ob hb q => (sb.2 b (fun z => hb (by simp [z]))).trans (hk b ob (fun z => hb (by simp [z])) (fun z => hb (by simp [z])) q)) hf (Nat.le_refl _) new
    refine ⟨.ref s.heap.objs.size, _, I1, rfl, ⟨_, x, rfl, I.hok.fresh (Nat.le_refl _), rfl, fun ys hy => by rw [I.tuple_inj hy hq]; exact hx⟩, ⟨⟨u, ?_⟩, hit'.1.at fun o q => (sb.2 it (Ne.symm hne)).trans q, hne⟩, fun b hb => ?_⟩
    · have e1 : ((i + 1 : Nat) : Int) = (i : Int) + 1 := by omega
      rw [e1]; exact he'
    · have hb' : b < s.heap.objs.size := by
        have e' : b = e ∨ b = it := by simpa using hb
        rcases e' with z | z
        · rw [z]; exact hel
        · rw [z]; exact hil
      rw [upd_ne (Nat.ne_of_lt hb')]
      exact (hf b hb).1
  done := by
    intro X hP hw hK hc i pins s σ H E I hf st hg
    subst hP hw hK
    obtain ⟨⟨old, he⟩, hit, hne⟩ := st
    obtain ⟨xs, hq, hx⟩ := hg
    obtain ⟨its, rv, p, hz⟩ := I.tuple hq
    obtain ⟨f0, f1, f2, f3, f4, f5⟩ := hf it (by simp)
    have hl := rv.length
    unfold pyNext
    have hT : s.TypeIs (.ref e) "enumerate" := ⟨_, he, rfl⟩
    refine wpAny_bind (wpAny_attempt (wpAny_callSpecial?_slot (name := Str.ofString "__next__") hT F.slot_enumerate_next
      (wpAny_call_entry F.slot_enumerate_next hT F.entry_enumerate_next ?_ (F.args_enumerate_next_1 _))))
    show wpAny _ _ (field (.ref e) 2 >>= _) _ _ _
    refine wpAny_bind (wpAny_field he rfl (x := .ref it) rfl ?_)
    refine wpAny_bind (wpAny_nextOf_tuple_end (show X.A.in1.handled = none from I.ok.hd hc) hit p (by simp; omega) fun h' x he' hx' => ?_)
    obtain ⟨o, ho, hc'⟩ := hx'
    refine wpAny_bind (wpAny_isInstance (T := "StopIteration") (b := true) ⟨o, ho, hc'⟩ isSubtype_stop ?_)
    exact wpAny_pure ⟨rfl, I.turned (t' := s.toks) (fun b o hb q => he' b o hb q) f0 f1 f3 f4 f5⟩
  self := fun A i s Q E st h => let ⟨⟨_, he⟩, _⟩ := st; wpAny_pyIter_enum he h
def iEnumT (K : PySem.W.Frag) (ta : TA) : TI := fun σ H R => ta σ H fun vs H1 => ∃ a xs, vs = [.ref a] ∧ SqT K H1 a xs ∧ R (IteT K a) H1
theorem pi_enumT {X : Cx} {e : Expr} {ta : TA} {p pos tpos : Pos} {elts : List Expr} {kk : Nat} (hg : Gl X "enumerate") (hm : X.mg "enumerate" = none) (ha : PA X [e] ta) (hs : starEach [e] X.env = [(false, eval e X.env)] := by rfl) :
    PI X (.Tuple elts kk tpos) (.Call (.Name "enumerate" p) [e] [] pos) (iEnumT X.K ta) := by
  refine ⟨fun pins s σ H R I h => ?_⟩
  refine Call_ (ld_blt I hg hm boot_enumerate (PyProof.Rows.callWith_type1 (thn (ha.run pos pins s σ H _ I h) fun us s1 ⟨vs, H1, I1, r1, q1⟩ => ?_) hs rfl))
  obtain ⟨a, xs, ex, hq, q⟩ := q1
  subst ex
  cases r1 with
  | cons r rr =>
    cases rr
    cases r
    obtain ⟨its, rv, p', hz⟩ := I1.tuple hq
    have hal : a < s1.heap.objs.size := by obtain ⟨_, q, _⟩ := id p'; exact Heap.lt_size q
    refine call_enumerate_tuple (show s1.heap.IsTuple a its.toArray from p') fun h' he hit hsz hk => wpAny_pyIter_enum he ?_
    have I2 : Inv X pins σ H1 { s1 with heap := h' } := I1.kept (t' := s1.toks) hk
    refine ⟨s1.heap.objs.size + 1, [s1.heap.objs.size + 1, s1.heap.objs.size], _, _, H1, rfl, I2, turn_enumT a (s1.heap.objs.size + 1) s1.heap.objs.size (Nat.ne_of_lt hal) (Nat.ne_of_gt (Nat.lt_succ_of_lt hal)), ⟨⟨.none, he⟩, hit, Nat.succ_ne_self _⟩, fun b hb => ?_, q⟩
    have e' : b = s1.heap.objs.size + 1 ∨ b = s1.heap.objs.size := by simpa using hb
    have hle : s1.heap.objs.size ≤ b := by
      rcases e' with z | z
      · rw [z]; exact Nat.le_add_right _ _
      · rw [z]; exact Nat.le_refl _
    exact I1.fpOk hle (I1.hok.fresh hle)
theorem walk_enumT {K : PySem.W.Frag} {a : Addr} {xs : List V} : Walk (IteT K a) xs.length (fun H => SqT K H a xs) (YPair (fun i => some (.int (i : Nat))) (fun i => xs[i]?)) := by
  refine ⟨fun i _ hi q => ⟨xs, xs[i], q, by simp [hi]⟩, fun _ q => ⟨xs, q, Nat.le_refl _⟩, fun i H v H' _ q y => ?_⟩
  obtain ⟨T, x, h1, h2, h3, h4⟩ := y
  exact ⟨T, .int (i : Nat), x, h1, h2, h3, rfl, h4 xs q⟩
theorem walk_zipT {K : PySem.W.Frag} {a b : Addr} {xs ys : List V} {n : Nat} (hn : n = min xs.length ys.length) : Walk (RZ.ItzT K a b) n (fun H => SqT K H a xs ∧ SqT K H b ys) (YPair (fun i => xs[i]?) (fun i => ys[i]?)) := by
  subst hn
  refine ⟨fun i _ hi q => ?_, fun _ q => ⟨xs, ys, q.1, q.2, by omega⟩, fun i H v H' _ q y => ?_⟩
  · have h1 : i < xs.length := by omega
    have h2 : i < ys.length := by omega
    exact ⟨xs, ys, xs[i], ys[i], q.1, q.2, by simp [h1], by simp [h2]⟩
  · obtain ⟨T, x, y', h1, h2, h3, h4, h5⟩ := y
    exact ⟨T, x, y', h1, h2, h3, h4 xs q.1, h5 ys q.2⟩
end
/-! ### max(list, default=d); len(set(list)) of ints -/
section
open PySem.Spec PyProof.Rows
def maxI (d : Int) : List Int → Int
  | [] => d
  | n :: ns => ns.foldl max n
theorem readsAll_ints {h : Heap} : ∀ {its : List Value} {ns : List Int}, IntsAre its ns → ReadsAll h its (ns.map PyData.int) []
  | _, _, .nil => .nil
  | _, _, .cons n t r => .cons (as := []) (.int n t) (readsAll_ints r)
theorem depth_ints : ∀ ns : List Int, PyData.depthAll (ns.map PyData.int) = 0
  | [] => rfl
  | n :: ns => by
    show max (PyData.depth (.int n)) (PyData.depthAll (ns.map PyData.int)) = 0
    rw [depth_ints ns]
    rfl
theorem foldl_max_mem : ∀ (ns : List Int) (n : Int), (ns.foldl max n = n ∨ ns.foldl max n ∈ ns) ∧ n ≤ ns.foldl max n ∧ ∀ y ∈ ns, y ≤ ns.foldl max n
  | [], n => ⟨.inl rfl, Int.le_refl _, fun _ h => by cases h⟩
  | m :: ns, n => by
    obtain ⟨a, b, c⟩ := foldl_max_mem ns (max n m)
    show ((ns.foldl max (max n m) = n ∨ ns.foldl max (max n m) ∈ m :: ns) ∧ n ≤ ns.foldl max (max n m) ∧ ∀ y ∈ m :: ns, y ≤ ns.foldl max (max n m))
    refine ⟨?_, by omega, fun y hy => ?_⟩
    · rcases a with a | a
      · by_cases hnm : n ≤ m
        · exact .inr (List.mem_cons.mpr (.inl (a.trans (Int.max_eq_right hnm))))
        · exact .inl (a.trans (Int.max_eq_left (by omega)))
      · exact .inr (List.mem_cons_of_mem _ a)
    · rcases List.mem_cons.mp hy with rfl | hy
      · omega
      · exact c y hy
theorem maxI_le {d : Int} : ∀ {ns : List Int}, ∀ y ∈ ns, y ≤ maxI d ns
  | n :: ns, y, h => by
    obtain ⟨_, b, c⟩ := foldl_max_mem ns n
    rcases List.mem_cons.mp h with rfl | h
    · exact b
    · exact c y h
theorem maxI_mem {d : Int} : ∀ {ns : List Int}, maxI d ns = d ∧ ns = [] ∨ maxI d ns ∈ ns
  | [] => .inl ⟨rfl, rfl⟩
  | n :: ns => by
    rcases (foldl_max_mem ns n).1 with a | a
    · exact .inr (List.mem_cons.mpr (.inl a))
    · exact .inr (List.mem_cons_of_mem _ a)
def rMaxDf (K : PySem.W.Frag) : List V → List V → Hp → VK → Prop := fun xs zs H Q => ∃ (a : Addr) (ns : List Int) (d : Int), xs = [.ref a] ∧ zs = [.int d] ∧ SqL K H a (ns.map V.int) ∧ Q (.int (maxI d ns)) H
theorem cr_maxDf {X : Cx} (hc : X.calm = true) (hu : X.A.units + 64 < cLine) : CallRK X (.builtin "max") [Str.ofString "default"] (rMaxDf X.K) := by
  intro pins s σ H xs zs us ws Q I r1 r2 h
  obtain ⟨a, ns, d, rfl, rfl, hs, q⟩ := h
  obtain ⟨its, rv, hl, hz⟩ := I.list hs
  obtain ⟨u, rfl, ru⟩ := vals1 r2
  obtain ⟨tk0, rfl⟩ := ru
  rw [Vals.ref1 r1]
  have hi : IntsAre its ns := rv.ints
  refine PySem.W.max_list_default (I.ok.hd hc) hl.isList (by simpa using readsAll_ints hi) ⟨?_, ?_⟩ ?_ (fun e h' tk hk => ?_) (fun y ys i v h' tk bs e hv hr hk => ?_)
  · intro x hx y hy
    obtain ⟨n, _, rfl⟩ := List.mem_map.mp hx
    obtain ⟨m, _, rfl⟩ := List.mem_map.mp hy
    rfl
  · intro x hx e
    obtain ⟨n, _, rfl⟩ := List.mem_map.mp hx
    cases e
  · rw [depth_ints]
    omega
  · cases ns with
    | nil => exact ⟨.int d, H, I.kept hk, ⟨_, rfl⟩, q⟩
    | cons n ns => cases e
  · cases ns with
    | nil => cases e
    | cons n ns =>
      cases e
      rw [PySem.W.maxD_ints] at hr
      obtain ⟨t, rfl, _⟩ := reads_int_inv hr
      exact ⟨.int (maxI d (n :: ns)), H, I.kept hk, ⟨_, rfl⟩, q⟩
/-- how many different ones -/
def dedN (ns : List Int) : Nat := (firstMet (fun i => ns.getD i 0) ns.length).length
theorem ded_fold : ∀ (ns acc : List Int), (ns.foldl step_dedup acc).length ≤ acc.length + ns.length ∧ ((ns.foldl step_dedup acc).length = acc.length + ns.length ↔ ns.Nodup ∧ ∀ x ∈ ns, x ∉ acc)
  | [], acc => ⟨Nat.le_refl _, ⟨fun _ => ⟨List.nodup_nil, fun _ h => by cases h⟩, fun _ => rfl⟩⟩
  | n :: ns, acc => by
    have sd : step_dedup acc n = if acc.any (· == n) = true then acc else acc ++ [n] := rfl
    show ((ns.foldl step_dedup (step_dedup acc n)).length ≤ _ ∧ ((ns.foldl step_dedup (step_dedup acc n)).length = _ ↔ _))
    by_cases hm : n ∈ acc
    · have e : step_dedup acc n = acc := by
        rw [sd, if_pos]
        exact List.any_eq_true.mpr ⟨n, hm, beq_self_eq_true n⟩
      rw [e]
      obtain ⟨a, b⟩ := ded_fold ns acc
      refine ⟨by rw [List.length_cons]; omega, ⟨fun h => ?_, fun h => absurd hm (h.2 n (List.mem_cons_self ..))⟩⟩
      rw [List.length_cons] at h
      omega
    · have e : step_dedup acc n = acc ++ [n] := by
        rw [sd, if_neg]
        intro h
        obtain ⟨x, hx, hn⟩ := List.any_eq_true.mp h
        exact hm (eq_of_beq hn ▸ hx)
      rw [e]
      obtain ⟨a, b⟩ := ded_fold ns (acc ++ [n])
      have el : (acc ++ [n]).length = acc.length + 1 := by rw [List.length_append]; rfl
      rw [el] at a b
      refine ⟨by rw [List.length_cons]; omega, ?_⟩
      rw [List.length_cons, show acc.length + (ns.length + 1) = acc.length + 1 + ns.length by omega, b, List.nodup_cons]
      constructor
      · rintro ⟨h1, h2⟩
        refine ⟨⟨fun hx => h2 n hx (List.mem_append_right _ (List.mem_singleton.mpr rfl)), h1⟩, fun x hx => ?_⟩
        rcases List.mem_cons.mp hx with rfl | hx
        · exact hm
        · exact fun z => h2 x hx (List.mem_append_left _ z)
      · rintro ⟨⟨h1, h2⟩, h3⟩
        refine ⟨h2, fun x hx z => ?_⟩
        rcases List.mem_append.mp z with z | z
        · exact h3 x (List.mem_cons_of_mem _ hx) z
        · rw [List.mem_singleton] at z
          subst z
          exact h1 hx
theorem range_getD (ns : List Int) : (List.range ns.length).map (fun i => ns.getD i 0) = ns := by
  apply List.ext_getElem
  · rw [List.length_map, List.length_range]
  · intro i h1 h2
    rw [List.getElem_map, List.getElem_range, List.getD_eq_getElem?_getD, List.getElem?_eq_getElem h2]
    rfl
theorem dedN_eq (ns : List Int) : dedN ns ≤ ns.length ∧ (dedN ns = ns.length ↔ ns.Nodup) := by
  have e : dedN ns = (ns.foldl step_dedup []).length := by
    unfold dedN firstMet
    rw [range_getD]
  obtain ⟨a, b⟩ := ded_fold ns []
  rw [e]
  rw [List.length_nil, Nat.zero_add] at a b
  exact ⟨a, b.trans ⟨fun h => h.1, fun h => ⟨h, fun _ _ z => by cases z⟩⟩⟩
def tLenSetL (K : PySem.W.Frag) (ta : TE) : TE := fun σ H Q => ta σ H fun x H1 => ∃ (l : Addr) (ns : List Int), x = .ref l ∧ SqL K H1 l (ns.map V.int) ∧ ns.length ≤ 4000 ∧ Q (.int (dedN ns : Nat)) H1
theorem pe_lenSetL {X : Cx} {a : Expr} {ta : TE} {p p2 q pos : Pos} (hg : Gl X "len") (hm : X.mg "len" = none) (hg2 : Gl X "set") (hm2 : X.mg "set" = none) (ha : PE X a ta) (hc : X.calm = true := by rfl)
    (na : starEach [a] X.env = (false, eval a X.env) :: starEach [] X.env := by rfl) : PE X (.Call (.Name "len" p) [.Call (.Name "set" p2) [a] [] q] [] pos) (tLenSetL X.K ta) := by
  refine ⟨fun pins s σ H Q I h => ?_⟩
  refine Call_ (ld_blt I hg hm boot_len ?_)
  refine PyProof.Rows.callWith_builtin1 (PyProof.Rows.args_cons ?_ rfl) rfl rfl
  refine Call_ (ld_blt I hg2 hm2 boot_set ?_)
  refine PyProof.Rows.callWith_type1 (PyProof.Rows.args_cons (thn (ha.run pins s σ H _ I h) fun v s1 ⟨x, H1, I1, r1, q1⟩ => PyProof.Rows.args_nil ?_) na) na rfl
  obtain ⟨l, ns, rfl, hq, hl, q1⟩ := q1
  cases r1
  obtain ⟨its, r, pl, hz⟩ := I1.list hq
  have hlen : its.toArray.size = ns.length := by rw [List.size_toArray, ← r.length, List.length_map]
  refine call_set_list (I1.ok.hd hc) pl.isList (by simpa using RZ.intsAre_vals r) (by rw [hlen]; unfold scanBound; omega) fun h' tk hS hk => ?_
  refine PyProof.Rows.args_nil ?_
  rw [hlen] at hS
  obtain ⟨o, es, ep, t, ho, hex, hd, _, _, _, hf, hn⟩ := hS
  have I2 : Inv X pins σ H1 { s1 with heap := h', toks := tk } := I1.kept fun b o e => hk b o (Heap.lt_size e) e
  have hle := (dedN_eq ns).1
  unfold dedN at hle q1
  exact call_len_set ho hex hd hf (by rw [hn] <;> omega) ⟨.int _, H1, I2.tok _, ⟨_, by rw [hn]⟩, q1⟩
end
end My
set_option maxRecDepth 100000
set_option linter.all false
namespace PySem.F
theorem mro_perm : mroOf (.type "itertools.permutations") = pure [.type "itertools.permutations", .type "object"] := by rw [mroOf_type]; kernel_rfl
theorem lookup_perm_new : typeLookup (.type "itertools.permutations") "__new__" = pure (some (.builtin "itertools.permutations.__new__")) := by rw [typeLookup_type, builtinLookup_eq_fast]; kernel_rfl
theorem owner_perm : Manifest.owners.lookup (String.ofList ['s', 'n', 'o', 'i', 't', 'a', 't', 'u', 'm', 'r', 'e', 'p', '.', 's', 'l', 'o', 'o', 't', 'r', 'e', 't', 'i'].reverse) = some Manifest.sig_itertools_permutations := by kernel_rfl
theorem slot_perm_init : Slot "itertools.permutations" "__init__" "object.__init__" :=
  .of (owner := "object") (n := "__init__") (by rw [typeLookup_type, builtinLookup_eq_fast]; kernel_rfl) (by decide +kernel) (by decide +kernel) (by decide +kernel)
    (by first | exact .inl (by decide +kernel) | exact .inr (by decide +kernel)) (by rw [isSubtype_type]; kernel_rfl)
theorem slot_perm_iter : Slot "itertools.permutations" "__iter__" "itertools.permutations.__iter__" :=
  .of (owner := "itertools.permutations") (n := "__iter__") (by rw [typeLookup_type, builtinLookup_eq_fast]; kernel_rfl) (by decide +kernel) (by decide +kernel) (by decide +kernel)
    (by first | exact .inl (by decide +kernel) | exact .inr (by decide +kernel)) (by rw [isSubtype_type]; kernel_rfl)
theorem slot_perm_next : Slot "itertools.permutations" "__next__" "itertools.permutations.__next__" :=
  .of (owner := "itertools.permutations") (n := "__next__") (by rw [typeLookup_type, builtinLookup_eq_fast]; kernel_rfl) (by decide +kernel) (by decide +kernel) (by decide +kernel)
    (by first | exact .inl (by decide +kernel) | exact .inr (by decide +kernel)) (by rw [isSubtype_type]; kernel_rfl)
theorem entry_perm_next : entryFor table "itertools.permutations.__next__" = some Builtin.«itertools.permutations.__next__» := entryFor_of_tree (by kernel_rfl)
theorem entry_perm_new : entryFor table "itertools.permutations.__new__" = some Builtin.«itertools.permutations.__new__» := entryFor_of_tree (by kernel_rfl)
theorem entry_perm_iter : entryFor table "itertools.permutations.__iter__" = some Builtin.«dict_keyiterator.__iter__» :=
  entryFor_alias (id' := "dict_keyiterator.__iter__") (by kernel_rfl) (by first | rfl | decide +kernel | (unfold String.splitOn; simp +decide [String.splitOnAux])) (by decide +kernel) (by kernel_rfl)
theorem args_perm_next_1 (a : Value) : argsOk "itertools.permutations.__next__" ⟨[a], []⟩ := by
  unfold argsOk; rw [signature?_of (id := "itertools.permutations.__next__") (n := ['_', '_', 't', 'x', 'e', 'n', '_', '_']) (o := ['s', 'n', 'o', 'i', 't', 'a', 't', 'u', 'm', 'r', 'e', 'p', '.', 's', 'l', 'o', 'o', 't', 'r', 'e', 't', 'i']) (by kernel_rfl) owner_perm]; kernel_rfl
theorem args_perm_iter_1 (a : Value) : argsOk "itertools.permutations.__iter__" ⟨[a], []⟩ := by
  unfold argsOk; rw [signature?_of (id := "itertools.permutations.__iter__") (n := ['_', '_', 'r', 'e', 't', 'i', '_', '_']) (o := ['s', 'n', 'o', 'i', 't', 'a', 't', 'u', 'm', 'r', 'e', 'p', '.', 's', 'l', 'o', 'o', 't', 'r', 'e', 't', 'i']) (by kernel_rfl) owner_perm]; kernel_rfl
theorem called_perm : TypeCalled "itertools.permutations" "itertools.permutations.__new__" "object.__init__" :=
  ⟨by decide +kernel, by decide +kernel, ⟨_, _, mro_perm⟩, madeBy_type mro_perm lookup_perm_new (by decide +kernel), by decide +kernel, by rw [isSubtype_type]; kernel_rfl, slot_perm_init⟩
theorem typeCall_perm_1 (a : Value) : checkTypeCall "itertools.permutations" ⟨[a], []⟩ = pure () := by kernel_rfl
theorem newCall_perm_1 (a : Value) : checkBuiltinCall "itertools.permutations.__new__" ⟨[.type "itertools.permutations", a], []⟩ = pure () := by kernel_rfl
theorem sub_perm : isSubtype (.type "itertools.permutations") (.type "itertools.permutations") = pure true := by rw [isSubtype_type]; kernel_rfl
theorem hasDict_perm : typeHasDict (.type "itertools.permutations") = false := by kernel_rfl
end PySem.F

set_option maxRecDepth 100000
set_option linter.all false
namespace PySem
open PySem.Spec
section
variable {prog : Program} {w : World} {A : Around} {E : Value → Shared → Prop} {s : Shared}
theorem perm_bind (x : Value) : Builtin.Itertools.itBindNamed "permutations" ["iterable", "r"] 1 2 [x] [] = pure [some x, none] := by
  rfl
theorem perm_cls {x : Value} {Q : Value × List Value → Shared → Prop} (h : Q (.type "itertools.permutations", [x]) s) : wpAny (model prog w) A (Builtin.Itertools.itClassAndRest "permutations" ⟨[.type "itertools.permutations", x], []⟩) Q E s := by
  have hsub := F.sub_perm
  have e : ("itertools." ++ "permutations" : String) = "itertools.permutations" := by decide +kernel
  unfold Builtin.Itertools.itClassAndRest
  wp_walk
  rw [e]
  wp_walk
  exact h
theorem perm_new {r : Addr} {Q : Fin → Shared → Prop} (n : Nat) (hn : n ≤ 8) (hC : ∀ (Q' : List Value → Shared → Prop) (E' : Value → Shared → Prop), (∀ (h' : Heap) (tk : Nat) (acc : Array Value), (∀ b o, s.heap.get? b = some o → h'.get? b = some o) → ItemsOf (fun i v => ∃ t, v = .int i t) acc n → Q' acc.toList { s with heap := h', toks := tk }) → wpAny (model prog w) A (collect (.ref r)) Q' E' s)
    (hQ : ∀ (h' : Heap) (tk : Nat) (acc : Array Value), (∀ b o, s.heap.get? b = some o → h'.get? b = some o) → ItemsOf (fun i v => ∃ t, v = .int i t) acc n → Q (.done (.ret (.ref (h'.objs.size + 1)))) { s with heap := (h'.push { cls := .type "tuple", data := .seq acc }).push { cls := .type "itertools.permutations", data := .fields ([.ref h'.objs.size, rawInt 0, rawInt n, .none] ++ (List.range n).map (fun i => rawInt (i : Nat)) ++ (List.range n).map fun i => rawInt ((n : Int) - (i : Nat))).toArray }, toks := tk }) :
    wpAny (model prog w) A (Builtin.«itertools.permutations.__new__» ⟨[.type "itertools.permutations", .ref r], []⟩) Q E s := by
  unfold Builtin.«itertools.permutations.__new__»
  refine wpAny_bind (perm_cls ?_)
  show wpAny _ _ (Builtin.Itertools.itBindNamed "permutations" ["iterable", "r"] 1 2 [.ref r] [] >>= _) _ _ _
  refine wpAny_bind (wpAny_of_eq (perm_bind _) ?_)
  dsimp only
  refine wpAny_bind (hC _ _ fun h' tk acc hk hi => ?_)
  have hlen : acc.toList.length = n := by rw [Array.length_toList]; exact hi.1
  dsimp only [Option.getD]
  refine wpAny_bind (wpAny_pure ?_)
  rw [hlen]
  rw [if_neg (show ¬ ((n : Nat) : Int) < 0 by omega)]
  rw [if_neg (show ¬ Builtin.Itertools.itTooMany ((n : Nat) : Int) = true by
    unfold Builtin.Itertools.itTooMany
    simp
    omega)]
  rw [Int.toNat_natCast, if_neg (Nat.lt_irrefl n)]
  refine wpAny_bind (wpAny_newTuple ?_)
  refine wpAny_bind ?_
  unfold Builtin.Itertools.itNewRecord
  rw [F.hasDict_perm]
  rw [if_pos (by rfl)]
  refine wpAny_newObj_type ?_ ?_
  · refine wpAny_pure ?_
    have e : ((h'.push { cls := .type "tuple", data := .seq acc }).objs.size) = h'.objs.size + 1 := Heap.size_push ..
    have q := hQ h' tk acc hk hi
    rw [← e] at q
    exact q
  · simp only [sizeOk, List.size_toArray, List.length_append, List.length_map, List.length_range, List.length_cons, List.length_nil, sizeLine_eq]
    omega
end
end PySem

set_option maxRecDepth 100000
set_option linter.all false
namespace PySem
open PySem.Spec
def permF (T : Addr) (st n : Nat) (old : Value) (ns : List Nat) : Array Value := ([.ref T, rawInt (st : Nat), rawInt (n : Nat), old] ++ ns.map (fun i => rawInt (i : Nat))).toArray
abbrev IsPerm (h : Heap) (p T : Addr) (st n : Nat) (old : Value) (ns : List Nat) : Prop := h.get? p = some { cls := .type "itertools.permutations", data := .fields (permF T st n old ns) }
def permPick (n : Nat) (acc : Array Value) (ns : List Nat) : List Value := (ns.take n).map fun i => acc.getD i .none
section
variable {prog : Program} {w : World} {A : Around} {E : Value → Shared → Prop} {s : Shared}
theorem permF_set1 {T : Addr} {st n : Nat} {old : Value} {ns : List Nat} (k : Nat) : (permF T st n old ns).setIfInBounds 1 (rawInt (k : Nat)) = permF T k n old ns := by
  unfold permF; simp
theorem permF_set3 {T : Addr} {st n : Nat} {old x : Value} {ns : List Nat} : (permF T st n old ns).setIfInBounds 3 x = permF T st n x ns := by
  unfold permF; simp
theorem permF_size {T : Addr} {st n : Nat} {old : Value} {ns : List Nat} : (permF T st n old ns).size = 4 + ns.length := by
  unfold permF; simp; omega
theorem permF_nums {T : Addr} {st n : Nat} {old : Value} {ns : List Nat} (f : Value → Nat) (hf : ∀ i : Nat, f (rawInt (i : Nat)) = i) : ((permF T st n old ns).toList.drop 4).map f = ns := by
  unfold permF
  simp only [List.cons_append, List.nil_append, List.drop_succ_cons, List.drop_zero, List.map_map]
  have : ∀ l : List Nat, List.map (f ∘ fun i : Nat => rawInt (i : Int)) l = l := fun l => by
    induction l with
    | nil => rfl
    | cons a l ih => rw [List.map_cons, ih]; show f (rawInt (a : Nat)) :: l = _; rw [hf]
  exact this ns
theorem perm_numbers {p T : Addr} {st n : Nat} {old : Value} {ns : List Nat} {Q : List Nat → Shared → Prop} (hp : IsPerm s.heap p T st n old ns) (h : Q ns s) :
    wpAny (model prog w) A (Builtin.Itertools.itNumbersFrom (.ref p) 4) Q E s := by
  unfold Builtin.Itertools.itNumbersFrom
  refine wpAny_bind (wpAny_load hp ?_)
  refine wpAny_pure ?_
  show Q (((permF T st n old ns).toList.drop 4).map _) s
  rw [permF_nums _ (fun i => by rfl)]
  exact h
theorem perm_int {p T : Addr} {st n : Nat} {old : Value} {ns : List Nat} {i : Nat} {k : Int} {t : Tok} {Q : Int → Shared → Prop} (hp : IsPerm s.heap p T st n old ns) (hi : (permF T st n old ns)[i]? = some (.int k t)) (h : Q k s) :
    wpAny (model prog w) A (Builtin.Itertools.itIntField (.ref p) i) Q E s := by
  unfold Builtin.Itertools.itIntField
  refine wpAny_bind (wpAny_field hp rfl hi ?_)
  exact wpAny_pure h
theorem perm_pool {T : Addr} {o : Obj} {acc : Array Value} {m : Nat} {Q : Array Value → Shared → Prop} (hT : s.heap.get? T = some o) (hd : o.data = .seq acc m) (h : Q acc s) :
    wpAny (model prog w) A (Builtin.Itertools.itPoolItems (.ref T)) Q E s := by
  unfold Builtin.Itertools.itPoolItems
  refine wpAny_bind (wpAny_seqItems hT hd ?_)
  exact wpAny_pure h
theorem perm_result {p T : Addr} {st n : Nat} {old : Value} {ns : List Nat} {l : List Value} {Q : Fin → Shared → Prop} (hp : IsPerm s.heap p T st n old ns) (hl : l.length ≤ 16)
    (hQ : ∀ h', IsPerm h' p T st n (.ref s.heap.objs.size) ns → h'.get? s.heap.objs.size = some { cls := .type "tuple", data := .seq l.toArray } → h'.objs.size = s.heap.objs.size + 1 →
      (∀ b o, b ≠ p → s.heap.get? b = some o → h'.get? b = some o) → Q (.done (.ret (.ref s.heap.objs.size))) { s with heap := h' }) :
    wpAny (model prog w) A (do
      let t ← newTuple l
      let before ← field (.ref p) 3
      setField (.ref p) 3 t
      letGo [before] [t]
      ret t) Q E s := by
  have hlt : p < s.heap.objs.size := Heap.lt_size hp
  refine wpAny_bind (wpAny_newTuple ?_ (by rw [sizeLine_eq]; omega))
  have hp' : IsPerm (s.heap.push { cls := .type "tuple", data := .seq l.toArray }) p T st n old ns := Heap.get?_push_of_some _ hp
  refine wpAny_bind (wpAny_field hp' rfl (x := old) (by unfold permF; simp) ?_)
  refine wpAny_bind (wpAny_setField_rec hp' (by rw [permF_size]; omega) fun h2 hp2 hs2 => ?_)
  rw [permF_set3] at hp2
  refine wpAny_bind (wpAny_letGo ?_)
  refine wpAny_pure ?_
  refine hQ h2 hp2 (hs2.extBut _ _ (Nat.ne_of_gt hlt) (Heap.get?_push_size _ rfl)) (by rw [hs2.1, Heap.size_push]) fun b o hb e => hs2.extBut _ _ hb (Heap.get?_push_of_some _ e)
theorem perm_first {p T : Addr} {n : Nat} {old : Value} {ns : List Nat} {o : Obj} {acc : Array Value} {m : Nat} {Q : Fin → Shared → Prop} (hp : IsPerm s.heap p T 0 n old ns) (hT : s.heap.get? T = some o) (hd : o.data = .seq acc m) (hTp : T ≠ p) (hn : n ≤ 8)
    (hQ : ∀ h', IsPerm h' p T 1 n (.ref s.heap.objs.size) ns → h'.get? s.heap.objs.size = some { cls := .type "tuple", data := .seq (permPick n acc ns).toArray } → h'.objs.size = s.heap.objs.size + 1 →
      (∀ b o, b ≠ p → s.heap.get? b = some o → h'.get? b = some o) → Q (.done (.ret (.ref s.heap.objs.size))) { s with heap := h' }) :
    wpAny (model prog w) A (Builtin.«itertools.permutations.__next__» ⟨[.ref p], []⟩) Q E s := by
  show wpAny _ _ (field (.ref p) 0 >>= _) _ _ _
  refine wpAny_bind (wpAny_field hp rfl (x := .ref T) rfl ?_)
  refine wpAny_bind (perm_pool hT hd ?_)
  refine wpAny_bind (perm_int hp (k := (n : Nat)) (t := 0) rfl ?_)
  refine wpAny_bind (perm_numbers hp ?_)
  refine wpAny_bind (perm_int hp (k := (0 : Nat)) (t := 0) rfl ?_)
  show wpAny _ _ (setField (.ref p) 1 (rawInt 1) >>= _) _ _ _
  refine wpAny_bind (wpAny_setField_rec hp (by rw [permF_size]; omega) fun h1 hp1 hs1 => ?_)
  replace hp1 : IsPerm h1 p T 1 n old ns := by rw [show (permF T 0 n old ns).setIfInBounds 1 (rawInt 1) = permF T 1 n old ns from permF_set1 1] at hp1; exact hp1
  have hz : h1.objs.size = s.heap.objs.size := hs1.1
  refine perm_result (s := { s with heap := h1 }) hp1 ?_ fun h2 q1 q2 q3 q4 => ?_
  · rw [List.length_map, List.length_take, Int.toNat_natCast]; omega
  · rw [Int.toNat_natCast] at q2
    show Q (.done (.ret (.ref h1.objs.size))) _
    have q1' : IsPerm h2 p T 1 n (.ref s.heap.objs.size) ns := by rw [← hz]; exact q1
    rw [hz]
    exact hQ h2 q1' (by rw [← hz]; exact q2) (by rw [← hz]; exact q3) fun b o hb e => q4 b o hb (hs1.extBut _ _ hb e)
end
end PySem

set_option maxRecDepth 100000
set_option linter.all false
namespace PySem
open PySem.Spec
def fct : Nat → Nat
  | 0 => 1
  | n + 1 => (n + 1) * fct n
/-- the k-th order of xs (m of them), by the digits of k in the base of the factorials -/
def permIx : Nat → Nat → List Nat → List Nat
  | 0, _, _ => []
  | m + 1, k, xs => xs.getD (k / fct m) 0 :: permIx m (k % fct m) (xs.eraseIdx (k / fct m))
def permCy : Nat → Nat → List Nat
  | 0, _ => []
  | m + 1, k => (m + 1 - k / fct m) :: permCy m (k % fct m)
theorem permIx_len : ∀ (m k : Nat) (xs : List Nat), (permIx m k xs).length = m
  | 0, _, _ => rfl
  | m + 1, k, xs => by rw [permIx, List.length_cons, permIx_len m]
theorem permCy_len : ∀ (m k : Nat), (permCy m k).length = m
  | 0, _ => rfl
  | m + 1, k => by rw [permCy, List.length_cons, permCy_len m]
theorem permF_setN {T : Addr} {st n : Nat} {old : Value} {ns ms : List Nat} : (permF T st n old ns).extract 0 4 ++ (ms.map fun (i : Nat) => rawInt i).toArray = permF T st n old ms := by
  unfold permF
  apply Array.toList_inj.mp
  simp
theorem perm_setNumbers {prog : Program} {w : World} {A : Around} {E : Value → Shared → Prop} {s : Shared} {p T : Addr} {st n : Nat} {old : Value} {ns ms : List Nat} {Q : Unit → Shared → Prop} (hp : IsPerm s.heap p T st n old ns) (hm : ms.length ≤ 16)
    (h : ∀ h', IsPerm h' p T st n old ms → Heap.SameBut p s.heap h' → Q () { s with heap := h' }) :
    wpAny (model prog w) A (Builtin.Itertools.itSetNumbersFrom (.ref p) 4 ms) Q E s := by
  unfold Builtin.Itertools.itSetNumbersFrom
  refine wpAny_updateFields hp rfl (h _ ?_ (Heap.SameBut.update ..)) ?_
  · rw [IsPerm, Heap.get?_update_self _ hp rfl]
    show some (Obj.mapFields (fun fs => fs.extract 0 4 ++ (ms.map fun (i : Nat) => rawInt i).toArray) { cls := .type "itertools.permutations", data := .fields (permF T st n old ns) }) = _
    show some ({ cls := .type "itertools.permutations", data := .fields ((permF T st n old ns).extract 0 4 ++ (ms.map fun (i : Nat) => rawInt i).toArray) } : Obj) = _
    rw [permF_setN]
  · rw [permF_setN, permF_size, sizeLine_eq]; omega
theorem np_ex : ∃ np : Nat → Nat → List Nat → List Nat → Option (List Nat × List Nat),
    (∀ (prog : Program) (w : World) (A : Around) (E : Value → Shared → Prop) (s : Shared) (p T : Addr) (n : Nat) (old : Value) (ix cy ix' cy' : List Nat) (o : Obj) (acc : Array Value) (m : Nat) (Q : Fin → Shared → Prop), np n n ix cy = some (ix', cy') →
      IsPerm s.heap p T 1 n old (ix ++ cy) → s.heap.get? T = some o → o.data = .seq acc m → acc.size = n → T ≠ p → n ≤ 8 → ix.length = n → ix'.length = n → cy'.length = n →
      (∀ h', IsPerm h' p T 1 n (.ref s.heap.objs.size) (ix' ++ cy') → h'.get? s.heap.objs.size = some { cls := .type "tuple", data := .seq (permPick n acc ix').toArray } → h'.objs.size = s.heap.objs.size + 1 →
        (∀ b o, b ≠ p → s.heap.get? b = some o → h'.get? b = some o) → Q (.done (.ret (.ref s.heap.objs.size))) { s with heap := h' }) →
      wpAny (model prog w) A (Builtin.«itertools.permutations.__next__» ⟨[.ref p], []⟩) Q E s) ∧
    (∀ (prog : Program) (w : World) (A : Around) (E : Value → Shared → Prop) (s : Shared) (p T : Addr) (n : Nat) (old : Value) (ix cy : List Nat) (o : Obj) (acc : Array Value) (m : Nat) (Q : Fin → Shared → Prop), np n n ix cy = none → A.handled = none →
      IsPerm s.heap p T 1 n old (ix ++ cy) → s.heap.get? T = some o → o.data = .seq acc m → acc.size = n → T ≠ p → ix.length = n →
      (∀ h' e, (∀ b o, b ≠ p → s.heap.get? b = some o → h'.get? b = some o) → (∃ o, h'.get? e = some o ∧ o.cls = .type "StopIteration") → E (.ref e) { s with heap := h' }) →
      wpAny (model prog w) A (Builtin.«itertools.permutations.__next__» ⟨[.ref p], []⟩) Q E s) ∧
    (∀ n, n < 6 → ∀ k, k < fct n → np n n (permIx n k (List.range n)) (permCy n k) = if k + 1 < fct n then some (permIx n (k + 1) (List.range n), permCy n (k + 1)) else none) := by
  apply Exists.intro
  refine ⟨?_, ?_, ?_⟩
  · intro prog w A E s p T n old ix cy ix' cy' o acc m Q hnp hp hT hd hsz hTp hn hix hix' hcy' hQ
    show wpAny _ _ (field (.ref p) 0 >>= _) _ _ _
    refine wpAny_bind (wpAny_field hp rfl (x := .ref T) rfl ?_)
    refine wpAny_bind (perm_pool hT hd ?_)
    refine wpAny_bind (perm_int hp (k := (n : Nat)) (t := 0) rfl ?_)
    refine wpAny_bind (perm_numbers hp ?_)
    refine wpAny_bind (perm_int hp (k := 1) (t := 0) rfl ?_)
    dsimp only
    rw [Int.toNat_natCast, hsz, List.take_left' hix, List.drop_left' hix]
    split
    · rename_i h10; exact absurd h10 (by decide)
    · split
      · rename_i _ ia ca heq
        have hh := hnp.symm.trans heq
        cases hh
        refine wpAny_bind (perm_setNumbers hp (by rw [List.length_append]; omega) fun h1 hp1 hs1 => ?_)
        have hz : h1.objs.size = s.heap.objs.size := hs1.1
        refine perm_result (s := { s with heap := h1 }) hp1 ?_ fun h2 q1 q2 q3 q4 => ?_
        · rw [List.length_map, List.length_take]; omega
        · show Q (.done (.ret (.ref h1.objs.size))) _
          have q1' : IsPerm h2 p T 1 n (.ref s.heap.objs.size) (ix' ++ cy') := by rw [← hz]; exact q1
          rw [hz]
          exact hQ h2 q1' (by rw [← hz]; exact q2) (by rw [← hz]; exact q3) fun b o hb e => q4 b o hb (hs1.extBut _ _ hb e)
      · rename_i heq
        exact nomatch hnp.symm.trans heq
    · rename_i h11; exact absurd rfl h11
  · intro prog w A E s p T n old ix cy o acc m Q hnp hh hp hT hd hsz hTp hix hE
    show wpAny _ _ (field (.ref p) 0 >>= _) _ _ _
    refine wpAny_bind (wpAny_field hp rfl (x := .ref T) rfl ?_)
    refine wpAny_bind (perm_pool hT hd ?_)
    refine wpAny_bind (perm_int hp (k := (n : Nat)) (t := 0) rfl ?_)
    refine wpAny_bind (perm_numbers hp ?_)
    refine wpAny_bind (perm_int hp (k := 1) (t := 0) rfl ?_)
    dsimp only
    rw [Int.toNat_natCast, hsz, List.take_left' hix, List.drop_left' hix]
    split
    · rename_i h10; exact absurd h10 (by decide)
    · split
      · rename_i _ ia ca heq
        exact nomatch hnp.symm.trans heq
      · refine wpAny_bind (wpAny_setField_rec hp (by rw [permF_size]; omega) fun h1 hp1 hs1 => ?_)
        unfold Builtin.Itertools.itStop
        simp only [newExc, newTuple]
        refine wpAny_bind ?_
        refine wpAny_bind (wpAny_newObj_type ?_ (by size_fits))
        refine wpAny_bind (m := firstArgMember _ _) (wpAny_of_eq (a := Value.none) (by first | rfl | (simp only [firstArgMember]; rfl)) ?_)
        refine wpAny_newObj_type ?_ (by size_fits)
        simp only [raiseNew]
        refine wpAny_bind (wpAny_handled ?_)
        rw [hh]
        refine wpAny_bind (wpAny_pure (wpAny_throw ?_))
        exact hE _ _ (fun b o hb e => Heap.get?_push_of_some _ (Heap.get?_push_of_some _ (hs1.extBut _ _ hb e))) ⟨_, Heap.get?_push_size _ rfl, rfl⟩
    · rename_i h11; exact absurd rfl h11
  · decide +kernel
end PySem

set_option maxRecDepth 100000
set_option linter.all false
namespace PySem.F
theorem plain_perm_new : plainId "itertools.permutations.__new__" = true := by decide +kernel
end PySem.F
namespace L2
open PySem PySem.Spec PyProof.Rows
section
variable {prog : Program} {w : World} {A : Around} {E : Value → Shared → Prop} {s : Shared} {r : Addr} {t u v : Tok} {n : Nat}
theorem perm_start : ∀ n, n < 6 → permIx n 0 (List.range n) = List.range n ∧ permCy n 0 = (List.range n).map (fun i => n - i) := by decide +kernel
theorem permF_start (T n : Nat) (hn : n < 6) : ([.ref T, rawInt 0, rawInt (n : Nat), .none] ++ (List.range n).map (fun i => rawInt (i : Nat)) ++ (List.range n).map fun i => rawInt ((n : Int) - (i : Nat))).toArray = permF T 0 n .none (permIx n 0 (List.range n) ++ permCy n 0) := by
  obtain ⟨e1, e2⟩ := perm_start n hn
  rw [e1, e2]
  unfold permF
  rw [List.map_append, List.map_map, List.append_assoc]
  have e3 : (List.range n).map (fun i => rawInt ((n : Int) - (i : Nat))) = (List.range n).map ((fun i : Nat => rawInt (i : Int)) ∘ fun i => n - i) := by
    refine List.map_congr_left fun i hi => ?_
    have := List.mem_range.mp hi
    show rawInt ((n : Int) - (i : Nat)) = rawInt ((n - i : Nat) : Int)
    rw [show ((n : Int) - (i : Nat)) = ((n - i : Nat) : Int) by omega]
  rw [e3]
  rfl
theorem call_perm {Q : Value → Shared → Prop} (hh : A.handled = none) (hr : IsRange s.heap r 0 (n : Nat) 1 t u v) (hn : n < 6)
    (hQ : ∀ (h' : Heap) (tk : Nat) (acc : Array Value), (∀ b o, s.heap.get? b = some o → h'.get? b = some o) → ItemsOf (fun i v => ∃ t, v = .int i t) acc n →
      Q (.ref (h'.objs.size + 1)) { s with heap := (h'.push { cls := .type "tuple", data := .seq acc }).push { cls := .type "itertools.permutations", data := .fields (permF h'.objs.size 0 n .none (permIx n 0 (List.range n) ++ permCy n 0)) }, toks := tk }) :
    wpAny (model prog w) A (call (.type "itertools.permutations") [.ref r]) Q E s := by
  refine callType_codes (Q₁ := fun obj s₁ => s₁.TypeIs obj "itertools.permutations" ∧ Q obj s₁) F.called_perm (F.typeCall_perm_1 _) F.entry_object_init ?_ fun obj s₁ h₁ =>
    ⟨h₁.1, F.args_object_init_2 obj _, object_init_meets F.called_perm.init.lookup F.called_perm.made (by decide) prog w A.in1 _ s₁ ⟨h₁.1, rfl, h₁.2⟩⟩
  refine codeAny_of_tree ?_
  show wpAny _ A.in1.in1 (do checkBuiltinCall "itertools.permutations.__new__" ⟨[.type "itertools.permutations", .ref r], []⟩; again (.builtin "itertools.permutations.__new__" ⟨[.type "itertools.permutations", .ref r], []⟩)) _ _ s
  refine wpAny_bind (wpAny_of_eq (F.newCall_perm_1 _) (wpAny_pure ⟨plainId_quiet F.plain_perm_new _, codeAny_builtin F.entry_perm_new ?_⟩))
  rw [Around.under_plainId F.plain_perm_new _]
  have hh1 : A.in1.in1.handled = none := hh
  refine perm_new n (by omega) (fun Q' E' h' => ?_) fun h' tk acc hk hi => ?_
  · refine collect_range (A := A.in1.in1) hh1 hr (small_one (by omega) (by omega) (by omega) (by omega)) (n := n) (by rw [rangeSize_one]; split <;> omega) (by omega) fun h1 tk acc hk hi => ?_
    refine h' h1 tk acc hk ⟨hi.1, fun j x hj => ?_⟩
    obtain ⟨t, e⟩ := hi.2 j x hj
    exact ⟨t, by rw [e, Int.zero_add, Int.mul_one]⟩
  · have e := permF_start h'.objs.size n hn
    rw [e]
    have e2 : (h'.push { cls := .type "tuple", data := .seq acc }).objs.size = h'.objs.size + 1 := Heap.size_push ..
    have e3 := Heap.get?_push_size (h'.push { cls := .type "tuple", data := .seq acc }) (o := { cls := .type "itertools.permutations", data := .fields (permF h'.objs.size 0 n .none (permIx n 0 (List.range n) ++ permCy n 0)) }) rfl
    rw [e2] at e3
    exact ⟨⟨_, e3, rfl⟩, hQ h' tk acc hk hi⟩
/-- the orders of 0 .. n - 1, each in a new tuple -/
def permV (n k : Nat) : List V := (permIx n k (List.range n)).map fun (j : Nat) => V.int (j : Nat)
def ItP (n : Nat) : It :=
  ⟨fun i _ => i < fct n, fun i H v H' => ∃ q, v = .ref q ∧ H q = none ∧ H' = upd H q (.tup (permV n i)), fun i _ => fct n ≤ i⟩
theorem perm_lt : ∀ n, n < 6 → ∀ k, k < fct n → ∀ j ∈ permIx n k (List.range n), j < n := by decide +kernel
theorem vals_pick {n k : Nat} {acc : Array Value} (hn : n < 6) (hk : k < fct n) (h : ItemsOf (fun i v => ∃ t, v = .int (i : Nat) t) acc n) : Vals (permV n k) (permPick n acc (permIx n k (List.range n))) := by
  unfold permV permPick
  rw [List.take_of_length_le (by rw [permIx_len]; exact Nat.le_refl _)]
  have hl := perm_lt n hn k hk
  have : ∀ l : List Nat, (∀ j ∈ l, j < n) → Vals (l.map fun (j : Nat) => V.int (j : Nat)) (l.map fun i => acc.getD i .none) := fun l => by
    induction l with
    | nil => exact fun _ => .nil
    | cons a l ih =>
      intro hm
      refine .cons ?_ (ih fun j hj => hm j (List.mem_cons_of_mem _ hj))
      have ha : a < acc.size := by rw [h.1]; exact hm a List.mem_cons_self
      obtain ⟨t, e⟩ := h.2 a acc[a] (by simp [ha])
      refine ⟨t, ?_⟩
      rw [← e]
      simp [Array.getD, ha]
  exact this _ hl
theorem pick_app {n : Nat} {acc : Array Value} {ix cy : List Nat} (h : ix.length = n) : permPick n acc (ix ++ cy) = permPick n acc ix := by
  unfold permPick
  rw [List.take_left' h, List.take_of_length_le (Nat.le_of_eq h)]
def PermAt (p T n i : Nat) (h : Heap) : Prop := i ≤ fct n ∧ T ≠ p ∧ ∃ (old : Value) (acc : Array Value), IsPerm h p T (if i = 0 then 0 else 1) n old (permIx n (i - 1) (List.range n) ++ permCy n (i - 1)) ∧
  h.get? T = some { cls := .type "tuple", data := .seq acc } ∧ ItemsOf (fun i v => ∃ t, v = .int (i : Nat) t) acc n
theorem fct_le {n : Nat} (h : n < 6) : fct n ≤ 120 := (show ∀ n, n < 6 → fct n ≤ 120 by decide +kernel) n h
theorem fct_pos {n : Nat} (h : n < 6) : 0 < fct n := (show ∀ n, n < 6 → 0 < fct n by decide +kernel) n h
theorem turn_perm {P : Program} {w : World} {K : PySem.W.Frag} {tg : Expr} {n : Nat} (p T : Addr) (hn : n < 6) : Turn P w K tg (ItP n) [p, T] p (fun i h => PermAt p T n i h) where
  mem := by simp
  obj := fun i h st b hb => by
    obtain ⟨_, _, old, acc, h1, h2, _⟩ := st
    have e' : b = p ∨ b = T := by simpa using hb
    rcases e' with z | z
    · rw [z]; exact ⟨_, h1, fun v q => nomatch q⟩
    · rw [z]; exact ⟨_, h2, fun v q => nomatch q⟩
  keep := fun i h h' st k => let ⟨hi, hne, old, acc, h1, h2, h3⟩ := st; ⟨hi, hne, old, acc, k p (by simp) _ h1, k T (by simp) _ h2, h3⟩
  item := by
    intro X hP hw hK hc i pins s σ H E I hf st hg
    subst hP hw hK
    obtain ⟨hi, hne, old, acc, h1, h2, h3⟩ := st
    have hlt : i < fct n := hg
    have hpl : p < s.heap.objs.size := Heap.lt_size h1
    have hTl : T < s.heap.objs.size := Heap.lt_size h2
    have hT : s.TypeIs (.ref p) "itertools.permutations" := ⟨_, h1, rfl⟩
    have fin : ∀ h', IsPerm h' p T 1 n (.ref s.heap.objs.size) (permIx n i (List.range n) ++ permCy n i) → h'.get? s.heap.objs.size = some { cls := .type "tuple", data := .seq (permPick n acc (permIx n i (List.range n))).toArray } → h'.objs.size = s.heap.objs.size + 1 →
        (∀ b o, b ≠ p → s.heap.get? b = some o → h'.get? b = some o) →
        (∃ u, some (Value.ref s.heap.objs.size) = some u ∧ wpAny (model X.prog X.w) X.A (letOwnedTupleGo tg (.ref p) u) (fun _ s2 => ∃ x H', Inv X pins σ H' s2 ∧ RelV x u ∧ (ItP n).yld i H x H' ∧ PermAt p T n (i + 1) s2.heap ∧ ∀ b ∈ [p, T], H' b = none) E { s with heap := h' }) := by
      intro h' q1 q2 q3 q4
      refine ⟨_, rfl, go_of (s := { s with heap := h' }) (n := "itertools.permutations") q1 rfl rfl (by decide) ?_⟩
      have new : ObjOk X.prog X.w (upd H s.heap.objs.size (.tup (permV n i))) h' s.heap.objs.size (.tup (permV n i)) :=
        ⟨by unfold permV; rw [List.length_map, permIx_len, sizeLine_eq]; omega, _, vals_pick hn hlt h3, ⟨_, q2, rfl, _, rfl⟩⟩
      have I1 : Inv X pins σ (upd H s.heap.objs.size (.tup (permV n i))) { s with heap := h' } :=
        I.turnedNew (t' := s.toks) (ch := [p, T]) (fun b ob hb q => q4 b ob (fun z => hb (by simp [z])) q) hf (Nat.le_refl _) new
      refine ⟨.ref s.heap.objs.size, _, I1, rfl, ⟨_, rfl, I.hok.fresh (Nat.le_refl _), rfl⟩, ⟨hlt, hne, .ref s.heap.objs.size, acc, ?_, q4 T _ hne h2, h3⟩, fun b hb => ?_⟩
      · rw [if_neg (Nat.succ_ne_zero i)]; exact q1
      · have hb' : b < s.heap.objs.size := by
          have e' : b = p ∨ b = T := by simpa using hb
          rcases e' with z | z
          · rw [z]; exact hpl
          · rw [z]; exact hTl
        rw [upd_ne (Nat.ne_of_lt hb')]
        exact (hf b hb).1
    unfold pyNext
    refine wpAny_bind (wpAny_attempt (wpAny_callSpecial?_slot (name := Str.ofString "__next__") hT F.slot_perm_next
      (wpAny_call_entry F.slot_perm_next hT F.entry_perm_next ?_ (F.args_perm_next_1 _))))
    cases i with
    | zero =>
      refine perm_first h1 h2 rfl hne (by omega) fun h' q1 q2 q3 q4 => ⟨_, rfl, wpAny_pure (fin h' q1 (by rw [pick_app (permIx_len ..)] at q2; exact q2) q3 q4)⟩
    | succ k =>
      obtain ⟨np, r1, r2, r3⟩ := np_ex
      have e := r3 n hn k (by omega)
      rw [if_pos (by omega)] at e
      rw [if_neg (Nat.succ_ne_zero k)] at h1
      refine r1 _ _ _ _ _ p T n old _ _ _ _ _ acc _ _ e h1 h2 rfl h3.1 hne (by omega) (permIx_len ..) (permIx_len ..) (permCy_len ..) fun h' q1 q2 q3 q4 => ⟨_, rfl, wpAny_pure (fin h' q1 q2 q3 q4)⟩
  done := by
    intro X hP hw hK hc i pins s σ H E I hf st hg
    subst hP hw hK
    obtain ⟨hi, hne, old, acc, h1, h2, h3⟩ := st
    have hge : fct n ≤ i := hg
    have hpos := fct_pos hn
    have hT : s.TypeIs (.ref p) "itertools.permutations" := ⟨_, h1, rfl⟩
    obtain ⟨f0, f1, f2, f3, f4, f5⟩ := hf p (by simp)
    unfold pyNext
    refine wpAny_bind (wpAny_attempt (wpAny_callSpecial?_slot (name := Str.ofString "__next__") hT F.slot_perm_next
      (wpAny_call_entry F.slot_perm_next hT F.entry_perm_next ?_ (F.args_perm_next_1 _))))
    cases i with
    | zero => omega
    | succ k =>
      obtain ⟨np, r1, r2, r3⟩ := np_ex
      have e := r3 n hn k (by omega)
      rw [if_neg (by omega)] at e
      rw [if_neg (Nat.succ_ne_zero k)] at h1
      refine r2 _ _ _ _ _ p T n old _ _ _ acc _ _ e (show X.A.in1.handled = none from I.ok.hd hc) h1 h2 rfl h3.1 hne (permIx_len ..) fun h' x he' hx' => ?_
      obtain ⟨o, ho, hc'⟩ := hx'
      refine wpAny_bind (wpAny_isInstance (T := "StopIteration") (b := true) ⟨o, ho, hc'⟩ isSubtype_stop ?_)
      exact wpAny_pure ⟨rfl, I.turned (t' := s.toks) (fun b o hb q => he' b o hb q) f0 f1 f3 f4 f5⟩
  self := fun A i s Q E st h => by
    obtain ⟨hi, hne, old, acc, h1, h2, h3⟩ := st
    have hT : s.TypeIs (.ref p) "itertools.permutations" := ⟨_, h1, rfl⟩
    refine wpAny_pyIter_slot hT F.slot_perm_iter (wpAny_call_entry F.slot_perm_iter hT F.entry_perm_iter ?_ (F.args_perm_iter_1 _))
    show wpAny _ _ (ret (.ref p)) _ _ s
    exact wpAny_pure ⟨_, rfl, "itertools.permutations", _, hT, F.slot_perm_next.lookup, h⟩
def iPerm (te : St → Hp → (Int → Int → Hp → Prop) → Prop) : TI := fun σ H R => te σ H fun a b H1 => ∃ n : Nat, a = 0 ∧ b = (n : Nat) ∧ n < 6 ∧ R (ItP n) H1
theorem pi_perm {X : Cx} {tg e : Expr} {te : St → Hp → (Int → Int → Hp → Prop) → Prop} {x : Str} {p pos : Pos} (hc : X.calm = true) (hg : Gl X x) (hm : X.mg x = some (.type "itertools.permutations")) (he : PRg X e te)
    (hdb : (x == ("__debug__" : Str)) = false := by decide) (na : starEach [e] X.env = (false, eval e X.env) :: starEach [] X.env := by rfl) :
    PI X tg (.Call (.Name x p) [e] [] pos) (iPerm te) := by
  refine ⟨fun pins s σ H R I h => ?_⟩
  refine Call_ (ld_glob I hg hm (PyProof.Rows.callWith_type1 (args_cons (thn (he pins s σ H _ I h) fun y s1 ⟨r, a, b, t, u, v, H1, ex, hr, I1, ok⟩ => args_nil ?_) na) na) hdb)
  subst ex
  obtain ⟨n, rfl, rfl, hn, q⟩ := ok
  refine call_perm (I1.ok.hd hc) hr hn fun h' tk acc hk hi => ?_
  have hz : (h'.push { cls := .type "tuple", data := .seq acc }).objs.size = h'.objs.size + 1 := Heap.size_push ..
  have g1 := Heap.get?_push_size (h'.push { cls := .type "tuple", data := .seq acc }) (o := { cls := .type "itertools.permutations", data := .fields (permF h'.objs.size 0 n .none (permIx n 0 (List.range n) ++ permCy n 0)) }) rfl
  rw [hz] at g1
  have g0 := Heap.get?_push_of_some { cls := .type "itertools.permutations", data := .fields (permF h'.objs.size 0 n .none (permIx n 0 (List.range n) ++ permCy n 0)) } (Heap.get?_push_size h' (o := { cls := .type "tuple", data := .seq acc }) rfl)
  have I2 : Inv X pins σ H1 { s1 with heap := h', toks := tk } := I1.kept hk
  have I3 : Inv X pins σ H1 { s1 with heap := (h'.push { cls := .type "tuple", data := .seq acc }).push { cls := .type "itertools.permutations", data := .fields (permF h'.objs.size 0 n .none (permIx n 0 (List.range n) ++ permCy n 0)) }, toks := tk } :=
    I2.kept (t' := tk) fun b o e => Heap.get?_push_of_some _ (Heap.get?_push_of_some _ e)
  have st : PermAt (h'.objs.size + 1) h'.objs.size n 0 ((h'.push { cls := .type "tuple", data := .seq acc }).push { cls := .type "itertools.permutations", data := .fields (permF h'.objs.size 0 n .none (permIx n 0 (List.range n) ++ permCy n 0)) }) :=
    ⟨Nat.zero_le _, Nat.ne_of_lt (Nat.lt_succ_self _), .none, acc, g1, g0, hi⟩
  have T := turn_perm (P := X.prog) (w := X.w) (K := X.K) (tg := tg) (h'.objs.size + 1) h'.objs.size hn
  refine T.self X.A 0 _ _ _ st ?_
  refine ⟨h'.objs.size + 1, [h'.objs.size + 1, h'.objs.size], _, _, H1, rfl, I3, T, st, fun b hb => ?_, q⟩
  have hle : h'.objs.size ≤ b := by
    have e' : b = h'.objs.size + 1 ∨ b = h'.objs.size := by simpa using hb
    rcases e' with z | z
    · rw [z]; exact Nat.le_add_right _ _
    · rw [z]; exact Nat.le_refl _
  exact I2.fpOk hle (I2.hok.fresh hle)
theorem walk_perm {n : Nat} : Walk (ItP n) (fct n) (fun _ => True) (fun i H v H' => ∃ q, v = .ref q ∧ H q = none ∧ H' = upd H q (.tup (permV n i))) :=
  ⟨fun i _ hi _ => hi, fun _ _ => Nat.le_refl _, fun i H v H' _ _ y => y⟩
end
end L2

set_option maxRecDepth 100000
set_option linter.all false
namespace PySem.W
open PySem PyProof.Rows PySem.Spec L2
section
variable {prog : Program} {w : World} {A : Around} {E : Value → Shared → Prop} {s : Shared} {r : Addr} {t u v : Tok} {n : Nat}
def IntIs (x : Value) (i : Nat) : Prop := ∃ t : Tok, x = .int (i : Int) t
theorem eachIs_of_at {α β : Type} {R : α → β → Prop} : ∀ {xs : List α} {bs : List β}, xs.length = bs.length → (∀ (i : Nat) x b, xs[i]? = some x → bs[i]? = some b → R x b) → EachIs R xs bs
  | [], [], _, _ => .nil
  | x :: xs, b :: bs, hl, h => .cons (h 0 x b rfl rfl) (eachIs_of_at (by simpa using hl) fun i y c e1 e2 => h (i + 1) y c (by simpa using e1) (by simpa using e2))
  | [], _ :: _, hl, _ => by simp at hl
  | _ :: _, [], hl, _ => by simp at hl
/-- sorted(range(n), key=f[, reverse=b]) -/
theorem sorted_range_key {f : Value} {kw : List (Str × Value)} {b : Bool} {Q : Value → Shared → Prop} (hh : A.handled = none) (hr : IsRange s.heap r 0 (n : Nat) 1 t u v) (hn : n ≤ 1000) (k : Nat → PyData) (hal : AllAlike ((List.range n).map k)) (hk : Sortable ((List.range n).map k))
    (hu : ∀ x, x ∈ List.range n → A.units + 2 + (k x).depth < cLine) (ha1 : argsOk "sorted" ⟨[.ref r], kw⟩) (ha2 : ∀ x, argsOk "list.sort" ⟨[.ref x], kw⟩) (ht : ∀ x, Builtin.«list.sort» ⟨[.ref x], kw⟩ = ksk_tree x f b)
    (turn : ∀ (x : Value) (i : Nat), IntIs x i → i ∈ List.range n → ∀ (h : Heap) (tk : Nat), (∀ b o, s.heap.get? b = some o → h.get? b = some o) →
      wpAny (model prog w) A.in1.in1 (call f [x]) (KeyPure (k i) { s with heap := h, toks := tk }) (fun _ _ => False) { s with heap := h, toks := tk })
    (h : ∀ (h1 : Heap) out c h' tk, (∀ b o, s.heap.get? b = some o → h1.get? b = some o) → (∀ b o, h1.get? b = some o → h'.get? b = some o) → h'.get? h1.objs.size = some (seqObj "list" (List.toArray out) c) → EachIs IntIs out ((List.range n).mergeSort (dataLe b k)) →
      Q (.ref h1.objs.size) { s with heap := h', toks := tk }) :
    wpAny (model prog w) A (call (.builtin "sorted") [.ref r] kw) Q E s := by
  refine call_function_entry_kw kind_sorted plain_sorted entry_sorted ha1 ?_
  unfold Builtin.«sorted»
  refine wpAny_bind (m := checkCount "sorted" 1 1 _) (wpAny_pure ?_)
  have hh1 : A.in1.handled = none := hh
  refine wpAny_bind (collect_range hh1 hr (small_one (by omega) (by omega) (by omega) (by omega)) (n := n) (by rw [rangeSize_one]; split <;> omega) (by omega) fun h1 tk acc hk1 hi => ?_)
  have hlen : acc.toList.length = n := by rw [Array.length_toList]; exact hi.1
  have hZ : acc.toList.length ≤ sizeLine := by rw [hlen, sizeLine_eq]; omega
  refine wpAny_bind (wpAny_newList ?_ hZ)
  have ho : (h1.push { cls := .type "list", data := .seq acc.toList.toArray }).get? h1.objs.size = some (seqObj "list" acc.toList.toArray 0) := Heap.get?_push_size _ rfl
  refine wpAny_bind (wpAny_holding (wpAny_call_entry_kw slot_list_sort ⟨_, ho, rfl⟩ entry_list_sort ?body (ha2 _)))
  case body =>
    show wpAny (model prog w) A.in1.in1 (Builtin.«list.sort» ⟨[.ref h1.objs.size], kw⟩) _ _ _
    rw [ht]
    have e : EachIs IntIs acc.toList (List.range n) := eachIs_of_at (by rw [hlen, List.length_range]) fun i x j e1 e2 => by
      have hj := (List.getElem?_eq_some_iff.mp e2)
      obtain ⟨hj1, hj2⟩ := hj
      rw [List.getElem_range] at hj2
      subst hj2
      obtain ⟨t, e3⟩ := hi.2 i x (by rw [← e1, Array.getElem?_toList])
      exact ⟨t, by rw [e3, Int.zero_add, Int.mul_one]⟩
    have up1 : ∀ {g : Heap}, KeepsBut h1.objs.size (h1.push { cls := .type "list", data := .seq acc.toList.toArray }) g → ∀ b o, h1.get? b = some o → g.get? b = some o := fun {g} kp b o q =>
      kp b o (Nat.ne_of_lt (Heap.lt_size q)) (Heap.get?_push_of_some _ q)
    have up : ∀ {g : Heap}, KeepsBut h1.objs.size (h1.push { cls := .type "list", data := .seq acc.toList.toArray }) g → ∀ b o, s.heap.get? b = some o → g.get? b = some o := fun {g} kp b o q => up1 kp b o (hk1 b o q)
    refine keyH_tree (kz := (List.range n).map k) (s := { s with heap := h1.push { cls := .type "list", data := .seq acc.toList.toArray }, toks := tk }) ho (by rw [List.length_map, List.length_range, hlen]) hZ hal hk (bound_map (A := A.in1.in1) hu)
      (keyH_turns (s := { s with heap := h1.push { cls := .type "list", data := .seq acc.toList.toArray }, toks := tk }) e fun x i hR hx h tk kp => turn x i hR hx h tk (up kp)) fun h' tk out c kp hD ko => ?_
    refine ⟨_, rfl, wpAny_pure ⟨_, rfl, ?_⟩⟩
    exact h h1 out c h' tk hk1 (up1 kp) hD (keyedOut_each k ko e)
end
end PySem.W

set_option maxRecDepth 100000
set_option linter.all false
namespace PySem.W
open PySem PyProof.Rows PySem.Spec L2
section
variable {prog : Program} {w : World} {A : Around} {env : Env} {h0 : Heap} {a b : Expr} {pos : Pos} {x : Str} {R R' : Heap → Value → Prop}
/-- e is evaluated from any heap that keeps h0's objects: it keeps all objects, its value is of R -/
structure Pur (prog : Program) (w : World) (A : Around) (env : Env) (h0 : Heap) (e : Expr) (R : Heap → Value → Prop) : Prop where
  run : ∀ (s : Shared) (Q E : Value → Shared → Prop), (∀ b o, h0.get? b = some o → s.heap.get? b = some o) →
    (∀ h' tk v, (∀ b o, s.heap.get? b = some o → h'.get? b = some o) → R h' v → Q v { s with heap := h', toks := tk }) → wpAny (model prog w) A (eval e env) Q E s
theorem Pur.imp (p : Pur prog w A env h0 a R) (i : ∀ h v, R h v → R' h v) : Pur prog w A env h0 a R' := ⟨fun s Q E hk h => p.run s Q E hk fun h' tk v k r => h h' tk v k (i _ _ r)⟩
theorem pu_free {c : Addr} {v : Value} (hk : env.scope.kind = .function) (hl : env.kindOf x = some .free) (hc : env.cells.lookup x = some c) (hv : h0.IsCell c (some v)) (hd : (x == ("__debug__" : Str)) = false := by decide) (hcd : (x == ("__classdict__" : Str)) = false := by decide) :
    Pur prog w A env h0 (.Name x pos) (fun _ u => u = v) := ⟨fun s Q E k h => wpAny_Name (wpAny_loadName_free hk hl hc (hv.keeps k) (h s.heap s.toks v (fun _ _ e => e) rfl) hcd) hd⟩
theorem pu_local {m : Str → Option Value} {v : Value} (hk : env.scope.kind = .function) (hl : env.kindOf x = some .local) (hn : h0.Ns env.locals m) (hm : m x = some v) (hd : (x == ("__debug__" : Str)) = false := by decide) :
    Pur prog w A env h0 (.Name x pos) (fun _ u => u = v) := ⟨fun s Q E k h => wpAny_Name (wpAny_loadName_local hk hl (hn.keeps k) hm (h s.heap s.toks v (fun _ _ e => e) rfl)) hd⟩
theorem pu_subT {p : Addr} {its : Array Value} {i : Nat} {t : Tok} {y : Value} (ha : Pur prog w A env h0 a (fun _ u => u = .ref p)) (hb : Pur prog w A env h0 b (fun _ u => u = .int (i : Nat) t)) (ht : IsTup h0 p its) (hi : its[i]? = some y) (hz : i < 2 ^ 62) (hs : PlainIx b) :
    Pur prog w A env h0 (.Subscript a b pos) (fun _ u => u = y) := by
  refine ⟨fun s Q E k h => Subscript_ (ha.run s _ E k fun h1 tk1 v1 k1 e1 => ?_)⟩
  subst e1
  refine hb.run _ _ E (fun b o e => k1 b o (k b o e)) fun h2 tk2 v2 k2 e2 => ?_
  subst e2
  obtain ⟨o, ho, hc, n, hd⟩ := ht
  have ht2 : IsTup h2 p its := ⟨o, k2 _ _ (k1 _ _ (k _ _ ho)), hc, n, hd⟩
  have hlt := (Array.getElem?_eq_some_iff.mp hi).1
  exact subscriptTail_builtinR (s := { s with heap := h2, toks := tk2 }) (x := y) ht2.typeIs slot_tuple_getitem.lookup
    (getItem_tuple (j := i) (Q := fun r s' => r = y ∧ Q r s') ht2 (by omega) (by omega) (by rw [seqIndex_of (by omega) (by omega)]; rfl) hi ⟨rfl, h h2 tk2 y (fun b o e => k2 b o (k1 b o e)) rfl⟩) (hs _ _)
theorem pu_subL {p : Addr} {its : Array Value} {i : Nat} {t : Tok} {y : Value} (ha : Pur prog w A env h0 a (fun _ u => u = .ref p)) (hb : Pur prog w A env h0 b (fun _ u => u = .int (i : Nat) t)) (ht : h0.IsList p its) (hi : its[i]? = some y) (hz : i < 2 ^ 62) (hs : PlainIx b) :
    Pur prog w A env h0 (.Subscript a b pos) (fun _ u => u = y) := by
  refine ⟨fun s Q E k h => Subscript_ (ha.run s _ E k fun h1 tk1 v1 k1 e1 => ?_)⟩
  subst e1
  refine hb.run _ _ E (fun b o e => k1 b o (k b o e)) fun h2 tk2 v2 k2 e2 => ?_
  subst e2
  obtain ⟨o, ho, hc, n, hd⟩ := ht
  have ht2 : h2.IsList p its := ⟨o, k2 _ _ (k1 _ _ (k _ _ ho)), hc, n, hd⟩
  exact item_listR (s := { s with heap := h2, toks := tk2 }) ht2 (by omega) (by omega) (by rw [Int.toNat_natCast]; exact hi) (h h2 tk2 y (fun b o e => k2 b o (k1 b o e)) rfl) (hs _ _)
theorem pu_neg {i : Int} (ha : Pur prog w A env h0 a (fun _ u => ∃ t, u = .int i t)) : Pur prog w A env h0 (.UnaryOp .USub a pos) (fun _ u => ∃ t, u = .int (-i) t) := by
  refine ⟨fun s Q E k h => UnaryOp_ (ha.run s _ E k fun h1 tk1 v1 k1 e1 => ?_)⟩
  obtain ⟨t, rfl⟩ := e1
  exact neg_int (h h1 _ _ k1 ⟨_, rfl⟩)
theorem pu_tup2 {x1} {d e : PyData} (ha : Pur prog w A env h0 a (fun h u => Reads h u d [])) (hb : Pur prog w A env h0 b (fun h u => Reads h u e []))
    (na : starEach [a, b] env = (false, eval a env) :: starEach [b] env := by rfl) (nb : starEach [b] env = (false, eval b env) :: starEach [] env := by rfl) : Pur prog w A env h0 (.Tuple [a, b] x1 pos) (fun h u => Reads h u (.tuple [d, e]) []) := by
  refine ⟨fun s Q E k h => wpAny_Tuple_spliced (args_cons (ha.run s _ E k fun h1 tk1 v1 k1 r1 => args_cons (hb.run _ _ E (fun b o e => k1 b o (k b o e)) fun h2 tk2 v2 k2 r2 => args_nil ?_) nb) na)⟩
  refine ⟨(show 2 ≤ sizeLine by decide), ?_⟩
  have up : ∀ b o, h2.get? b = some o → (h2.push { cls := .type "tuple", data := .seq [v1, v2].toArray }).get? b = some o := fun b o e => Heap.get?_push_of_some _ e
  refine h (h2.push { cls := .type "tuple", data := .seq [v1, v2].toArray }) tk2 _ (fun b o e => up _ _ (k2 _ _ (k1 _ _ e))) ?_
  exact Reads.tuple (Heap.get?_push_size _ rfl) rfl rfl (.cons (Reads.keeps (fun b o e => up _ _ (k2 _ _ e)) r1) (.cons (Reads.keeps up r2) .nil))
end
end PySem.W

set_option maxRecDepth 100000
set_option linter.all false
namespace PySem.W
open PySem PyProof.Rows PySem.Spec L2
section
variable {prog : Program} {w : World} {A : Around} {env : Env} {h0 : Heap} {a b : Expr} {pos : Pos}
theorem pu_mul {i j : Int} (ha : Pur prog w A env h0 a (fun _ u => ∃ t, u = .int i t)) (hb : Pur prog w A env h0 b (fun _ u => ∃ t, u = .int j t)) (hm : IntMulOk i j) : Pur prog w A env h0 (.BinOp a .Mult b pos) (fun _ u => ∃ t, u = .int (i * j) t) := by
  refine ⟨fun s Q E k h => wpAny_BinOp (ha.run s _ E k fun h1 tk1 v1 k1 e1 => hb.run _ _ E (fun b o e => k1 b o (k b o e)) fun h2 tk2 v2 k2 e2 => ?_)⟩
  obtain ⟨t, rfl⟩ := e1
  obtain ⟨t', rfl⟩ := e2
  exact mul_int (h h2 _ _ (fun b o e => k2 b o (k1 b o e)) ⟨_, rfl⟩) hm
/-- a call of a lambda with one argument whose body is pure -/
theorem lam_key {s : Shared} {f c' : Addr} {qual : Str} {params : Arguments} {body : Expr} {scope : Scope} {cl : List (Str × Addr)} {pm ctv v : Value} {x : Str} {d : PyData}
    (ho : s.heap.get? f = some (kla_obj "<lambda>" qual params body scope cl pm c' ctv)) (hcd : s.heap.CodeRec (.ref c') qual) (hroom : A.depth < recursionLimit) (lim : s.heap.NoLimit)
    (hbind : bindArgs (kla_fn "<lambda>" qual params body scope cl pm (.ref c') ctv) ⟨[v], []⟩ = pure [(x, v)]) (hloc : scope.names.lookup x = some .local)
    (hco : scope.isCoroutine = false) (hgen : scope.isGenerator = false) (hk : scope.kind = .function) (hcell : ∀ y ∈ scope.names, y.2 ≠ .cell)
    (hbody : ∀ h₁ : Heap, (∀ b o, s.heap.get? b = some o → h₁.get? b = some o) → h₁.Ns s.heap.objs.size (fun y => [(x, v)].lookup y) →
      Pur prog w (A.deeper (envX qual scope s.heap.objs.size f (.ref c') cl)) (envX qual scope s.heap.objs.size f (.ref c') cl) h₁ body (fun h u => Reads h u d [])) :
    wpAny (model prog w) A (call (.ref f) [v]) (KeyPure d s) (fun _ _ => False) s := by
  refine wpAny_call (kla_callFunE hroom ho rfl hco hgen rfl hcd ?_)
  rw [hbind]
  refine wpAny_pure (wpAny_newFunctionEnv hcell (fun y hy => by rw [List.mem_singleton.mp hy]; exact hloc) (fun h₁ hns hsb => ⟨lim.fresh _ hsb, ?_⟩) hk)
  show codeAny _ _ (.expr body (envX qual scope s.heap.objs.size f (.ref c') cl)) _ _
  have hk₁ : ∀ b o, s.heap.get? b = some o → h₁.get? b = some o := fun b o e => hsb.extBut b o (Nat.ne_of_lt (Heap.lt_size e)) (Heap.get?_push_of_some _ e)
  refine kla_codeExpr ((hbody h₁ hk₁ hns).run _ _ _ (fun _ _ e => e) fun h' tk u k r => ?_)
  exact ⟨h', tk, rfl, fun b o e => k b o (hk₁ b o e), r⟩
end
end PySem.W
namespace L2
open PySem PySem.Spec PyProof.Rows LamX
section
variable {X : Cx} {pins : List (Addr × Obj)} {σ : L2.St} {H : Hp} {s : Shared}
/-- a captured name's cell -/
theorem cell_of {i : Nat} {x : Str} {v : V} (I : Inv X pins σ H s) (hN : X.N[i]? = some x) (hs : σ[i]? = some (some v)) (hk : X.env.kindOf x = some .cell) : ∃ u c, RelV v u ∧ X.env.cells.lookup x = some c ∧ s.heap.IsCell c (some u) := by
  obtain ⟨m, hn, hl⟩ := I.loc
  obtain ⟨u, r, l⟩ := hl i x v hN hs (.inr (.inl hk))
  rcases l with ⟨hk', _⟩ | ⟨_, c, hc, hcell⟩
  · rw [hk] at hk'; cases hk'
  · exact ⟨u, c, r, hc, hcell⟩
theorem eachInt_vals : ∀ {out : List Value} {od : List Nat}, PySem.W.EachIs PySem.W.IntIs out od → Vals (od.map fun (k : Nat) => V.int (k : Int)) out
  | _, _, .nil => .nil
  | _, _, .cons ⟨t, e⟩ r => .cons ⟨t, e⟩ (eachInt_vals r)
def tSortLam (T : List (Addr × Str)) (ta : TE) (KEY : L2.St → Hp → Nat → (Nat → PySem.PyData) → Prop) : TE := fun σ H Q => ta σ H fun x H1 => ∃ n : Nat, x = .int (n : Int) ∧ n ≤ 900 ∧ ∀ r, H1 r = none → Tabs T (upd H1 r (.rng 0 (n : Int))) ∧
  ∀ H2, ExtN (upd H1 r (.rng 0 (n : Int))) H2 → Tabs T H2 → ∃ k : Nat → PySem.PyData, KEY σ H2 n k ∧ PySem.W.AllAlike ((List.range n).map k) ∧ PySem.W.Sortable ((List.range n).map k) ∧ (∀ i, (k i).depth ≤ 50) ∧
    ∀ (q : Addr) (od : List Nat), H2 q = none → od.Perm (List.range n) → Q (.ref q) (upd H2 q (.lst (od.map fun (k : Nat) => V.int (k : Int))))
theorem pe_sortLam {T : List (Addr × Str)} {c P : Addr} {ea : Expr} {ta : TE} {params : Arguments} {body : Expr} {scope : Scope} {p pos p2 pos2 lpos kpos : Pos} {kx : Str} {KEY : L2.St → Hp → Nat → (Nat → PySem.PyData) → Prop}
    (hr2 : Room 2 X.A) (hg : Gl X "sorted") (hm : X.mg "sorted" = none) (hg2 : Gl X "range") (hm2 : X.mg "range" = none) (ha : PE X ea ta) (TB : TabB X.base X.mg c P) (hcode : X.env.code = .ref c) (hmT : (P, X.env.qual ++ "<lambda>") ∈ T) (hu : ∀ p ∈ T, p.1 = P → p.2 = X.env.qual ++ "<lambda>")
    (hdef : defaultsOf params X.env = ([], [])) (hfree : ∀ y ∈ scope.names, y.2 = .free → ∃ c, X.env.cells.lookup y.1 = some c)
    (hbind : ∀ cl pm c' ctv v, bindArgs (PySem.W.kla_fn "<lambda>" (X.env.qual ++ "<lambda>") params body scope cl pm (.ref c') ctv) ⟨[v], []⟩ = pure [(kx, v)])
    (hloc : scope.names.lookup kx = some .local) (hco : scope.isCoroutine = false) (hgen : scope.isGenerator = false) (hk : scope.kind = .function) (hcell : ∀ y ∈ scope.names, y.2 ≠ .cell)
    (hbody : ∀ (pins : List (Addr × Obj)) (σ : L2.St) (H : Hp) (s : Shared) (n : Nat) (k : Nat → PySem.PyData), Inv X pins σ H s → KEY σ H n k → ∀ i, i < n → ∀ (h₁ : Heap) (L f c' : Addr) (t : Tok) (A : Around), (∀ b o, s.heap.get? b = some o → h₁.get? b = some o) → h₁.Ns L (fun y => [(kx, Value.int (i : Nat) t)].lookup y) →
      PySem.W.Pur X.prog X.w A (PySem.W.envX (X.env.qual ++ "<lambda>") scope L f (.ref c') (cloFrom X.env.cells scope.names [])) h₁ body (fun h u => Reads h u (k i) []))
    (na : starEach [Expr.Call (.Name "range" p2) [ea] [] pos2] X.env = (false, eval (Expr.Call (.Name "range" p2) [ea] [] pos2) X.env) :: starEach [] X.env := by rfl) (na2 : starEach [ea] X.env = (false, eval ea X.env) :: starEach [] X.env := by rfl) :
    PE X (.Call (.Name "sorted" p) [.Call (.Name "range" p2) [ea] [] pos2] [⟨some "key", .Lambda params body scope lpos, kpos⟩] pos) (tSortLam T ta KEY) := by
  refine ⟨fun pins s σ H Q I h => ?_⟩
  refine wpAny_Call_Name_kw (ld_blt I hg hm boot_sorted ?_)
  refine PyProof.Rows.callWith_kw (args_cons (Call_ (ld_blt I hg2 hm2 boot_range (PyProof.Rows.callWith_type1 (one_arg ha I h (fun v s2 x H1 I1 r q => ?_) na2) na2))) na)
  obtain ⟨n, rfl, hn, q⟩ := q
  obtain ⟨t, rfl⟩ := r
  refine call_range_1 (args_nil ?_)
  have nr : H1 s2.heap.objs.size = none := I1.hok.fresh (Nat.le_refl _)
  have I2 : Inv X pins σ (upd H1 s2.heap.objs.size (.rng 0 (n : Int))) { s2 with heap := s2.heap.push { cls := .type "range", data := .fields #[.int 0 s2.toks, .int (n : Int) t, .int 1 (s2.toks + 1)] }, toks := s2.toks + 1 + 1 } :=
    I1.laid (fun b o e => Heap.get?_push_of_some _ e) (Nat.le_refl _) (show ObjOk X.prog X.w _ _ _ (.rng 0 (n : Int)) from ⟨_, _, _, Heap.get?_push_size _ rfl⟩)
  obtain ⟨hT, q⟩ := q _ nr
  show wpAny _ _ (evalAll ((do let v ← eval (.Lambda params body scope lpos) X.env; standAt pos; pure v) :: (backToKw pos (keywordEach [] X.env)).map (·.2))) _ _ _
  refine wpAny_evalAll_cons (wpAny_bind (lam_make2 I2 TB hcode hmT hu hT hdef hfree fun f c' pm ctv H2 s3 I3 eN T2 hf hfn hfr hcd => wpAny_bind (wpAny_standAt (wpAny_pure (wpAny_evalAll_nil ?_)))))
  obtain ⟨k, hK, hal, hsk, hdp, fin⟩ := q H2 eN T2
  have hrr : H2 s2.heap.objs.size = some (.rng 0 (n : Int)) := eN _ _ upd_same (fun ps z => by cases z)
  obtain ⟨t1, t2, t3, hro⟩ := I3.hok _ _ hrr
  have lim : s3.heap.NoLimit := I3.ok.mod.nolimit.keeps I3.bk
  have cr := NdefX.codeO_at I3.hok hcd
  show wpAny _ _ (call (.builtin "sorted") [.ref s2.heap.objs.size] [(Str.ofString "key", .ref f)]) _ _ _
  refine PySem.W.sorted_range_key (A := X.A) (s := s3) hr2.hd (show IsRange s3.heap _ 0 (n : Int) 1 t1 t2 t3 from hro) (by omega) k hal hsk (fun i _ => by have := hdp i; have := hr2.units; omega) (PyProof.Rows.ksk_s1 _ _) (fun _ => PyProof.Rows.ksk_l1 _ _) (fun _ => PyProof.Rows.ksk_t1 _ _)
    (fun x i ⟨tx, ex⟩ hi h₀ tk hk0 => ?_) (fun h1 out cc h' tk k1 k2 hD ho => ?_)
  · subst ex
    refine PySem.W.lam_key (s := { s3 with heap := h₀, toks := tk }) (hk0 _ _ hf) (cr.keeps hk0) (by have := hr2.dp; show X.A.depth < recursionLimit; omega) (lim.keeps hk0) (hbind _ _ _ _ _) hloc hco hgen hk hcell fun h₁ hk1 hns => ?_
    exact hbody pins σ H2 s3 n k I3 hK i (List.mem_range.mp hi) h₁ _ f c' tx _ (fun b o e => hk1 b o (hk0 b o e)) hns
  · have I4 : Inv X pins σ H2 { s3 with heap := h1 } := I3.kept (t' := s3.toks) k1
    have hl : out.length = n := by
      have := eachInt_vals ho
      have := this.length
      rw [List.length_map, List.length_mergeSort, List.length_range] at this
      exact this.symm
    have I5 := I4.laid (t' := tk) (o := .lst (((List.range n).mergeSort (PySem.W.dataLe false k)).map fun (k : Nat) => V.int (k : Int))) k2 (Nat.le_refl _)
      ⟨by rw [List.length_map, List.length_mergeSort, List.length_range, sizeLine_eq]; omega, out, cc, eachInt_vals ho, hD⟩
    exact ⟨.ref h1.objs.size, _, I5, rfl, fin _ _ (I4.hok.fresh (Nat.le_refl _)) (List.mergeSort_perm ..)⟩
end
end L2

set_option maxRecDepth 100000
set_option linter.all false
namespace PySem.W
open PySem PyProof.Rows PySem.Spec L2
theorem Pur.up {prog : Program} {w : World} {A : Around} {env : Env} {h0 : Heap} {a : Expr} {R R' : Heap → Value → Prop} (p : Pur prog w A env h0 a R) (i : ∀ h v, (∀ b o, h0.get? b = some o → h.get? b = some o) → R h v → R' h v) : Pur prog w A env h0 a R' :=
  ⟨fun s Q E hk h => p.run s Q E hk fun h' tk v k r => h h' tk v k (i _ _ (fun b o e => k b o (hk b o e)) r)⟩
end PySem.W
namespace L2
open PySem PySem.Spec PyProof.Rows LamX NdefX PySem.W
section
variable {X : Cx} {pins : List (Addr × Obj)} {σ : L2.St} {H : Hp} {s : Shared}
theorem pu_cellsub {scope : Scope} {qual x kx : Str} {j i : Nat} {b L f c' : Addr} {xs : List V} {y : V} {t : Tok} {A : Around} {h₁ : Heap} {p1 p2 p3 : Pos} (I : Inv X pins σ H s) (hN : X.N[j]? = some x) (hσ : σ[j]? = some (some (.ref b))) (hkc : X.env.kindOf x = some .cell)
    (hb : SqT X.K H b xs ∨ SqL X.K H b xs) (hi : xs[i]? = some y) (hz : i < 2 ^ 62) (hfree : ∀ y ∈ scope.names, y.2 = .free → ∃ c, X.env.cells.lookup y.1 = some c) (hx : (x, NameKind.free) ∈ scope.names) (hxl : scope.names.lookup x = some .free) (hkl : scope.names.lookup kx = some .local) (hk : scope.kind = .function)
    (up : ∀ b o, s.heap.get? b = some o → h₁.get? b = some o) (hns : h₁.Ns L (fun y => [(kx, Value.int (i : Nat) t)].lookup y))
    (hd : (x == ("__debug__" : Str)) = false := by decide) (hcd : (x == ("__classdict__" : Str)) = false := by decide) (hd2 : (kx == ("__debug__" : Str)) = false := by decide) :
    Pur X.prog X.w A (envX qual scope L f (.ref c') (cloFrom X.env.cells scope.names [])) h₁ (.Subscript (.Name x p1) (.Name kx p2) p3) (fun _ u => RelV y u) := by
  obtain ⟨u, c, r, hc, hcell⟩ := cell_of I hN hσ hkc
  obtain rfl : u = Value.ref b := r
  have e1 := clo_has hfree hx hc
  have P1 : Pur X.prog X.w A (envX qual scope L f (.ref c') (cloFrom X.env.cells scope.names [])) h₁ (.Name x p1) (fun _ u => u = .ref b) := pu_free hk hxl e1 (hcell.keeps up) hd hcd
  have P2 : Pur X.prog X.w A (envX qual scope L f (.ref c') (cloFrom X.env.cells scope.names [])) h₁ (.Name kx p2) (fun _ u => u = .int (i : Nat) t) := pu_local hk hkl hns (by show List.lookup kx [(kx, _)] = _; simp [List.lookup]) hd2
  rcases hb with hb | hb
  · obtain ⟨its, rv, pl, hz2⟩ := I.tuple hb
    obtain ⟨u, hu, ru⟩ := rv.get hi
    obtain ⟨o, ho, hc, n, hdd⟩ := pl
    exact (pu_subT P1 P2 ⟨o, up _ _ ho, hc, n, hdd⟩ (by simpa using hu) hz (fun _ _ => rfl)).imp fun h v e => by rw [e]; exact ru
  · obtain ⟨its, rv, pl, hz2⟩ := I.list hb
    obtain ⟨u, hu, ru⟩ := rv.get hi
    obtain ⟨o, ho, hc, n, hdd⟩ := pl.isList
    exact (pu_subL P1 P2 ⟨o, up _ _ ho, hc, n, hdd⟩ (by simpa using hu) hz (fun _ _ => rfl)).imp fun h v e => by rw [e]; exact ru
/-- a pair of ints as data -/
theorem reads_pair {t : Addr} {i j : Int} (I : Inv X pins σ H s) (e : H t = some (.tup [.int i, .int j])) : ∀ h : Heap, (∀ b o, s.heap.get? b = some o → h.get? b = some o) → Reads h (.ref t) (.tuple [.int i, .int j]) [] := by
  intro h up
  obtain ⟨its, rv, pl, hz⟩ := I.tuple (SqT.of e)
  obtain ⟨o, ho, hc, n, hd⟩ := pl
  refine .tuple (up _ _ ho) hc hd ?_
  cases rv with
  | cons r1 rr =>
    cases rr with
    | cons r2 rr =>
      cases rr
      obtain ⟨t1, rfl⟩ := r1
      obtain ⟨t2, rfl⟩ := r2
      exact .cons (.int _ _) (.cons (.int _ _) .nil)
end
end L2

set_option Elab.async false
set_option linter.all false
set_option maxRecDepth 100000
set_option maxHeartbeats 4000000
namespace My
open PySem L2
/-! ### lives, sizes, places -/
def Tups (H : Hp) (ts : List Addr) (ps : List (Int × Int)) : Prop := ts.length = ps.length ∧ ∀ (i : Nat) t p, ts[i]? = some t → ps[i]? = some p → H t = some (.tup [.int p.1, .int p.2])
theorem Tups.keep {H H' : Hp} {ts : List Addr} {ps : List (Int × Int)} (h : Tups H ts ps) (s : ∀ b xs, H b = some (.tup xs) → H' b = some (.tup xs)) : Tups H' ts ps := ⟨h.1, fun i t p a b => s _ _ (h.2 i t p a b)⟩
theorem Tups.same {H H' : Hp} {ts : List Addr} {ps : List (Int × Int)} (h : Tups H ts ps) (s : Same H H') : Tups H' ts ps := h.keep fun b xs e => s _ _ e
theorem Tups.nil {H : Hp} : Tups H [] [] := ⟨rfl, fun _ _ _ h _ => by simp at h⟩
theorem Tups.snoc {H : Hp} {ts : List Addr} {ps : List (Int × Int)} {t : Addr} {p : Int × Int} (h : Tups H ts ps) (ht : H t = some (.tup [.int p.1, .int p.2])) : Tups H (ts ++ [t]) (ps ++ [p]) := by
  refine ⟨by rw [List.length_append, List.length_append, h.1]; rfl, fun i u q a b => ?_⟩
  by_cases hi : i < ts.length
  · rw [List.getElem?_append_left hi] at a
    rw [List.getElem?_append_left (by rw [← h.1]; exact hi)] at b
    exact h.2 i u q a b
  · rw [List.getElem?_append_right (by omega)] at a
    rw [List.getElem?_append_right (by rw [← h.1]; omega), ← h.1] at b
    cases z : i - ts.length with
    | zero =>
      rw [z] at a b
      simp only [List.getElem?_cons_zero, Option.some.injEq] at a b
      subst a b
      exact ht
    | succ j =>
      rw [z] at a
      simp at a
def LvT (H : Hp) (a : Addr) (lv : List (Int × Int)) : Prop := ∃ ts : List Addr, H a = some (.tup (ts.map V.ref)) ∧ Tups H ts lv
theorem LvT.keep {H H' : Hp} {a : Addr} {lv : List (Int × Int)} (h : LvT H a lv) (s : ∀ b xs, H b = some (.tup xs) → H' b = some (.tup xs)) : LvT H' a lv := by
  obtain ⟨ts, h1, h2⟩ := h
  exact ⟨ts, s _ _ h1, h2.keep s⟩
theorem LvT.same {H H' : Hp} {a : Addr} {lv : List (Int × Int)} (h : LvT H a lv) (s : Same H H') : LvT H' a lv := h.keep fun b xs e => s _ _ e
/-- the i-th -/
theorem Tups.at {H : Hp} {ts : List Addr} {ps : List (Int × Int)} (h : Tups H ts ps) {i : Nat} (hi : i < ps.length) : ∃ t, ts[i]? = some t ∧ (ts.map V.ref)[i]? = some (.ref t) ∧ H t = some (.tup [.int (ps.getD i (0, 0)).1, .int (ps.getD i (0, 0)).2]) := by
  have h1 : ts[i]? = some (ts[i]'(by rw [h.1]; exact hi)) := List.getElem?_eq_getElem _
  have h2 : ps[i]? = some (ps.getD i (0, 0)) := by rw [List.getD_eq_getElem?_getD, List.getElem?_eq_getElem hi]; rfl
  exact ⟨_, h1, by rw [List.getElem?_map, h1]; rfl, h.2 i _ _ h1 h2⟩
theorem nat_at {xs : List Int} {i : Nat} (h : i < xs.length) : xs[i]? = some (xs.getD i 0) := by
  rw [List.getD_eq_getElem?_getD, List.getElem?_eq_getElem h]
  rfl
theorem vatD {xs : List Int} {i : Nat} (h : i < xs.length) : atI (xs.map V.int) (i : Int) = some (.int (xs.getD i 0)) := atI_nat (by rw [List.getElem?_map, nat_at h]; rfl)
theorem vat? {xs : List Int} {i : Nat} (h : i < xs.length) : (xs.map V.int)[i]? = some (.int (xs.getD i 0)) := by rw [List.getElem?_map, nat_at h]; rfl
def ovl (p q : Int × Int) : Bool := decide (p.1 ≤ q.2) && decide (q.1 ≤ p.2)
def alv (p : Int × Int) (t : Int) : Bool := decide (p.1 ≤ t) && decide (t ≤ p.2)
abbrev lvA (lv : List (Int × Int)) (i : Nat) : Int × Int := lv.getD i (0, 0)
abbrev ia (xs : List Int) (i : Nat) : Int := xs.getD i 0
def OkJ (lv : List (Int × Int)) (sz pl : List Int) (i j : Nat) : Prop := (ia pl i + ia sz i ≤ ia pl j ∨ ia pl j + ia sz j ≤ ia pl i) ∨ ovl (lvA lv i) (lvA lv j) = false
def OkI (lv : List (Int × Int)) (sz pl : List Int) (i : Nat) : Prop := 0 ≤ ia pl i ∧ ∀ j, j < i → OkJ lv sz pl i j
def OkP (lv : List (Int × Int)) (sz pl : List Int) : Prop := pl.length = lv.length ∧ ∀ i, i < pl.length → OkI lv sz pl i
def endsOf (sz pl : List Int) : List Int := List.zipWith (· + ·) pl sz
theorem endsOf_at {sz pl : List Int} {i : Nat} (h1 : i < pl.length) (h2 : i < sz.length) : (endsOf sz pl)[i]? = some (ia pl i + ia sz i) := by
  unfold endsOf
  rw [List.getElem?_zipWith, nat_at h1, nat_at h2]
theorem endsOf_len (sz pl : List Int) : (endsOf sz pl).length = min pl.length sz.length := List.length_zipWith
/-- the sum of the sizes that live at t, of the first n -/
def sumAt (lv : List (Int × Int)) (sz : List Int) (n : Nat) (t : Int) : List Int := (((List.range n).filter fun k => alv (lvA lv k) t).map fun k => ia sz k)
theorem filt1 (f : Nat → Bool) (n : Nat) (h : f n = true) : [n].filter f = [n] := by simp [h]
theorem filt0 (f : Nat → Bool) (n : Nat) (h : ¬ f n = true) : [n].filter f = [] := by simp [h]
theorem sumAt_succ (lv : List (Int × Int)) (sz : List Int) (n : Nat) (t : Int) : sumAt lv sz (n + 1) t = if alv (lvA lv n) t = true then sumAt lv sz n t ++ [ia sz n] else sumAt lv sz n t := by
  unfold sumAt
  rw [List.range_succ, List.filter_append, List.map_append]
  by_cases h : alv (lvA lv n) t = true
  · rw [if_pos h, filt1 _ n h]
    rfl
  · rw [if_neg h, filt0 _ n h, List.map_nil, List.append_nil]
theorem sumAt_len (lv : List (Int × Int)) (sz : List Int) (n : Nat) (t : Int) : (sumAt lv sz n t).length ≤ n := by
  unfold sumAt
  rw [List.length_map]
  exact Nat.le_trans (List.length_filter_le _ _) (by rw [List.length_range]; exact Nat.le_refl _)
def PeakP (lv : List (Int × Int)) (sz : List Int) (n : Nat) (b : Int) : Prop := (b = 0 ∨ ∃ j, j < n ∧ b = (sumAt lv sz lv.length (lvA lv j).1).sum) ∧ 0 ≤ b ∧ ∀ j, j < n → (sumAt lv sz lv.length (lvA lv j).1).sum ≤ b
section
variable {P : Program} {w : World} {K : PySem.W.Frag} {mg : Str → Option Value} {base : Heap}
structure TxtP (mg : Str → Option Value) extends TxtD mg where
  max : mg "max" = none
  min : mg "min" = none
  zip : mg "zip" = none
  range : mg "range" = none
  enum : mg "enumerate" = none
  sum : mg "sum" = none
  set : mg "set" = none
  tuple : mg "tuple" = none
  isi : mg "isinstance" = none
/-! ### the program's own defs -/
def spMeet : Sp := fun vs H Q _ => ∃ (a b : Addr) (p q : Int × Int), vs = [.ref a, .ref b] ∧ H a = some (.tup [.int p.1, .int p.2]) ∧ H b = some (.tup [.int q.1, .int q.2]) ∧ Q (.bl (ovl p q)) H
abbrev nM : List Str := ["one", "other"]
theorem scM : FnScope nM ["one", "other"] (defScope sMeet) := ⟨rfl, rfl, rfl, by decide +kernel, rfl, by decide +kernel, by decide +kernel⟩
theorem ok_meet {f : Addr} {fd : FuncData} (F : Fun K "meet" "meet" sMeet f fd) : FnOk P w K mg base CX0 1 f fd ["one", "other"] spMeet := by
  refine F.ok scM (fun vs H Q E h => ?_) (fun cdv A outer s H vs Q E hr h => ?_)
  · obtain ⟨a, b, p, q, rfl, _⟩ := h
    rfl
  · obtain ⟨a, b, p, q, rfl, ha, hb, hq⟩ := h
    refine ⟨_, (pss_one (ps_ret (pe_and (pe_cmpR op_le (pe_ix ix_tup (pv 0) pe_int (fun _ _ => rfl)) (pe_ix ix_tup (pv 1) pe_int (fun _ _ => rfl)) (nomark _)) (pe_one (pe_cmpR op_le (pe_ix ix_tup (pv 1) pe_int (fun _ _ => rfl)) (pe_ix ix_tup (pv 0) pe_int (fun _ _ => rfl)) (nomark _)))))), ?_⟩
    refine ⟨_, rfl, a, _, 0, _, rfl, rfl, SqT.of ha, rfl, _, rfl, b, _, 1, _, rfl, rfl, SqT.of hb, rfl, _, _, rfl, rfl, _, rfl, ite2 (fun e => ?_) (fun e => ?_)⟩
    · refine ⟨_, rfl, b, _, 0, _, rfl, rfl, SqT.of hb, rfl, _, rfl, a, _, 1, _, rfl, rfl, SqT.of ha, rfl, _, _, rfl, rfl, ?_⟩
      unfold ovl at hq
      rw [e, Bool.true_and] at hq
      exact hq
    · unfold ovl at hq
      rw [Bool.eq_false_iff.mpr e, Bool.false_and] at hq
      exact hq
def spWords (K : PySem.W.Frag) : Sp := fun vs H Q _ => ∃ (a b : Addr) (sz pl : List Int), vs = [.ref a, .ref b] ∧ H a = some (.tup (sz.map V.int)) ∧ H b = some (.tup (pl.map V.int)) ∧ pl.length ≤ 1000 ∧ ∀ H', Same H H' → Q (.int (maxI 0 (endsOf sz pl))) H'
abbrev nW : List Str := ["sizes", "places", "place", "size"]
theorem scW : FnScope nW ["sizes", "places"] (defScope sWords) := ⟨rfl, rfl, rfl, by decide +kernel, rfl, by decide +kernel, by decide +kernel⟩
theorem ok_words {f : Addr} {fd : FuncData} (F : Fun K "_words_of" "_words_of" sWords f fd) (T : TxtP mg) : FnOk P w K mg base CX0 1 f fd ["sizes", "places"] (spWords K) := by
  refine F.ok scW (fun vs H Q E h => ?_) (fun cdv A outer s H vs Q E hr h => ?_)
  · obtain ⟨a, b, sz, pl, rfl, _⟩ := h
    rfl
  · obtain ⟨a, b, sz, pl, rfl, ha, hb, hl, q⟩ := h
    refine ⟨_, (pss_one (ps_ret (pe_callBK (cr_maxDf rfl hr.units) (by rfl) T.max (by decide +kernel) (pa_cons (pe_lc (own := [("place", 2), ("size", 3)]) (g := (gTup K 2 (gCons (gName 2) (gCons (gName 3) gNil)))) (tt := tYes) (te := (tOp (rI0 fun i j => .int (i + j)) (tVar 2) (tVar 3))) rfl scW.nd (RZ.pi_zipA (by rfl) T.zip (pa_cons (pv 1) (pa_cons (pv 0) pa_nil))) (blkOk_by (N := nW) (sc := defScope sWords) (by decide +kernel)) (fun _ _ _ _ _ => (pg_tup rfl (pgs_cons (pg_name (i := 2) scW.nd rfl (.inl rfl) (hf := Or.inr rfl)) (pgs_cons (pg_name (i := 3) scW.nd rfl (.inl rfl) (hf := Or.inr rfl)) pgs_nil)))) (fun _ _ _ _ _ => pts_nil) (fun _ _ _ _ _ => (pe_op op_add (pv 2) (pv 3)))) pa_nil) (pk_cons pe_int pk_nil)))), ?_⟩
    refine ⟨_, rfl, _, rfl, b, a, pl.map V.int, sz.map V.int, rfl, .inr ⟨SqT.of hb, SqT.of ha, fun D nD => lc_it (walk_zipT rfl) (fun i H' => Same H H' ∧ H' D = some (.lst (((endsOf sz pl).take i).map V.int))) ⟨same_upd nD, upd_same⟩ (fun i H' _ h => ⟨SqT.of (h.1 _ _ hb), SqT.of (h.1 _ _ ha)⟩) ?_ ?_⟩⟩
    · rintro i x H' H'' hi ⟨sm, hD⟩ ⟨T', x', y', rfl, nT, rfl, e1, e2⟩
      rw [List.length_map, List.length_map] at hi
      have i1 : i < pl.length := by omega
      have i2 : i < sz.length := by omega
      dsimp only at e1 e2
      rw [vat? i1] at e1
      rw [vat? i2] at e2
      cases e1
      cases e2
      refine ⟨T', _, rfl, SqT.of upd_same, rfl, _, _, rfl, _, _, rfl, rfl, rfl, ?_⟩
      unfold tYes
      dsimp only
      rw [if_pos rfl]
      have s2 := same_upd (o := .tup [.int (pl.getD i 0), .int (sz.getD i 0)]) nT
      have hDT : D ≠ T' := ne_of_none hD nT
      refine ⟨_, rfl, _, rfl, _, _, rfl, rfl, _, s2 _ _ hD, ?_, ?_, ?_⟩
      · rw [List.length_map, List.length_take, endsOf_len]
        exact small1000 (by omega)
      · exact fun c o e => by rw [upd_ne (ne_of_none e nD)]; exact s2 _ _ (sm _ _ e)
      · rw [upd_same, take_snoc (endsOf_at i1 i2), List.map_append]
        rfl
    · rintro H' ⟨sm, hD⟩
      rw [show min (pl.map V.int).length (sz.map V.int).length = (endsOf sz pl).length by rw [List.length_map, List.length_map, endsOf_len], List.take_length] at hD
      exact ⟨D, _, _, rfl, rfl, SqL.of hD, q _ sm⟩
end
theorem PeakP.step {lv : List (Int × Int)} {sz : List Int} {n : Nat} {b : Int} (h : PeakP lv sz n b) : PeakP lv sz (n + 1) (if (sumAt lv sz lv.length (lvA lv n).1).sum > b then (sumAt lv sz lv.length (lvA lv n).1).sum else b) := by
  obtain ⟨h1, h2, h3⟩ := h
  generalize hs : (sumAt lv sz lv.length (lvA lv n).1).sum = s
  split
  · rename_i h
    refine ⟨.inr ⟨n, Nat.lt_succ_self _, hs.symm⟩, by omega, fun j hj => ?_⟩
    by_cases e : j = n
    · subst e
      rw [hs]
      exact Int.le_refl _
    · have := h3 j (by omega)
      omega
  · rename_i h
    refine ⟨h1.imp id fun ⟨j, hj, e⟩ => ⟨j, by omega, e⟩, h2, fun j hj => ?_⟩
    by_cases e : j = n
    · subst e
      rw [hs]
      omega
    · exact h3 j (by omega)
theorem alv_iff {p : Int × Int} {t : Int} : alv p t = true ↔ p.1 ≤ t ∧ t ≤ p.2 := by
  unfold alv
  rw [Bool.and_eq_true, decide_eq_true_eq, decide_eq_true_eq]
theorem ovl_iff {p q : Int × Int} : ovl p q = false ↔ ¬ (p.1 ≤ q.2 ∧ q.1 ≤ p.2) := by
  unfold ovl
  rw [← Bool.decide_and, decide_eq_false_iff_not]
section
variable {P : Program} {w : World} {K : PySem.W.Frag} {mg : Str → Option Value} {base : Heap}
def spPeak (K : PySem.W.Frag) : Sp := fun vs H Q _ => ∃ (a b : Addr) (lv : List (Int × Int)) (sz : List Int), vs = [.ref a, .ref b] ∧ LvT H a lv ∧ H b = some (.tup (sz.map V.int)) ∧ sz.length = lv.length ∧ lv.length ≤ 900 ∧ ∀ H' m, Same H H' → PeakP lv sz lv.length m → Q (.int m) H'
abbrev nP : List Str := ["all_lives", "sizes", "best", "begin", "_", "living", "size", "first", "last"]
theorem scP : FnScope nP ["all_lives", "sizes"] (defScope sPeak) := ⟨rfl, rfl, rfl, by decide +kernel, rfl, by decide +kernel, by decide +kernel⟩
theorem ok_peak {f : Addr} {fd : FuncData} (F : Fun K "peak_of" "peak_of" sPeak f fd) (T : TxtP mg) : FnOk P w K mg base CX0 1 f fd ["all_lives", "sizes"] (spPeak K) := by
  refine F.ok scP (fun vs H Q E h => ?_) (fun cdv A outer s H vs Q E hr h => ?_)
  · obtain ⟨a, b, lv, sz, rfl, _⟩ := h
    rfl
  · obtain ⟨a, b, lv, sz, rfl, ⟨ts, ha, hx⟩, hb, hls, hlv, q⟩ := h
    refine ⟨_, (pss_cons (ps_set (i := 2) scP.nd rfl (.inl rfl) pe_int)
      (pss_cons (ps_for PassesOwn.never rfl (pi_tup (pv 0)) (pg_tup rfl (pgs_cons (pg_name (i := 3) scP.nd rfl (.inr rfl)) (pgs_cons (pg_name (i := 4) scP.nd rfl (.inl rfl)) pgs_nil))) (pss_cons (ps_setLc (i := 5) (own := [("size", 6), ("first", 7), ("last", 8)]) (g := (gTup K 2 (gCons (gTup K 2 (gCons (gName 7) (gCons (gName 8) gNil))) (gCons (gName 6) gNil)))) (tt := (tTest (tChain (rI0 fun i j => .bl (decide (i ≤ j))) (rI0 fun i j => .bl (decide (i ≤ j))) (tVar 7) (tVar 3) (tVar 8)))) (te := (tVar 6)) (by rfl) scP.nd rfl rfl (sw_true rfl rfl rfl (by decide +kernel)) (RZ.pi_zipA (by rfl) T.zip (pa_cons (pv 0) (pa_cons (pv 1) pa_nil))) (blkOk_by (N := nP) (sc := defScope sPeak) (by decide +kernel)) (fun _ _ _ _ _ => (pg_tup rfl (pgs_cons (pg_tup rfl (pgs_cons (pg_name (i := 7) scP.nd rfl (.inl rfl) (hf := Or.inr rfl)) (pgs_cons (pg_name (i := 8) scP.nd rfl (.inl rfl) (hf := Or.inr rfl)) pgs_nil))) (pgs_cons (pg_name (i := 6) scP.nd rfl (.inl rfl) (hf := Or.inr rfl)) pgs_nil)))) (fun _ _ _ _ _ => pts_one (pt_chain op_le op_le (pv 7) (pv 3) (pv 8))) (fun _ _ _ _ _ => (pv 6)))
      (pss_one (ps_set (i := 2) scP.nd rfl (.inl rfl) (pe_callB (call_max2 rfl) (by rfl) T.max (by decide +kernel) (pa_cons (pv 2) (pa_cons (pe_callB (cr_sum rfl) (by rfl) T.sum (by decide +kernel) (pa_cons (pv 5) pa_nil)) pa_nil)))))))
      (pss_one (ps_ret (pv 2))))), ?_⟩
    have htl : (ts.map V.ref).length = lv.length := by rw [List.length_map, hx.1]
    refine ⟨_, rfl, a, rfl, ⟨_, SqT.of ha⟩, for_tup (K := K) (a := a) (xs := ts.map V.ref) (fun i σ H' => ∃ (v3 v4 v5 : Option V) (m : Int), σ = [some (.ref a), some (.ref b), some (.int m), v3, v4, v5, none, none, none] ∧ Same H H' ∧ PeakP lv sz i m)
      ⟨none, none, none, 0, rfl, Same.refl H, .inl rfl, Int.le_refl _, fun j h => absurd h (Nat.not_lt_zero _)⟩ (fun i σ H' _ ⟨_, _, _, _, _, sm, _⟩ => SqT.of (sm _ _ ha)) ?_ ?_⟩
    · rintro i x σ H' hi ⟨v3, v4, v5, m, rfl, sm, hp⟩
      have hil : i < lv.length := by
        have := (List.getElem?_eq_some_iff.mp hi).1
        omega
      obtain ⟨t, _, t2, t3⟩ := (hx.same sm).at hil
      rw [t2] at hi
      cases hi
      refine ⟨t, _, rfl, SqT.of t3, rfl, _, _, rfl, _, _, rfl, rfl, ?_⟩
      have ha' := sm _ _ ha
      have hb' := sm _ _ hb
      refine ⟨_, rfl, _, rfl, a, b, ts.map V.ref, sz.map V.int, rfl, .inr ⟨SqT.of ha', SqT.of hb', fun D nD => lc_it (walk_zipT rfl) (fun j H3 => Same H' H3 ∧ H3 D = some (.lst ((sumAt lv sz j (lvA lv i).1).map V.int))) ⟨same_upd nD, upd_same⟩ (fun j H' _ h => ⟨SqT.of (h.1 _ _ ha'), SqT.of (h.1 _ _ hb')⟩) ?_ ?_⟩⟩
      · rintro j x H3 H4 hj ⟨sm3, hD⟩ ⟨T', x', y', rfl, nT, rfl, e1, e2⟩
        rw [htl, List.length_map] at hj
        have j1 : j < lv.length := by omega
        have j2 : j < sz.length := by omega
        obtain ⟨u, _, u2, u3⟩ := (hx.same (sm.trans sm3)).at j1
        dsimp only at e1 e2
        rw [u2] at e1
        rw [vat? j2] at e2
        cases e1
        cases e2
        have s2 := same_upd (o := .tup [.ref u, .int (sz.getD j 0)]) nT
        have hsl := sumAt_len lv sz j (lvA lv i).1
        have hsz : ((sumAt lv sz j (lvA lv i).1).map V.int).length < sizeLine := by
          rw [List.length_map]
          exact small1000 (by omega)
        have fin : Same H' (upd (upd H3 T' (.tup [.ref u, .int (sz.getD j 0)])) D (.lst ((sumAt lv sz j (lvA lv i).1).map V.int ++ [.int (ia sz j)]))) := fun c o e => by rw [upd_ne (ne_of_none e nD)]; exact s2 _ _ (sm3 _ _ e)
        have hD2 := s2 _ _ hD
        refine ⟨T', _, rfl, SqT.of upd_same, rfl, _, _, rfl, u, _, rfl, SqT.of (s2 _ _ u3), rfl, _, _, rfl, _, _, rfl, rfl, _, _, rfl, rfl, rfl, ?_⟩
        refine ⟨_, rfl, _, rfl, _, _, rfl, rfl, _, rfl, ite2 (fun e => ⟨_, rfl, _, _, rfl, rfl, _, rfl, ite2 (fun e' => ?_) (fun e' => ?_)⟩) (fun e => ⟨_, rfl, iteF ?_⟩)⟩
        · have al : alv (lvA lv j) (lvA lv i).1 = true := alv_iff.mpr ⟨of_decide_eq_true e, of_decide_eq_true e'⟩
          refine ⟨_, rfl, _, hD2, hsz, fin, ?_⟩
          rw [upd_same, sumAt_succ, if_pos al, List.map_append]
          rfl
        · have al : ¬ alv (lvA lv j) (lvA lv i).1 = true := fun z => e' (decide_eq_true (alv_iff.mp z).2)
          refine ⟨sm3.trans s2, ?_⟩
          rw [sumAt_succ, if_neg al]
          exact hD2
        · have al : ¬ alv (lvA lv j) (lvA lv i).1 = true := fun z => e (decide_eq_true (alv_iff.mp z).1)
          refine ⟨sm3.trans s2, ?_⟩
          rw [sumAt_succ, if_neg al]
          exact hD2
      · rintro H3 ⟨sm3, hD⟩
        rw [show min (ts.map V.ref).length (sz.map V.int).length = lv.length by rw [htl, List.length_map]; omega] at hD
        exact ⟨_, rfl, _, rfl, D, _, rfl, SqL.of hD, _, _, rfl, _, _, _, _, rfl, sm.trans sm3, hp.step⟩
    · rintro σ H' ⟨v3, v4, v5, m, rfl, sm, hp⟩
      rw [htl] at hp
      exact ⟨_, rfl, q _ _ sm hp⟩
end

section
variable {P : Program} {w : World} {K : PySem.W.Frag} {mg : Str → Option Value} {base : Heap}
/-- a for over a list or a tuple -/
def iSeq (K : PySem.W.Frag) (tl : TE) : TI := fun σ H R => tl σ H fun x H1 => ∃ (a : Addr) (xs : List V) (G : Hp → Prop), x = .ref a ∧ ((SqL K H1 a xs ∧ ∀ H', G H' → SqL K H' a xs) ∨ (SqT K H1 a xs ∧ ∀ H', G H' → SqT K H' a xs)) ∧ ∀ J, Walk J xs.length G (YAt xs) → R J H1
theorem pi_seq {X : Cx} {tg l : Expr} {tl : TE} (hl : PE X l tl) : PI X tg l (iSeq X.K tl) := by
  refine ⟨fun pins s σ H R I h => ?_⟩
  refine thn (hl.run pins s σ H _ I h) fun v s1 ⟨x, H1, I1, r1, q1⟩ => ?_
  obtain ⟨a, xs, G, e, c, q⟩ := q1
  subst e
  cases r1
  rcases c with ⟨hq, hG⟩ | ⟨hq, hG⟩
  · obtain ⟨its, rv, p, hz⟩ := I1.list hq
    refine wpAny_pyIter_list p.isList ?_
    refine ⟨s1.heap.objs.size, [s1.heap.objs.size], _, _, H1, rfl, I1.kept (t' := s1.toks) fun b o e => Heap.get?_push_of_some _ e, turn_list a _, ⟨_, Heap.get?_push_size _ rfl, rfl, rfl⟩, fun b hb => ?_, q _ ((walk_list (xs := xs)).mono hG fun _ _ _ _ _ _ y => y)⟩
    have e : b = s1.heap.objs.size := by simpa using hb
    subst e
    exact I1.fpOk (Nat.le_refl _) (I1.hok.fresh (Nat.le_refl _))
  · obtain ⟨its, rv, p, hz⟩ := I1.tuple hq
    refine wpAny_pyIter_tuple (show s1.heap.IsTuple a its.toArray from p) ?_
    refine ⟨s1.heap.objs.size, [s1.heap.objs.size], _, _, H1, rfl, I1.kept (t' := s1.toks) fun b o e => Heap.get?_push_of_some _ e, turn_tuple a _, ⟨_, Heap.get?_push_size _ rfl, rfl, rfl⟩, fun b hb => ?_, q _ ((walk_tup (xs := xs)).mono hG fun _ _ _ _ _ _ y => y)⟩
    have e : b = s1.heap.objs.size := by simpa using hb
    subst e
    exact I1.fpOk (Nat.le_refl _) (I1.hok.fresh (Nat.le_refl _))
/-! ### the better of two, the first gap -/
def spBetter (K : PySem.W.Frag) : Sp := fun vs H Q _ => ∃ (a b c : Addr) (sz pl ql : List Int), vs = [.ref a, .ref b, .ref c] ∧ H a = some (.tup (sz.map V.int)) ∧ H b = some (.tup (pl.map V.int)) ∧ H c = some (.tup (ql.map V.int)) ∧ pl.length ≤ 1000 ∧ ql.length ≤ 1000 ∧
  ∀ H', Same H H' → (maxI 0 (endsOf sz ql) < maxI 0 (endsOf sz pl) → Q (.ref c) H') ∧ (¬ maxI 0 (endsOf sz ql) < maxI 0 (endsOf sz pl) → Q (.ref b) H')
abbrev nBe : List Str := ["sizes", "one", "other"]
theorem scBe : FnScope nBe ["sizes", "one", "other"] (defScope sBetter) := ⟨rfl, rfl, rfl, by decide +kernel, rfl, by decide +kernel, by decide +kernel⟩
theorem ok_better {f : Addr} {fd : FuncData} (F : Fun K "_better" "_better" sBetter f fd) (cW : Calls P w K mg base CX0 1 "_words_of" ["sizes", "places"] (spWords K)) : FnOk P w K mg base CX0 2 f fd ["sizes", "one", "other"] (spBetter K) := by
  obtain ⟨fW, dW, GW, kW, bW, gW⟩ := cW.ex
  refine F.ok scBe (fun vs H Q E h => ?_) (fun cdv A outer s H vs Q E hr1 h => ?_)
  · obtain ⟨a, b, c, sz, pl, ql, rfl, _⟩ := h
    rfl
  · obtain ⟨a, b, c, sz, pl, ql, rfl, ha, hb, hc, hl1, hl2, q⟩ := h
    refine ⟨_, (pss_one (ps_ret (pe_ifExp (pt_cmpR op_lt (pe_call GW hr1 (by rfl) gW kW bW .nil pass0 (pa_cons (pv 0) (pa_cons (pv 2) pa_nil))) (pe_call GW hr1 (by rfl) gW kW bW .nil pass0 (pa_cons (pv 0) (pa_cons (pv 1) pa_nil))) (nomark _)) (pv 2) (pv 1)))), ?_⟩
    refine ⟨_, rfl, _, rfl, a, c, sz, ql, rfl, ha, hc, hl2, fun H1 s1 => ?_⟩
    refine ⟨_, rfl, _, rfl, a, b, sz, pl, rfl, s1 _ _ ha, s1 _ _ hb, hl1, fun H2 s2 => ?_⟩
    refine ⟨_, _, rfl, rfl, _, rfl, ite2 (fun e => ?_) (fun e => ?_)⟩
    · exact ⟨_, rfl, (q H2 (s1.trans s2)).1 (of_decide_eq_true e)⟩
    · exact ⟨_, rfl, (q H2 (s1.trans s2)).2 fun z => e (decide_eq_true z)⟩
def gapF (size : Int) : List (Int × Int) → Int → Int
  | [], a => a
  | p :: r, a => if a + size ≤ p.1 then a else gapF size r (max a (p.1 + p.2))
theorem gapF_nil (z a : Int) : gapF z [] a = a := rfl
theorem gapF_cons (z a : Int) (p : Int × Int) (r : List (Int × Int)) : gapF z (p :: r) a = if a + z ≤ p.1 then a else gapF z r (max a (p.1 + p.2)) := rfl
def spGap (K : PySem.W.Frag) : Sp := fun vs H Q _ => ∃ (a : Addr) (ts : List Addr) (ps : List (Int × Int)) (z : Int), vs = [.ref a, .int z] ∧ H a = some (.lst (ts.map V.ref)) ∧ Tups H ts ps ∧ Q (.int (gapF z ps 0)) H
abbrev nGa : List Str := ["taken", "size", "address", "begin", "many"]
theorem scGa : FnScope nGa ["taken", "size"] (defScope sGap) := ⟨rfl, rfl, rfl, by decide +kernel, rfl, by decide +kernel, by decide +kernel⟩
theorem ok_gap {f : Addr} {fd : FuncData} (F : Fun K "_first_gap" "_first_gap" sGap f fd) (T : TxtP mg) : FnOk P w K mg base CX0 1 f fd ["taken", "size"] (spGap K) := by
  refine F.ok scGa (fun vs H Q E h => ?_) (fun cdv A outer s H vs Q E hr h => ?_)
  · obtain ⟨a, ts, ps, z, rfl, _⟩ := h
    rfl
  · obtain ⟨a, ts, ps, z, rfl, ha, hx, q⟩ := h
    refine ⟨_, (pss_cons (ps_set (i := 2) scGa.nd rfl (.inl rfl) pe_int)
      (pss_cons (ps_for PassesOwn.never rfl (pi_list (pv 0)) (pg_tup rfl (pgs_cons (pg_name (i := 3) scGa.nd rfl (.inl rfl)) (pgs_cons (pg_name (i := 4) scGa.nd rfl (.inl rfl)) pgs_nil))) (pss_cons (ps_if (pt_cmpR op_le (pe_op op_add (pv 2) (pv 1)) (pv 3) (nomark _)) (pss_one (ps_ret (pv 2))) pss_nil)
      (pss_one (ps_set (i := 2) scGa.nd rfl (.inl rfl) (pe_callB (call_max2 rfl) (by rfl) T.max (by decide +kernel) (pa_cons (pv 2) (pa_cons (pe_op op_add (pv 3) (pv 4)) pa_nil)))))))
      (pss_one (ps_ret (pv 2))))), ?_⟩
    have htl : (ts.map V.ref).length = ps.length := by rw [List.length_map, hx.1]
    refine ⟨_, rfl, a, rfl, ⟨_, SqL.of ha⟩, for_it walk_list (fun i σ H' => ∃ (v3 v4 : Option V) (x : Int), σ = [some (.ref a), some (.int z), some (.int x), v3, v4] ∧ H' = H ∧ gapF z ps 0 = gapF z (ps.drop i) x)
      ⟨none, none, 0, rfl, rfl, rfl⟩ (fun i σ H' _ ⟨_, _, _, _, e, _⟩ => by rw [e]; exact SqL.of ha) ?_ ?_⟩
    · rintro i x σ H' H'' hi ⟨v3, v4, x0, rfl, rfl, hg⟩ ⟨rfl, hx1⟩
      have hil : i < ps.length := by rw [htl] at hi; exact hi
      obtain ⟨t, _, t2, t3⟩ := hx.at hil
      rw [t2] at hx1
      cases hx1
      have ed : ps.drop i = ps.getD i (0, 0) :: ps.drop (i + 1) := by
        rw [List.drop_eq_getElem_cons hil]
        simp [hil]
      rw [ed, gapF_cons] at hg
      refine ⟨t, _, rfl, SqT.of t3, rfl, _, _, rfl, _, _, rfl, rfl, ?_⟩
      refine ⟨_, rfl, _, rfl, _, _, rfl, rfl, _, rfl, _, _, rfl, rfl, _, rfl, ite2 (fun e => ?_) (fun e => ?_)⟩
      · rw [if_pos (of_decide_eq_true e)] at hg
        rw [hg] at q
        exact ⟨_, rfl, q⟩
      · rw [if_neg (fun y => e (decide_eq_true y))] at hg
        refine ⟨_, rfl, _, rfl, _, rfl, _, _, rfl, rfl, _, _, rfl, _, _, _, rfl, rfl, ?_⟩
        rw [hg]
        congr 1
        split <;> omega
    · rintro σ H' ⟨v3, v4, x0, rfl, rfl, hg⟩
      rw [htl, List.drop_length, gapF_nil] at hg
      rw [hg] at q
      exact ⟨_, rfl, q⟩
end

/-! ### first fit -/
def StepOk (lv : List (Int × Int)) (sz : List Int) (pr : List Nat) (pl : List Int) (k : Nat) : Prop := (ia pl k = 0 ∨ ∃ j ∈ pr, ovl (lvA lv k) (lvA lv j) = true ∧ ia pl k = ia pl j + ia sz j) ∧
  ∀ j ∈ pr, ovl (lvA lv k) (lvA lv j) = true → ia pl j + ia sz j ≤ ia pl k ∨ ia pl k + ia sz k ≤ ia pl j
def Stk (lv : List (Int × Int)) (sz : List Int) (od : List Nat) (pl : List Int) : Prop := ∀ i k, od[i]? = some k → StepOk lv sz (od.take i) pl k
theorem gapF_ok (z : Int) : ∀ (qs : List (Int × Int)) (a : Int), qs.Pairwise (fun p q => p.1 ≤ q.1) → (gapF z qs a = a ∨ ∃ p ∈ qs, gapF z qs a = p.1 + p.2) ∧ a ≤ gapF z qs a ∧ ∀ p ∈ qs, p.1 + p.2 ≤ gapF z qs a ∨ gapF z qs a + z ≤ p.1
  | [], a, _ => ⟨.inl rfl, Int.le_refl _, fun p h => absurd h (by simp)⟩
  | p :: r, a, h => by
    obtain ⟨h1, h2⟩ := List.pairwise_cons.mp h
    rw [gapF_cons]
    split
    · rename_i e
      refine ⟨.inl rfl, Int.le_refl _, fun q hq => ?_⟩
      rcases List.mem_cons.mp hq with rfl | hq
      · exact .inr e
      · have := h1 q hq
        exact .inr (by omega)
    · obtain ⟨g1, g2, g3⟩ := gapF_ok z r (max a (p.1 + p.2)) h2
      refine ⟨?_, by omega, fun q hq => ?_⟩
      · rcases g1 with g1 | ⟨q, hq, g1⟩
        · rw [g1]
          by_cases m : a ≤ p.1 + p.2
          · exact .inr ⟨p, List.mem_cons_self, by omega⟩
          · exact .inl (by omega)
        · exact .inr ⟨q, List.mem_cons_of_mem _ hq, g1⟩
      · rcases List.mem_cons.mp hq with rfl | hq
        · exact .inl (by omega)
        · exact g3 q hq
theorem ia_set_ne {pl : List Int} {k j : Nat} {g : Int} (h : k ≠ j) : ia (pl.set k g) j = ia pl j := by
  unfold ia
  simp [List.getD_eq_getElem?_getD, List.getElem?_set_ne h]
theorem ia_set_self {pl : List Int} {k : Nat} {g : Int} (h : k < pl.length) : ia (pl.set k g) k = g := by
  unfold ia
  simp [List.getD_eq_getElem?_getD, h]
theorem Stk.snoc {lv : List (Int × Int)} {sz : List Int} {pr : List Nat} {pl : List Int} {k : Nat} {g : Int} (h : Stk lv sz pr pl) (hk : k ∉ pr) (hl : k < pl.length)
    (h1 : g = 0 ∨ ∃ j ∈ pr, ovl (lvA lv k) (lvA lv j) = true ∧ g = ia pl j + ia sz j) (h2 : ∀ j ∈ pr, ovl (lvA lv k) (lvA lv j) = true → ia pl j + ia sz j ≤ g ∨ g + ia sz k ≤ ia pl j) :
    Stk lv sz (pr ++ [k]) (pl.set k g) := by
  have ne : ∀ j ∈ pr, k ≠ j := fun j hj e => hk (by rw [e]; exact hj)
  intro i m hm
  by_cases hi : i < pr.length
  · rw [List.getElem?_append_left hi] at hm
    rw [List.take_append_of_le_length (Nat.le_of_lt hi)]
    obtain ⟨a1, a2⟩ := h i m hm
    have hmm : m ∈ pr := List.mem_of_getElem? hm
    have sub : ∀ j ∈ pr.take i, j ∈ pr := fun j hj => List.mem_of_mem_take hj
    unfold StepOk
    rw [ia_set_ne (ne m hmm)]
    refine ⟨a1.imp id fun ⟨j, hj, b1, b2⟩ => ⟨j, hj, b1, by rw [ia_set_ne (ne j (sub j hj))]; exact b2⟩, fun j hj b => by rw [ia_set_ne (ne j (sub j hj))]; exact a2 j hj b⟩
  · have e : i = pr.length := by
      have := (List.getElem?_eq_some_iff.mp hm).1
      rw [List.length_append, List.length_singleton] at this
      omega
    subst e
    rw [List.getElem?_append_right (Nat.le_refl _), Nat.sub_self] at hm
    simp only [List.getElem?_cons_zero, Option.some.injEq] at hm
    subst hm
    rw [List.take_left']
    · unfold StepOk
      rw [ia_set_self hl]
      refine ⟨h1.imp id fun ⟨j, hj, b1, b2⟩ => ⟨j, hj, b1, by rw [ia_set_ne (ne j hj)]; exact b2⟩, fun j hj b => by rw [ia_set_ne (ne j hj)]; exact h2 j hj b⟩
    · rfl
/-- the taken ones, of the first -/
def takenF (lv : List (Int × Int)) (sz pl : List Int) (k : Nat) (pr : List Nat) : List (Int × Int) := (pr.filter fun j => ovl (lvA lv k) (lvA lv j)).map fun j => (ia pl j, ia sz j)
theorem takenF_snoc (lv : List (Int × Int)) (sz pl : List Int) (k : Nat) (pr : List Nat) (j : Nat) : takenF lv sz pl k (pr ++ [j]) = if ovl (lvA lv k) (lvA lv j) = true then takenF lv sz pl k pr ++ [(ia pl j, ia sz j)] else takenF lv sz pl k pr := by
  unfold takenF
  rw [List.filter_append, List.map_append]
  by_cases h : ovl (lvA lv k) (lvA lv j) = true
  · rw [if_pos h, filt1 (fun j => ovl (lvA lv k) (lvA lv j)) j h]
    rfl
  · rw [if_neg h, filt0 (fun j => ovl (lvA lv k) (lvA lv j)) j h, List.map_nil, List.append_nil]
theorem takenF_len (lv : List (Int × Int)) (sz pl : List Int) (k : Nat) (pr : List Nat) : (takenF lv sz pl k pr).length ≤ pr.length := by
  unfold takenF
  rw [List.length_map]
  exact List.length_filter_le _ _
theorem mem_takenF {lv : List (Int × Int)} {sz pl : List Int} {k : Nat} {pr : List Nat} {p : Int × Int} : p ∈ takenF lv sz pl k pr ↔ ∃ j ∈ pr, ovl (lvA lv k) (lvA lv j) = true ∧ p = (ia pl j, ia sz j) := by
  unfold takenF
  rw [List.mem_map]
  constructor
  · rintro ⟨j, hj, rfl⟩
    obtain ⟨h1, h2⟩ := List.mem_filter.mp hj
    exact ⟨j, h1, h2, rfl⟩
  · rintro ⟨j, h1, h2, rfl⟩
    exact ⟨j, List.mem_filter.mpr ⟨h1, h2⟩, rfl⟩
/-- the pair at a ref -/
def kAt (H : Hp) (v : V) : Int × Int := match v with
  | .ref t => match H t with
    | some (.tup [.int i, .int j]) => (i, j)
    | _ => (0, 0)
  | _ => (0, 0)
theorem kAt_of {H : Hp} {t : Addr} {i j : Int} (h : H t = some (.tup [.int i, .int j])) : kAt H (.ref t) = (i, j) := by
  unfold kAt
  simp only [h]
theorem Tups.kAt {H : Hp} {ts : List Addr} {ps : List (Int × Int)} (h : Tups H ts ps) : (ts.map V.ref).map (My.kAt H) = ps := by
  apply List.ext_getElem?
  intro i
  by_cases hi : i < ps.length
  · obtain ⟨t, h1, h2, h3⟩ := h.at hi
    rw [List.getElem?_map, h2]
    show some (My.kAt H (.ref t)) = _
    rw [kAt_of h3, List.getD_eq_getElem?_getD, List.getElem?_eq_getElem hi]
    rfl
  · rw [List.getElem?_eq_none (by rw [List.length_map, List.length_map, h.1]; omega), List.getElem?_eq_none (by omega)]
theorem Tups.mem {H : Hp} {ts : List Addr} {ps : List (Int × Int)} (h : Tups H ts ps) : ∀ x ∈ ts.map V.ref, ∃ t, x = V.ref t ∧ H t = some (.tup [.int (My.kAt H x).1, .int (My.kAt H x).2]) := by
  intro x hx
  obtain ⟨i, hi⟩ := List.getElem?_of_mem hx
  have hl : i < ps.length := by
    have := (List.getElem?_eq_some_iff.mp hi).1
    rw [List.length_map, h.1] at this
    exact this
  obtain ⟨t, h1, h2, h3⟩ := h.at hl
  rw [h2] at hi
  cases hi
  refine ⟨t, rfl, ?_⟩
  rw [kAt_of h3]
  exact h3
/-- any order of them -/
theorem Tups.of_perm {H : Hp} {xs ys : List V} (hx : ∀ x ∈ xs, ∃ t, x = V.ref t ∧ H t = some (.tup [.int (My.kAt H x).1, .int (My.kAt H x).2])) (hp : ys.Perm xs) : ∃ ts : List Addr, ys = ts.map V.ref ∧ Tups H ts (ys.map (My.kAt H)) := by
  have hy : ∀ y ∈ ys, ∃ t, y = V.ref t ∧ H t = some (.tup [.int (My.kAt H y).1, .int (My.kAt H y).2]) := fun y h => hx y (hp.mem_iff.mp h)
  clear hx hp
  induction ys with
  | nil => exact ⟨[], rfl, Tups.nil⟩
  | cons y l ih =>
    obtain ⟨ts, e, h⟩ := ih fun z hz => hy z (List.mem_cons_of_mem _ hz)
    obtain ⟨t, et, ht⟩ := hy y List.mem_cons_self
    refine ⟨t :: ts, by rw [List.map_cons, ← e, ← et], by rw [List.map_cons, List.length_cons, List.length_cons, h.1], fun i u p a b => ?_⟩
    cases i with
    | zero =>
      simp only [List.getElem?_cons_zero, Option.some.injEq, List.map_cons] at a b
      subst a b
      exact ht
    | succ i =>
      rw [List.getElem?_cons_succ] at a
      rw [List.map_cons, List.getElem?_cons_succ] at b
      exact h.2 i u p a b
theorem sorted_fst {H : Hp} {ys : List V} (h : SrtO.Srtd (ltP (My.kAt H)) ys) : (ys.map (My.kAt H)).Pairwise (fun p q => p.1 ≤ q.1) := by
  rw [List.pairwise_map]
  refine List.Pairwise.imp (fun {x y} q => ?_) h
  have q' : ¬ SrtO.lexB (My.kAt H y) (My.kAt H x) = true := by
    rw [show SrtO.lexB (My.kAt H y) (My.kAt H x) = false from q]
    exact Bool.false_ne_true
  rw [SrtO.lexB_iff] at q'
  omega
section
variable {P : Program} {w : World} {K : PySem.W.Frag} {mg : Str → Option Value} {base : Heap}
def natV (od : List Nat) : List V := od.map fun (k : Nat) => V.int (k : Int)
theorem natV_at {od : List Nat} {i k : Nat} (h : od[i]? = some k) : (natV od)[i]? = some (.int (k : Int)) := by
  unfold natV
  rw [List.getElem?_map, h]
  rfl
theorem natV_len (od : List Nat) : (natV od).length = od.length := List.length_map _
theorem atI_refs {ts : List Addr} {t : Addr} {i : Nat} (h : (ts.map V.ref)[i]? = some (.ref t)) : atI (ts.map V.ref) (i : Int) = some (.ref t) := atI_nat h
theorem tyL44 {H : Hp} {D : Addr} {xs : List V} (h : H D = some (.lst xs)) : tyV K "list" (.ref D) H := .inl ⟨rfl, _, SqL.of h⟩
def spStack (K : PySem.W.Frag) : Sp := fun vs H Q _ => ∃ (a b c : Addr) (lv : List (Int × Int)) (sz : List Int) (od : List Nat), vs = [.ref a, .ref b, .ref c] ∧ LvT H a lv ∧ H b = some (.tup (sz.map V.int)) ∧ (H c = some (.lst (natV od)) ∨ H c = some (.tup (natV od))) ∧
  sz.length = lv.length ∧ lv.length ≤ 900 ∧ od.length ≤ 900 ∧ od.Nodup ∧ (∀ k ∈ od, k < lv.length) ∧ ∀ H' pl q, Same H H' → H' q = some (.tup (pl.map V.int)) → pl.length = lv.length → Stk lv sz od pl → Q (.ref q) H'
abbrev nSt : List Str := ["all_lives", "sizes", "order", "places", "placed", "buffer", "taken", "other"]
theorem scSt : FnScope nSt ["all_lives", "sizes", "order"] (defScope sStack) := ⟨rfl, rfl, rfl, by decide +kernel, rfl, by decide +kernel, by decide +kernel⟩
theorem ok_stack {f : Addr} {fd : FuncData} (F : Fun K "_stacked" "_stacked" sStack f fd) (T : TxtP mg) (ms : mg "sorted" = none) (cM : Calls P w K mg base CX0 1 "meet" ["one", "other"] spMeet) (cGa : Calls P w K mg base CX0 1 "_first_gap" ["taken", "size"] (spGap K)) : FnOk P w K mg base CX0 2 f fd ["all_lives", "sizes", "order"] (spStack K) := by
  obtain ⟨fM, dM, GM, kM, bM, gM⟩ := cM.ex
  obtain ⟨fGa, dGa, GGa, kGa, bGa, gGa⟩ := cGa.ex
  refine F.ok scSt (fun vs H Q E h => ?_) (fun cdv A outer s H vs Q E hr1 h => ?_)
  · obtain ⟨a, b, c, lv, sz, od, rfl, _⟩ := h
    rfl
  · obtain ⟨a, b, c, lv, sz, od, rfl, ⟨ts, ha, hx⟩, hb, hc, hls, hlv, hol, hnd, hod, q⟩ := h
    refine ⟨_, (pss_cons (ps_set (i := 3) scSt.nd rfl (.inr rfl) (pe_op op_rep (pe_lst (pa_cons pe_int pa_nil)) (pe_callB call_len_seq (by rfl) T.len PySem.boot_len (pa_cons (pv 1) pa_nil))))
      (pss_cons (ps_set (i := 4) scSt.nd rfl (.inl rfl) (pe_lst pa_nil))
      (pss_cons (ps_for PassesOwn.never rfl (pi_seq (pv 2)) (pg_name (i := 5) scSt.nd rfl (.inr rfl)) (pss_cons (ps_setLc (i := 6) (own := [("other", 7)]) (g := (gName 7)) (tt := (tB (tCall spMeet [] E0 (tCons (tOp (rIxT K) (tVar 0) (tVar 5)) (tCons (tOp (rIxT K) (tVar 0) (tVar 7)) tNil))))) (te := (tTup (tCons (tOp (rIxL K) (tVar 3) (tVar 7)) (tCons (tOp (rIxT K) (tVar 1) (tVar 7)) tNil)))) (by rfl) scSt.nd rfl rfl (sw_true rfl rfl rfl (by decide +kernel)) (pi_list (pv 4)) (blkOk_by (N := nSt) (sc := defScope sStack) (by decide +kernel)) (fun _ _ _ _ _ => (pg_name (i := 7) scSt.nd rfl (.inl rfl) (hf := Or.inr rfl))) (fun _ _ _ _ _ => pts_one (pt_val (pe_call GM hr1 (by rfl) gM kM bM .nil pass0 (pa_cons (pe_ix ix_tup (pv 0) (pv 5) (fun _ _ => rfl)) (pa_cons (pe_ix ix_tup (pv 0) (pv 7) (fun _ _ => rfl)) pa_nil))))) (fun _ _ _ _ _ => (pe_tup (pa_cons (pe_ix ix_list (pv 3) (pv 7) (fun _ _ => rfl)) (pa_cons (pe_ix ix_tup (pv 1) (pv 7) (fun _ _ => rfl)) pa_nil)))))
      (pss_cons (ps_asg (pe_call GGa hr1 (by rfl) gGa kGa bGa .nil pass0 (pa_cons (pe_callB cr_sortedPO (by rfl) ms (by decide +kernel) (pa_cons (pv 6) pa_nil)) (pa_cons (pe_ix ix_tup (pv 1) (pv 5) (fun _ _ => rfl)) pa_nil))) (pg_sub (pv 3) (pv 5) set_list))
      (pss_one (ps_expr (pe_bm PySem.F.plainAttrs_list PySem.F.slot_list_append PySem.F.type_list_append mt_append (pv 4) (pa_cons (pv 5) pa_nil)))))))
      (pss_one (ps_ret (pe_callTy call_tuple_of (by rfl) T.tuple (by decide +kernel) (pa_cons (pv 3) pa_nil))))))), ?_⟩
    refine ⟨small1000 (by decide), fun z0 n0 => ?_⟩
    refine ⟨_, rfl, b, _, rfl, .inr (SqT.of (same_upd n0 _ _ hb)), z0, _, _, rfl, rfl, upd_same, by omega, ?_, ?_, fun p np => ?_⟩
    · rw [List.length_map]; omega
    · rw [List.length_map, Int.toNat_natCast, sizeLine_eq]
      show 1 * sz.length ≤ _
      omega
    have s1 := (same_upd (o := .lst [V.int 0]) n0).trans (same_upd (o := .lst (List.replicate (((sz.map V.int).length : Nat) : Int).toNat [V.int 0]).flatten) np)
    have hp1 : upd (upd H z0 (.lst [V.int 0])) p (.lst (List.replicate (((sz.map V.int).length : Nat) : Int).toNat [V.int 0]).flatten) p = some (.lst ((List.replicate lv.length (0 : Int)).map V.int)) := by
      rw [upd_same, List.length_map, Int.toNat_natCast, hls, List.map_replicate]
      congr 2
      generalize lv.length = n
      induction n with
      | zero => rfl
      | succ n ih => rw [List.replicate_succ, List.flatten_cons, ih]; rfl
    have hpn : H p = none := by
      cases e : H p with
      | none => rfl
      | some o => rw [same_upd n0 _ _ e] at np; cases np
    generalize upd (upd H z0 _) p _ = H1 at s1 hp1
    refine ⟨Nat.zero_le _, fun d nd => ?_⟩
    have hdn : H d = none := by
      cases e : H d with
      | none => rfl
      | some o => rw [s1 _ _ e] at nd; cases nd
    have hpd : p ≠ d := ne_of_none hp1 nd
    refine ⟨_, rfl, c, natV od, Same H, rfl, ?_, fun J w => for_it w (fun i σ H' => ∃ (v5 v6 : Option V) (pl : List Int), σ = [some (.ref a), some (.ref b), some (.ref c), some (.ref p), some (.ref d), v5, v6, none] ∧ Same H H' ∧ H' p = some (.lst (pl.map V.int)) ∧ H' d = some (.lst (natV (od.take i))) ∧ pl.length = lv.length ∧ Stk lv sz (od.take i) pl)
      ⟨none, none, _, rfl, s1.trans (same_upd nd), (same_upd nd) _ _ hp1, upd_same, List.length_replicate, fun i k e => by simp at e⟩ (fun _ _ _ _ ⟨_, _, _, _, sm, _⟩ => sm) ?_ ?_⟩
    · have s2 := s1.trans (same_upd (o := .lst ([] : List V)) nd)
      rcases hc with hc | hc
      · exact .inl ⟨SqL.of (s2 _ _ hc), fun H' g => SqL.of (g _ _ hc)⟩
      · exact .inr ⟨SqT.of (s2 _ _ hc), fun H' g => SqT.of (g _ _ hc)⟩
    · rintro i x σ H' H'' hi ⟨v5, v6, pl, rfl, sm, hp, hd, hpl, hst⟩ ⟨rfl, hx1⟩
      rw [natV_len] at hi
      obtain ⟨k, hk⟩ : ∃ k, od[i]? = some k := ⟨od[i], by simp [hi]⟩
      rw [natV_at hk] at hx1
      cases hx1
      have hkm : k ∈ od := List.mem_of_getElem? hk
      have hkl := hod k hkm
      have hkn : k ∉ od.take i := fun z => by
        have hh := List.nodup_iff_pairwise_ne.mp hnd
        obtain ⟨m, hm⟩ := List.getElem?_of_mem z
        have hmi : m < i := by
          have := (List.getElem?_eq_some_iff.mp hm).1
          rw [List.length_take] at this
          omega
        rw [List.getElem?_take, if_pos hmi] at hm
        obtain ⟨h1, e1⟩ := List.getElem?_eq_some_iff.mp hm
        obtain ⟨h2, e2⟩ := List.getElem?_eq_some_iff.mp hk
        exact (List.pairwise_iff_getElem.mp hh m i h1 h2 hmi) (e1.trans e2.symm)
      have hx' := hx.same sm
      have ha' := sm _ _ ha
      have hb' := sm _ _ hb
      obtain ⟨t1, _, t2, t3⟩ := hx'.at hkl
      refine ⟨_, rfl, d, rfl, ⟨_, SqL.of hd⟩, fun D nD => lc_it walk_list (fun j H3 => Same H'' H3 ∧ ∃ us : List Addr, H3 D = some (.lst (us.map V.ref)) ∧ Tups H3 us (takenF lv sz pl k ((od.take i).take j))) ⟨same_upd nD, [], upd_same, Tups.nil⟩ (fun j H3 _ h => SqL.of (h.1 _ _ hd)) ?_ ?_⟩
      · rintro j x H3 H4 hj ⟨sm3, us, hD, hu⟩ ⟨rfl, hx2⟩
        rw [natV_len] at hj
        obtain ⟨m, hm⟩ : ∃ m, (od.take i)[j]? = some m := ⟨(od.take i)[j], List.getElem?_eq_getElem hj⟩
        rw [natV_at hm] at hx2
        cases hx2
        have hml := hod m (List.mem_of_mem_take (List.mem_of_getElem? hm))
        obtain ⟨u1, _, u2, u3⟩ := (hx'.same sm3).at hml
        have t3' := sm3 _ _ t3
        have ha3 := sm3 _ _ ha'
        have hb3 := sm3 _ _ hb'
        have hp3 := sm3 _ _ hp
        refine ⟨rfl, _, rfl, _, rfl, a, _, _, _, rfl, rfl, SqT.of ha3, atI_nat t2, _, rfl, _, rfl, a, _, _, _, rfl, rfl, SqT.of ha3, atI_nat u2, t1, u1, _, _, rfl, t3', u3, _, rfl, ite2 (fun e => ?_) (fun e => ?_)⟩
        · refine ⟨_, rfl, _, rfl, p, _, _, _, rfl, rfl, SqL.of hp3, vatD (by omega), _, rfl, _, rfl, b, _, _, _, rfl, rfl, SqT.of hb3, vatD (by omega), (show 2 ≤ sizeLine by decide), fun T' nT => ⟨_, same_upd nT _ _ hD, ?_, ?_, us ++ [T'], ?_, ?_⟩⟩
          · have hb9 := takenF_len lv sz pl k ((od.take i).take j)
            have hb8 : ((od.take i).take j).length ≤ od.length := Nat.le_trans (List.length_take_le' _ _) (List.length_take_le' _ _)
            rw [List.length_map, hu.1]
            exact small1000 (by omega)
          · exact fun c o e => by rw [upd_ne (ne_of_none e nD)]; exact same_upd nT _ _ (sm3 _ _ e)
          · rw [upd_same, List.map_append]
            rfl
          · rw [take_snoc hm, takenF_snoc, if_pos e]
            have hDT : D ≠ T' := ne_of_none hD nT
            refine Tups.snoc (hu.keep fun b xs eb => ?_) ?_
            · have n1 : b ≠ T' := ne_of_none eb nT
              have n2 : b ≠ D := fun z => by rw [z, hD] at eb; cases eb
              rw [upd_ne n2, upd_ne n1]
              exact eb
            · rw [upd_ne (Ne.symm hDT), upd_same]
        · exact ⟨sm3, us, hD, by rw [take_snoc hm, takenF_snoc, if_neg e]; exact hu⟩
      · rintro H3 ⟨sm3, us, hD, hu⟩
        rw [natV_len, List.take_length] at hu
        refine ⟨_, rfl, D, us.map V.ref, kAt H3, rfl, SqL.of hD, hu.mem, fun ys p' hs hsb np' => ?_⟩
        obtain ⟨ts', ey, hy⟩ := Tups.of_perm hu.mem hsb.perm
        have sm4 := sm3.trans (same_upd (o := .lst ys) np')
        have hb4 := sm4 _ _ hb'
        have hp4 := sm4 _ _ hp
        have hd4 := sm4 _ _ hd
        obtain ⟨g1, g2, g3⟩ := gapF_ok (ia sz k) (ys.map (kAt H3)) 0 (sorted_fst hs)
        have hmem : ∀ q, q ∈ ys.map (kAt H3) ↔ ∃ j ∈ od.take i, ovl (lvA lv k) (lvA lv j) = true ∧ q = (ia pl j, ia sz j) := fun q => by
          rw [(hsb.perm.map (kAt H3)).mem_iff, hu.kAt]
          exact mem_takenF
        refine ⟨_, rfl, _, rfl, b, _, _, _, rfl, rfl, SqT.of hb4, vatD (by omega), p', ts', ys.map (kAt H3), _, rfl, by rw [upd_same, ey], hy.same (same_upd np'), ?_⟩
        refine ⟨_, rfl, _, rfl, p, _, _, k, rfl, rfl, hp4, Evl.ixN_nat (by rw [List.length_map]; omega), ?_⟩
        have hd5 : upd (upd H3 p' (.lst ys)) p (.lst ((pl.map V.int).set k (.int (gapF (ia sz k) (ys.map (kAt H3)) 0)))) d = some (.lst (natV (od.take i))) := by
          rw [upd_ne (Ne.symm hpd)]
          exact hd4
        refine ⟨_, rfl, tyL44 hd5, _, rfl, d, _, _, rfl, rfl, hd5, ?_, ?_⟩
        · rw [natV_len]
          have := List.length_take_le' i od
          exact small1000 (by omega)
        refine ⟨_, _, pl.set k (gapF (ia sz k) (ys.map (kAt H3)) 0), rfl, fun c o e => ?_, ?_, ?_, by rw [List.length_set]; exact hpl, ?_⟩
        · rw [upd_ne (ne_of_none e hdn), upd_ne (ne_of_none e hpn)]
          exact sm4 _ _ (sm _ _ e)
        · rw [upd_ne hpd, upd_same, List.map_set]
        · rw [upd_same, take_snoc hk]
          unfold natV
          rw [List.map_append]
          rfl
        · rw [take_snoc hk]
          refine hst.snoc hkn (by omega) ?_ fun j hj hov => ?_
          · rcases g1 with g1 | ⟨q, hq, g1⟩
            · exact .inl g1
            · obtain ⟨j, hj, ho, rfl⟩ := (hmem q).mp hq
              exact .inr ⟨j, hj, ho, g1⟩
          · exact g3 _ ((hmem _).mpr ⟨j, hj, hov, rfl⟩)
    · rintro σ H' ⟨v5, v6, pl, rfl, sm, hp, hd, hpl, hst⟩
      rw [natV_len, List.take_length] at hst
      refine ⟨_, rfl, p, _, rfl, .inl ⟨SqL.of hp, fun l nl => ?_⟩⟩
      exact q _ pl l (sm.trans (same_upd nl)) upd_same hpl hst
end

section
variable {P : Program} {w : World} {K : PySem.W.Frag} {mg : Str → Option Value} {base : Heap}
/-! ### the choice -/
def OrdR (n : Nat) (od : List Nat) : Prop := od.Perm (List.range n)
def TabsO (P0 : Addr) : List (Addr × Str) := [(P0, (("_promising_orders" : Str) ++ ".<locals>.") ++ "<lambda>")]
def Small (lv : List (Int × Int)) (sz : List Int) : Prop := (∀ k, -1000 ≤ ia sz k ∧ ia sz k ≤ 1000) ∧ ∀ k, -1000 ≤ (lvA lv k).1 ∧ (lvA lv k).1 ≤ 1000 ∧ -1000 ≤ (lvA lv k).2 ∧ (lvA lv k).2 ≤ 1000
def spOrders (K : PySem.W.Frag) (P0 : Addr) : Sp := fun vs H Q _ => ∃ (a b : Addr) (lv : List (Int × Int)) (sz : List Int), vs = [.ref a, .ref b] ∧ LvT H a lv ∧ H b = some (.tup (sz.map V.int)) ∧ sz.length = lv.length ∧ lv.length ≤ 900 ∧ Small lv sz ∧ LamX.Tabs (TabsO P0) H ∧
  ∀ H' q, LamX.ExtN H H' → (∃ os : List Addr, H' q = some (.tup (os.map V.ref)) ∧ ∀ o ∈ os, ∃ od, H' o = some (.lst (natV od)) ∧ OrdR lv.length od) → Q (.ref q) H'
def wds (sz pl : List Int) : Int := maxI 0 (endsOf sz pl)
def Chosen (lv : List (Int × Int)) (sz pl : List Int) : Prop := pl.length = lv.length ∧ (∃ od, OrdR lv.length od ∧ Stk lv sz od pl) ∧
  (lv.length ≤ 5 → ∀ k, k < fct lv.length → ∃ pl', pl'.length = lv.length ∧ Stk lv sz (permIx lv.length k (List.range lv.length)) pl' ∧ wds sz pl ≤ wds sz pl')
def spChoose (K : PySem.W.Frag) (P0 : Addr) : Sp := fun vs H Q _ => ∃ (a b : Addr) (lv : List (Int × Int)) (sz : List Int), vs = [.ref a, .ref b] ∧ LvT H a lv ∧ H b = some (.tup (sz.map V.int)) ∧ sz.length = lv.length ∧ lv.length ≤ 900 ∧ Small lv sz ∧ LamX.Tabs (TabsO P0) H ∧
  ∀ H' pl q, LamX.ExtN H H' → H' q = some (.tup (pl.map V.int)) → Chosen lv sz pl → Q (.ref q) H'
theorem OrdR.nodup {n : Nat} {od : List Nat} (h : OrdR n od) : od.Nodup := h.nodup_iff.mpr List.nodup_range
theorem OrdR.lt {n : Nat} {od : List Nat} (h : OrdR n od) : ∀ k ∈ od, k < n := fun k hk => List.mem_range.mp (h.mem_iff.mp hk)
theorem OrdR.len {n : Nat} {od : List Nat} (h : OrdR n od) : od.length = n := by rw [h.length_eq, List.length_range]
theorem perm_ok : ∀ n, n < 6 → ∀ k, k < fct n → (permIx n k (List.range n)).Nodup ∧ (∀ j ∈ permIx n k (List.range n), j < n) ∧ (∀ j, j < n → j ∈ permIx n k (List.range n)) := by decide +kernel
theorem perm_ord {n k : Nat} (hn : n < 6) (hk : k < fct n) : OrdR n (permIx n k (List.range n)) := by
  obtain ⟨h1, h2, h3⟩ := perm_ok n hn k hk
  exact (List.perm_ext_iff_of_nodup h1 List.nodup_range).mpr fun j => ⟨fun h => List.mem_range.mpr (h2 j h), fun h => h3 j (List.mem_range.mp h)⟩
theorem permV_natV (n k : Nat) : permV n k = natV (permIx n k (List.range n)) := rfl
theorem rgV_natV (n : Nat) : rgV 0 (n : Int) = natV (List.range n) := by
  unfold rgV natV
  rw [show ((n : Int) - 0).toNat = n by omega]
  refine List.map_congr_left fun i _ => ?_
  rw [Int.zero_add]
abbrev nCh : List Str := ["all_lives", "sizes", "best", "least", "order"]
theorem scCh : FnScope nCh ["all_lives", "sizes"] (defScope sChoose) := ⟨rfl, rfl, rfl, by decide +kernel, rfl, by decide +kernel, by decide +kernel⟩
theorem ok_choose {f P0 : Addr} {fd : FuncData} (F : Fun K "choose_places" "choose_places" sChoose f fd) (T : TxtP mg) (mp : mg "permutations" = some (.type "itertools.permutations")) (lF : ∃ u, mg "_FEW" = some u ∧ RelV (.int 5) u) (cSt : Calls P w K mg base CX0 2 "_stacked" ["all_lives", "sizes", "order"] (spStack K)) (cP : Calls P w K mg base CX0 1 "peak_of" ["all_lives", "sizes"] (spPeak K)) (cBe : Calls P w K mg base CX0 2 "_better" ["sizes", "one", "other"] (spBetter K)) (cW : Calls P w K mg base CX0 1 "_words_of" ["sizes", "places"] (spWords K)) (cOr : Calls P w K mg base CX0 3 "_promising_orders" ["all_lives", "sizes"] (spOrders K P0)) : FnOk P w K mg base CX0 4 f fd ["all_lives", "sizes"] (spChoose K P0) := by
  obtain ⟨fSt, dSt, GSt, kSt, bSt, gSt⟩ := cSt.ex
  obtain ⟨fP, dP, GP, kP, bP, gP⟩ := cP.ex
  obtain ⟨fBe, dBe, GBe, kBe, bBe, gBe⟩ := cBe.ex
  obtain ⟨fW, dW, GW, kW, bW, gW⟩ := cW.ex
  obtain ⟨fOr, dOr, GOr, kOr, bOr, gOr⟩ := cOr.ex
  refine F.ok scCh (fun vs H Q E h => ?_) (fun cdv A outer s H vs Q E hr3 h => ?_)
  · obtain ⟨a, b, lv, sz, rfl, _⟩ := h
    rfl
  · obtain ⟨a, b, lv, sz, rfl, ⟨ts, ha, hx⟩, hb, hls, hlv, hsm, hTb, q⟩ := h
    have hr1 : Room 1 _ := hr3.mono (by decide)
    have hr2 : Room 2 _ := hr3.mono (by decide)
    obtain ⟨uF, gF, rF⟩ := lF
    refine ⟨_, (pss_cons (ps_set (i := 2) scCh.nd rfl (.inl rfl) (pe_call GSt hr2 (by rfl) gSt kSt bSt .nil pass0 (pa_cons (pv 0) (pa_cons (pv 1) (pa_cons (pe_listRg (by rfl) (by rfl) T.toTxtD.list (prg_1 (by rfl) T.range (pe_callB call_len_seq (by rfl) T.len PySem.boot_len (pa_cons (pv 1) pa_nil)))) pa_nil)))))
      (pss_cons (ps_set (i := 3) scCh.nd rfl (.inl rfl) (pe_call GP hr1 (by rfl) gP kP bP .nil pass0 (pa_cons (pv 0) (pa_cons (pv 1) pa_nil))))
      (pss_cons (ps_if (pt_cmpR op_le (pe_callB call_len_seq (by rfl) T.len PySem.boot_len (pa_cons (pv 1) pa_nil)) (pe_glob (v := (.int 5)) (by rfl) gF rF) (nomark _)) (pss_cons (ps_for PassesOwn.never rfl (pi_perm (by rfl) (by rfl) mp (prg_1 (by rfl) T.range (pe_callB call_len_seq (by rfl) T.len PySem.boot_len (pa_cons (pv 1) pa_nil)))) (pg_name (i := 4) scCh.nd rfl (.inl rfl)) (pss_one (ps_set (i := 2) scCh.nd rfl (.inl rfl) (pe_call GBe hr2 (by rfl) gBe kBe bBe .nil pass0 (pa_cons (pv 1) (pa_cons (pv 2) (pa_cons (pe_call GSt hr2 (by rfl) gSt kSt bSt .nil pass0 (pa_cons (pv 0) (pa_cons (pv 1) (pa_cons (pv 4) pa_nil)))) pa_nil)))))))
      (pss_one (ps_ret (pv 2)))) pss_nil)
      (pss_cons (ps_for PassesOwn.never rfl (pi_tup (pe_call GOr hr3 (by rfl) gOr kOr bOr .nil pass0 (pa_cons (pv 0) (pa_cons (pv 1) pa_nil)))) (pg_name (i := 4) scCh.nd rfl (.inl rfl)) (pss_one (ps_if (pt_cmpR op_gt (pe_call GW hr1 (by rfl) gW kW bW .nil pass0 (pa_cons (pv 1) (pa_cons (pv 2) pa_nil))) (pv 3) (nomark _)) (pss_one (ps_set (i := 2) scCh.nd rfl (.inl rfl) (pe_call GBe hr2 (by rfl) gBe kBe bBe .nil pass0 (pa_cons (pv 1) (pa_cons (pv 2) (pa_cons (pe_call GSt hr2 (by rfl) gSt kSt bSt .nil pass0 (pa_cons (pv 0) (pa_cons (pv 1) (pa_cons (pv 4) pa_nil)))) pa_nil)))))) pss_nil)))
      (pss_one (ps_ret (pv 2))))))), ?_⟩
    generalize hn : lv.length = n at hlv q
    have hsl : (sz.map V.int).length = n := by rw [List.length_map, hls, hn]
    have hr : OrdR n (List.range n) := List.Perm.refl _
    refine ⟨_, rfl, _, rfl, _, rfl, b, _, rfl, .inr (SqT.of hb), _, rfl, ?_, fun r nr => ?_⟩
    · rw [hsl]
      exact RgOk.of_le (by omega) (by omega) (by omega) (by omega)
    have s0 := same_upd (o := .lst (rgV 0 (((sz.map V.int).length : Nat) : Int))) nr
    refine ⟨a, b, r, lv, sz, List.range n, rfl, LvT.same ⟨ts, ha, hx⟩ s0, s0 _ _ hb, .inl (by rw [upd_same, hsl, rgV_natV]), hls, by omega, by rw [List.length_range]; exact hlv, List.nodup_range, fun k hk => by rw [hn]; exact List.mem_range.mp hk, fun H1 pl0 q0 s1 hq0 hl0 st0 => ?_⟩
    replace s1 := s0.trans s1
    refine ⟨_, rfl, _, rfl, a, b, lv, sz, rfl, LvT.same ⟨ts, ha, hx⟩ s1, s1 _ _ hb, hls, by omega, fun H2 m s2 pk => ?_⟩
    have hq2 := s2 _ _ hq0
    replace s2 := s1.trans s2
    refine ⟨_, rfl, b, _, rfl, .inr (SqT.of (s2 _ _ hb)), ?_⟩
    rw [hsl]
    refine ⟨_, _, rfl, rfl, _, rfl, ite2 (fun e => ?_) (fun e => ?_)⟩
    · have h5 : n ≤ 5 := by have := of_decide_eq_true e; omega
      refine ⟨_, rfl, b, _, rfl, .inr (SqT.of (s2 _ _ hb)), _, rfl, n, rfl, by rw [hsl], by omega, for_it walk_perm (fun i σ H' => ∃ (v4 : Option V) (pl : List Int) (bq : Addr), σ = [some (.ref a), some (.ref b), some (.ref bq), some (.int m), v4] ∧ Same H H' ∧ H' bq = some (.tup (pl.map V.int)) ∧ pl.length = n ∧ (∃ od, OrdR n od ∧ Stk lv sz od pl) ∧
          ∀ k, k < i → ∃ pl', pl'.length = n ∧ Stk lv sz (permIx n k (List.range n)) pl' ∧ wds sz pl ≤ wds sz pl')
        ⟨none, pl0, q0, rfl, s2, hq2, by omega, ⟨_, hr, st0⟩, fun k hk => absurd hk (Nat.not_lt_zero _)⟩ (fun _ _ _ _ _ => trivial) ?_ ?_⟩
      · rintro i x σ H' H'' hi ⟨v4, pl, bq, rfl, sm, hbq, hpl, hod, hall⟩ ⟨t, rfl, nt, rfl⟩
        have po := perm_ord (show n < 6 by omega) hi
        have st := same_upd (o := .tup (permV n i)) nt
        have sm1 := sm.trans st
        refine ⟨_, rfl, _, rfl, _, rfl, _, rfl, _, rfl, a, b, t, lv, sz, permIx n i (List.range n), rfl, LvT.same ⟨ts, ha, hx⟩ sm1, sm1 _ _ hb, .inr upd_same, hls, by omega, by rw [po.len]; exact hlv, po.nodup, fun k hk => by rw [hn]; exact po.lt k hk, fun H3 pl' q' s3 hq' hl' st' => ?_⟩
        have sm3 := sm1.trans s3
        refine ⟨b, bq, q', sz, pl, pl', rfl, sm3 _ _ hb, s3 _ _ (st _ _ hbq), hq', by omega, by omega, fun H4 s4 => ⟨fun lt => ?_, fun nlt => ?_⟩⟩
        · refine ⟨_, pl', q', rfl, sm3.trans s4, s4 _ _ hq', by omega, ⟨_, po, st'⟩, fun k hk => ?_⟩
          by_cases ek : k = i
          · subst ek
            exact ⟨pl', by omega, st', Int.le_refl _⟩
          · obtain ⟨p2, z1, z2, z3⟩ := hall k (by omega)
            refine ⟨p2, z1, z2, Int.le_trans (Int.le_of_lt lt) z3⟩
        · refine ⟨_, pl, bq, rfl, sm3.trans s4, s4 _ _ (s3 _ _ (st _ _ hbq)), hpl, hod, fun k hk => ?_⟩
          by_cases ek : k = i
          · subst ek
            exact ⟨pl', by omega, st', Int.not_lt.mp nlt⟩
          · exact hall k (by omega)
      · rintro σ H' ⟨v4, pl, bq, rfl, sm, hbq, hpl, hod, hall⟩
        exact ⟨_, rfl, q _ pl bq (LamX.ExtN.of sm) hbq ⟨by omega, by rw [hn]; exact hod, fun _ k hk => by rw [hn] at hk ⊢; exact hall k hk⟩⟩
    · have h5 : ¬ n ≤ 5 := fun z => e (decide_eq_true (by omega))
      refine ⟨_, rfl, _, rfl, a, b, lv, sz, rfl, LvT.same ⟨ts, ha, hx⟩ s2, s2 _ _ hb, hls, by omega, hsm, hTb.ext s2, fun H3 qo s3 ⟨os, ho, hos⟩ => ?_⟩
      have tk : ∀ b xs, H2 b = some (.tup xs) → H3 b = some (.tup xs) := fun b xs e => s3 b _ e (fun ps z => nomatch z)
      have hL3 : LvT H3 a lv := (LvT.same ⟨ts, ha, hx⟩ s2).keep tk
      have hb3 := tk _ _ (s2 _ _ hb)
      refine ⟨qo, rfl, ⟨_, SqT.of ho⟩, for_it walk_tup (fun i σ H' => ∃ (v4 : Option V) (pl : List Int) (bq : Addr), σ = [some (.ref a), some (.ref b), some (.ref bq), some (.int m), v4] ∧ Same H3 H' ∧ H' bq = some (.tup (pl.map V.int)) ∧ pl.length = n ∧ (∃ od, OrdR n od ∧ Stk lv sz od pl))
        ⟨none, pl0, q0, rfl, Same.refl H3, tk _ _ hq2, by omega, ⟨_, hr, st0⟩⟩ (fun _ _ _ _ ⟨_, _, _, _, sm, _⟩ => SqT.of (sm _ _ ho)) ?_ ?_⟩
      · rintro i x σ H' H'' hi ⟨v4, pl, bq, rfl, sm, hbq, hpl, hod⟩ ⟨rfl, hx1⟩
        rw [List.getElem?_map] at hx1
        obtain ⟨o, ho1, ho2⟩ := Option.map_eq_some_iff.mp hx1
        subst ho2
        obtain ⟨od, hd, po⟩ := hos o (List.mem_of_getElem? ho1)
        rw [hn] at po
        have hb4 := sm _ _ hb3
        refine ⟨_, rfl, _, rfl, b, bq, sz, pl, rfl, hb4, hbq, by omega, fun H5 s5 => ⟨_, rfl, _, _, rfl, rfl, _, rfl, ite2 (fun e => ?_) (fun e => ?_)⟩⟩
        · have sm5 := sm.trans s5
          refine ⟨_, rfl, _, rfl, _, rfl, _, rfl, _, rfl, a, b, o, lv, sz, od, rfl, hL3.same sm5, sm5 _ _ hb3, .inl (s5 _ _ (sm _ _ hd)), hls, by omega, by rw [po.len]; exact hlv, po.nodup, fun k hk => by rw [hn]; exact po.lt k hk, fun H6 pl' q' s6 hq' hl' st' => ?_⟩
          refine ⟨b, bq, q', sz, pl, pl', rfl, s6 _ _ (sm5 _ _ hb3), s6 _ _ (s5 _ _ hbq), hq', by omega, by omega, fun H7 s7 => ⟨fun lt => ?_, fun nlt => ?_⟩⟩
          · exact ⟨_, pl', q', rfl, ((sm.trans s5).trans s6).trans s7, s7 _ _ hq', by omega, ⟨_, po, st'⟩⟩
          · exact ⟨_, pl, bq, rfl, ((sm.trans s5).trans s6).trans s7, s7 _ _ (s6 _ _ (s5 _ _ hbq)), hpl, hod⟩
        · exact ⟨_, pl, bq, rfl, sm.trans s5, s5 _ _ hbq, hpl, hod⟩
      · rintro σ H' ⟨v4, pl, bq, rfl, sm, hbq, hpl, hod⟩
        exact ⟨_, rfl, q _ pl bq (((LamX.ExtN.of s2).trans s3).trans (LamX.ExtN.of sm)) hbq ⟨by omega, by rw [hn]; exact hod, fun z => absurd (by omega) h5⟩⟩
end

/-! ### what first fit is worth -/
theorem ovl_comm (p q : Int × Int) : ovl p q = ovl q p := by unfold ovl; rw [Bool.and_comm]
def Apart (sz pl : List Int) (j k : Nat) : Prop := ia pl j + ia sz j ≤ ia pl k ∨ ia pl k + ia sz k ≤ ia pl j
def GoodP (lv : List (Int × Int)) (sz pl : List Int) : Prop := ∀ k, k < pl.length → 0 ≤ ia pl k ∧ ∀ j, j < k → ovl (lvA lv j) (lvA lv k) = true → Apart sz pl j k
def PV (lv : List (Int × Int)) (sz : List Int) (room : Int) (ql : List Int) : Prop := ∀ k, k < ql.length → 0 ≤ ia ql k ∧ ia ql k + ia sz k ≤ room ∧ ∀ j, j < k → ovl (lvA lv j) (lvA lv k) = true → Apart sz ql j k
def Pos1 (n : Nat) (sz : List Int) : Prop := ∀ k, k < n → 0 < ia sz k
theorem take_idx {od : List Nat} {i j : Nat} (h : j ∈ od.take i) : ∃ m, m < i ∧ od[m]? = some j := by
  obtain ⟨m, hm⟩ := List.getElem?_of_mem h
  have hmi : m < i := by
    have := (List.getElem?_eq_some_iff.mp hm).1
    rw [List.length_take] at this
    omega
  rw [List.getElem?_take, if_pos hmi] at hm
  exact ⟨m, hmi, hm⟩
theorem idx_take {od : List Nat} {i m j : Nat} (h : od[m]? = some j) (hm : m < i) : j ∈ od.take i := by
  refine List.mem_of_getElem? (i := m) ?_
  rw [List.getElem?_take, if_pos hm]
  exact h
theorem stk_nonneg {lv : List (Int × Int)} {sz pl : List Int} {od : List Nat} {n : Nat} (h : Stk lv sz od pl) (ho : OrdR n od) (hp : Pos1 n sz) : ∀ i k : Nat, od[i]? = some k → 0 ≤ ia pl k := by
  intro i
  induction i using Nat.strongRecOn with
  | _ i ih =>
    intro k hk
    obtain ⟨h1, _⟩ := h i k hk
    rcases h1 with h1 | ⟨j, hj, _, h1⟩
    · omega
    · obtain ⟨m, hm, e⟩ := take_idx hj
      have := ih m hm j e
      have := hp j (ho.lt j (List.mem_of_getElem? e))
      omega
theorem stk_good {lv : List (Int × Int)} {sz pl : List Int} {od : List Nat} {n : Nat} (h : Stk lv sz od pl) (ho : OrdR n od) (hp : Pos1 n sz) (hl : pl.length = n) : GoodP lv sz pl := by
  intro k hk
  have mem : ∀ j, j < n → ∃ i, od[i]? = some j := fun j hj => List.getElem?_of_mem (ho.mem_iff.mpr (List.mem_range.mpr hj))
  obtain ⟨i, hi⟩ := mem k (by omega)
  refine ⟨stk_nonneg h ho hp i k hi, fun j hj hov => ?_⟩
  obtain ⟨m, hm⟩ := mem j (by omega)
  rcases Nat.lt_trichotomy m i with c | c | c
  · exact (h i k hi).2 j (idx_take hm c) (by rw [ovl_comm]; exact hov)
  · subst c
    rw [hm] at hi
    cases hi
    omega
  · exact ((h m j hm).2 k (idx_take hi c) hov).symm
def ssum (f : Nat → Int) (p : Nat → Bool) : List Nat → Int
  | [] => 0
  | x :: l => (if p x = true then f x else 0) + ssum f p l
theorem ssum_app (f : Nat → Int) (p : Nat → Bool) (a b : List Nat) : ssum f p (a ++ b) = ssum f p a + ssum f p b := by
  induction a with
  | nil => simp [ssum]
  | cons x a ih => simp only [List.cons_append, ssum, ih]; omega
theorem ssum_le {f : Nat → Int} {p q : Nat → Bool} {l : List Nat} (h0 : ∀ x ∈ l, 0 ≤ f x) (h : ∀ x ∈ l, p x = true → q x = true) : ssum f p l ≤ ssum f q l := by
  induction l with
  | nil => exact Int.le_refl _
  | cons x l ih =>
    have h1 := ih (fun y hy => h0 y (List.mem_cons_of_mem _ hy)) (fun y hy => h y (List.mem_cons_of_mem _ hy))
    have h2 := h0 x List.mem_cons_self
    have h3 := h x List.mem_cons_self
    simp only [ssum]
    by_cases e : p x = true
    · rw [if_pos e, if_pos (h3 e)]; omega
    · rw [if_neg e]
      split <;> omega
theorem ssum_nn {f : Nat → Int} {p : Nat → Bool} {l : List Nat} (h0 : ∀ x ∈ l, 0 ≤ f x) : 0 ≤ ssum f p l := by
  have := ssum_le (p := fun _ => false) (q := p) h0 (fun _ _ h => absurd h (by decide))
  have e : ∀ l : List Nat, ssum f (fun _ => false) l = 0 := fun l => by
    induction l with
    | nil => rfl
    | cons x l ih => simp [ssum, ih]
  rw [e] at this
  exact this
theorem ssum_perm {f : Nat → Int} {p : Nat → Bool} {a b : List Nat} (h : a.Perm b) : ssum f p a = ssum f p b := by
  induction h with
  | nil => rfl
  | cons x _ ih => simp only [ssum, ih]
  | swap x y l => simp only [ssum]; omega
  | trans _ _ h1 h2 => exact h1.trans h2
theorem stk_ends {lv : List (Int × Int)} {sz pl : List Int} {od : List Nat} {n : Nat} (h : Stk lv sz od pl) (ho : OrdR n od) (hp : Pos1 n sz) :
    ∀ i, i ≤ od.length → ∀ k ∈ od.take i, ia pl k + ia sz k ≤ ssum (ia sz) (fun j => decide (ia pl j + ia sz j ≤ ia pl k + ia sz k)) (od.take i) := by
  have nn : ∀ x ∈ od, 0 ≤ ia sz x := fun x hx => Int.le_of_lt (hp x (ho.lt x hx))
  intro i
  induction i with
  | zero => intro _ k hk; simp at hk
  | succ i ih =>
    intro hi k hk
    obtain ⟨m, hm⟩ : ∃ m, od[i]? = some m := ⟨od[i], List.getElem?_eq_getElem hi⟩
    have hmm := List.mem_of_getElem? hm
    have tk : ∀ x ∈ od.take i, x ∈ od := fun x hx => List.mem_of_mem_take hx
    have hpm := hp m (ho.lt m hmm)
    rw [take_snoc hm] at hk ⊢
    rw [ssum_app]
    have last : ∀ t : Int, ia pl m + ia sz m ≤ t → ssum (ia sz) (fun j => decide (ia pl j + ia sz j ≤ t)) [m] = ia sz m := fun t ht => by
      simp only [ssum]
      rw [if_pos (decide_eq_true ht)]
      omega
    rcases List.mem_append.mp hk with hk | hk
    · have h1 := ih (by omega) k hk
      have h2 : 0 ≤ ssum (ia sz) (fun j => decide (ia pl j + ia sz j ≤ ia pl k + ia sz k)) [m] := ssum_nn fun x hx => by rw [List.mem_singleton.mp hx]; omega
      omega
    · obtain rfl := List.mem_singleton.mp hk
      rw [last _ (Int.le_refl _)]
      obtain ⟨c, _⟩ := h i k hm
      rcases c with c | ⟨j, hj, _, c⟩
      · have := ssum_nn (f := ia sz) (p := fun j => decide (ia pl j + ia sz j ≤ ia pl k + ia sz k)) (l := od.take i) fun x hx => nn x (tk x hx)
        omega
      · have h1 := ih (by omega) j hj
        have h2 := ssum_le (f := ia sz) (p := fun x => decide (ia pl x + ia sz x ≤ ia pl j + ia sz j)) (q := fun x => decide (ia pl x + ia sz x ≤ ia pl k + ia sz k)) (l := od.take i) (fun x hx => nn x (tk x hx)) fun x _ hx => by
          have := of_decide_eq_true hx
          exact decide_eq_true (by omega)
        omega
theorem sum_range (sz : List Int) : ssum (ia sz) (fun _ => true) (List.range sz.length) = sz.sum := by
  have e : ∀ m, m ≤ sz.length → ssum (ia sz) (fun _ => true) (List.range m) = (sz.take m).sum := fun m => by
    induction m with
    | zero => intro _; simp [ssum]
    | succ m ih =>
      intro hm
      rw [List.range_succ, ssum_app, ih (by omega), take_snoc (nat_at (show m < sz.length by omega)), List.sum_append]
      simp [ssum]
  rw [e _ (Nat.le_refl _), List.take_length]
theorem ends_mem {sz pl : List Int} {x : Int} (h : x ∈ endsOf sz pl) : ∃ k, k < pl.length ∧ k < sz.length ∧ x = ia pl k + ia sz k := by
  obtain ⟨k, hk⟩ := List.getElem?_of_mem h
  have hl := (List.getElem?_eq_some_iff.mp hk).1
  rw [endsOf_len] at hl
  have h1 : k < pl.length := by omega
  have h2 : k < sz.length := by omega
  rw [endsOf_at h1 h2] at hk
  exact ⟨k, h1, h2, (Option.some.inj hk).symm⟩
theorem wds_le {sz pl : List Int} {r : Int} (h0 : 0 ≤ r) (h : ∀ k, k < pl.length → k < sz.length → ia pl k + ia sz k ≤ r) : wds sz pl ≤ r := by
  unfold wds
  rcases maxI_mem (d := 0) (ns := endsOf sz pl) with ⟨e, _⟩ | e
  · rw [e]; exact h0
  · obtain ⟨k, h1, h2, e⟩ := ends_mem e
    rw [e]
    exact h k h1 h2
theorem le_wds {sz pl : List Int} {k : Nat} (h1 : k < pl.length) (h2 : k < sz.length) : ia pl k + ia sz k ≤ wds sz pl := maxI_le _ (List.mem_of_getElem? (endsOf_at h1 h2))
theorem stk_sum {lv : List (Int × Int)} {sz pl : List Int} {od : List Nat} (h : Stk lv sz od pl) (ho : OrdR sz.length od) (hp : Pos1 sz.length sz) : wds sz pl ≤ sz.sum := by
  have nn : ∀ x ∈ od, 0 ≤ ia sz x := fun x hx => Int.le_of_lt (hp x (ho.lt x hx))
  have tot : ssum (ia sz) (fun _ => true) od = sz.sum := by rw [ssum_perm ho, sum_range]
  refine wds_le (by rw [← tot]; exact ssum_nn nn) fun k _ hk => ?_
  have h1 := stk_ends h ho hp od.length (Nat.le_refl _) k (by rw [List.take_length]; exact ho.mem_iff.mpr (List.mem_range.mpr hk))
  rw [List.take_length] at h1
  have h2 := ssum_le (f := ia sz) (p := fun j => decide (ia pl j + ia sz j ≤ ia pl k + ia sz k)) (q := fun _ => true) nn fun _ _ _ => rfl
  omega
theorem fit_le44 {lv : List (Int × Int)} {sz pl ql : List Int} {od : List Nat} {n : Nat} {room : Int} (h : Stk lv sz od pl) (ho : OrdR n od) (hp : Pos1 n sz) (hq : PV lv sz room ql) (hl : ql.length = n) (hs : od.Pairwise fun i j => ia ql i ≤ ia ql j) :
    ∀ i k : Nat, od[i]? = some k → ia pl k ≤ ia ql k := by
  have ap : ∀ j k, j < n → k < n → j ≠ k → ovl (lvA lv k) (lvA lv j) = true → Apart sz ql j k := fun j k hj hk hne hov => by
    rcases Nat.lt_or_gt_of_ne hne with c | c
    · exact (hq k (by omega)).2.2 j c (by rw [ovl_comm]; exact hov)
    · exact ((hq j (by omega)).2.2 k c hov).symm
  intro i
  induction i using Nat.strongRecOn with
  | _ i ih =>
    intro k hk
    have hkn := ho.lt k (List.mem_of_getElem? hk)
    have q0 := (hq k (by omega)).1
    obtain ⟨h1, _⟩ := h i k hk
    rcases h1 with h1 | ⟨j, hj, hov, h1⟩
    · omega
    · obtain ⟨m, hm, e⟩ := take_idx hj
      have h2 := ih m hm j e
      have hjn := ho.lt j (List.mem_of_getElem? e)
      obtain ⟨x1, y1⟩ := List.getElem?_eq_some_iff.mp e
      obtain ⟨x2, y2⟩ := List.getElem?_eq_some_iff.mp hk
      have h3 := List.pairwise_iff_getElem.mp hs m i x1 x2 hm
      rw [y1, y2] at h3
      have hne : j ≠ k := fun z => by
        have := List.pairwise_iff_getElem.mp (List.nodup_iff_pairwise_ne.mp ho.nodup) m i x1 x2 hm
        exact this (by rw [y1, y2, z])
      have hpk := hp k hkn
      rcases ap j k hjn hkn hne hov with c | c <;> omega
theorem fct_pos' : ∀ m, 0 < fct m
  | 0 => by decide
  | m + 1 => by unfold fct; exact Nat.mul_pos (Nat.succ_pos _) (fct_pos' m)
theorem perm_all : ∀ (m : Nat) (xs l : List Nat), xs.length = m → l.Perm xs → ∃ k, k < fct m ∧ permIx m k xs = l
  | 0, xs, l, hx, hl => ⟨0, by decide, by
      have : l = [] := List.length_eq_zero_iff.mp (by rw [hl.length_eq, hx])
      rw [this]; rfl⟩
  | m + 1, xs, [], hx, hl => by have := hl.length_eq; rw [hx] at this; simp at this
  | m + 1, xs, x :: l, hx, hl => by
    have hmem : x ∈ xs := hl.mem_iff.mp List.mem_cons_self
    have hq : xs.idxOf x < xs.length := List.idxOf_lt_length_of_mem hmem
    have he : xs.erase x = xs.eraseIdx (xs.idxOf x) := List.erase_eq_eraseIdx_of_idxOf rfl
    have hl' : l.Perm (xs.eraseIdx (xs.idxOf x)) := by
      rw [← he]
      exact (List.cons_perm_iff_perm_erase.mp hl).2
    obtain ⟨k', h1, h2⟩ := perm_all m (xs.eraseIdx (xs.idxOf x)) l (by rw [List.length_eraseIdx_of_lt hq]; omega) hl'
    have hf := fct_pos' m
    have ed : (k' + xs.idxOf x * fct m) / fct m = xs.idxOf x := by rw [Nat.add_mul_div_right _ _ hf, Nat.div_eq_of_lt h1, Nat.zero_add]
    have em : (k' + xs.idxOf x * fct m) % fct m = k' := by rw [Nat.add_mul_mod_self_right, Nat.mod_eq_of_lt h1]
    refine ⟨k' + xs.idxOf x * fct m, ?_, ?_⟩
    · have h3 : (xs.idxOf x + 1) * fct m ≤ (m + 1) * fct m := Nat.mul_le_mul_right _ (by omega)
      rw [Nat.add_mul, Nat.one_mul] at h3
      show _ < (m + 1) * fct m
      omega
    · rw [permIx, ed, em, h2]
      congr 1
      rw [List.getD_eq_getElem?_getD, List.getElem?_eq_getElem hq]
      simp
theorem chosen_best {lv : List (Int × Int)} {sz pl ql : List Int} {room : Int} (h : Chosen lv sz pl) (hls : sz.length = lv.length) (h5 : lv.length ≤ 5) (hp : Pos1 lv.length sz) (h0 : 0 ≤ room) (hq : PV lv sz room ql) (hl : ql.length = lv.length) : wds sz pl ≤ room := by
  obtain ⟨_, _, hall⟩ := h
  have hperm := List.mergeSort_perm (List.range lv.length) fun i j => decide (ia ql i ≤ ia ql j)
  have hsort := List.pairwise_mergeSort (le := fun i j => decide (ia ql i ≤ ia ql j)) (fun a b c h1 h2 => by
      have h1 := of_decide_eq_true h1
      have h2 := of_decide_eq_true h2
      exact decide_eq_true (by omega)) (fun a b => by
      rw [Bool.or_eq_true, decide_eq_true_iff, decide_eq_true_iff]
      omega) (List.range lv.length)
  obtain ⟨k, hk, ek⟩ := perm_all lv.length (List.range lv.length) _ List.length_range hperm
  obtain ⟨pl', hl', st, hle⟩ := hall h5 k hk
  rw [ek] at st
  have ho : OrdR lv.length ((List.range lv.length).mergeSort fun i j => decide (ia ql i ≤ ia ql j)) := hperm
  have hfit := fit_le44 st ho hp hq hl (hsort.imp fun z => of_decide_eq_true z)
  refine Int.le_trans hle (wds_le h0 fun j hj _ => ?_)
  obtain ⟨i, hi⟩ := List.getElem?_of_mem (ho.mem_iff.mpr (List.mem_range.mpr (show j < lv.length by omega)))
  have h1 := hfit i j hi
  have h2 := (hq j (by omega)).2.1
  omega
theorem Chosen.good {lv : List (Int × Int)} {sz pl : List Int} (h : Chosen lv sz pl) (hp : Pos1 lv.length sz) : GoodP lv sz pl := by
  obtain ⟨hl, ⟨od, ho, st⟩, _⟩ := h
  exact stk_good st ho hp hl
theorem Chosen.sum {lv : List (Int × Int)} {sz pl : List Int} (h : Chosen lv sz pl) (hls : sz.length = lv.length) (hp : Pos1 lv.length sz) : wds sz pl ≤ sz.sum := by
  obtain ⟨hl, ⟨od, ho, st⟩, _⟩ := h
  rw [← hls] at ho hp
  exact stk_sum st ho hp

section
variable {P : Program} {w : World} {K : PySem.W.Frag} {mg : Str → Option Value} {base : Heap}
def spMeets (K : PySem.W.Frag) : Sp := fun vs H Q _ => ∃ (a : Addr) (lv : List (Int × Int)) (j k : Nat), vs = [.ref a, .int (j : Int), .int (k : Int)] ∧ LvT H a lv ∧ j < lv.length ∧ k < lv.length ∧ Q (.bl (ovl (lvA lv j) (lvA lv k))) H
abbrev nLm : List Str := ["lives", "j", "k"]
theorem scLm : FnScope nLm ["lives", "j", "k"] (defScope sMeets) := ⟨rfl, rfl, rfl, by decide +kernel, rfl, by decide +kernel, by decide +kernel⟩
theorem ok_meets {f : Addr} {fd : FuncData} (F : Fun K "_law_meets" "_law_meets" sMeets f fd) : FnOk P w K mg base CX0 1 f fd ["lives", "j", "k"] (spMeets K) := by
  refine F.ok scLm (fun vs H Q E h => ?_) (fun cdv A outer s H vs Q E hr h => ?_)
  · obtain ⟨a, lv, j, k, rfl, _⟩ := h
    rfl
  · obtain ⟨a, lv, j, k, rfl, ⟨ts, ha, hx⟩, hj, hk, hq⟩ := h
    obtain ⟨t1, _, t2, t3⟩ := hx.at hj
    obtain ⟨u1, _, u2, u3⟩ := hx.at hk
    refine ⟨_, (pss_one (ps_ret (pe_and (pe_cmpR op_le (pe_ix ix_tup (pe_ix ix_tup (pv 0) (pv 1) (fun _ _ => rfl)) pe_int (fun _ _ => rfl)) (pe_ix ix_tup (pe_ix ix_tup (pv 0) (pv 2) (fun _ _ => rfl)) pe_int (fun _ _ => rfl)) (nomark _)) (pe_one (pe_cmpR op_le (pe_ix ix_tup (pe_ix ix_tup (pv 0) (pv 2) (fun _ _ => rfl)) pe_int (fun _ _ => rfl)) (pe_ix ix_tup (pe_ix ix_tup (pv 0) (pv 1) (fun _ _ => rfl)) pe_int (fun _ _ => rfl)) (nomark _)))))), ?_⟩
    refine ⟨_, rfl, _, rfl, a, _, _, _, rfl, rfl, SqT.of ha, atI_nat t2, t1, _, 0, _, rfl, rfl, SqT.of t3, rfl, _, rfl, _, rfl, a, _, _, _, rfl, rfl, SqT.of ha, atI_nat u2, u1, _, 1, _, rfl, rfl, SqT.of u3, rfl, _, _, rfl, rfl, _, rfl, ite2 (fun e => ?_) (fun e => ?_)⟩
    · refine ⟨_, rfl, _, rfl, a, _, _, _, rfl, rfl, SqT.of ha, atI_nat u2, u1, _, 0, _, rfl, rfl, SqT.of u3, rfl, _, rfl, _, rfl, a, _, _, _, rfl, rfl, SqT.of ha, atI_nat t2, t1, _, 1, _, rfl, rfl, SqT.of t3, rfl, _, _, rfl, rfl, ?_⟩
      unfold ovl at hq
      rw [e, Bool.true_and] at hq
      exact hq
    · unfold ovl at hq
      rw [Bool.eq_false_iff.mpr e, Bool.false_and] at hq
      exact hq
def spGood (K : PySem.W.Frag) : Sp := fun vs H Q _ => ∃ (a b c : Addr) (lv : List (Int × Int)) (sz pl : List Int), vs = [.ref a, .ref b, .ref c] ∧ LvT H a lv ∧ H b = some (.tup (sz.map V.int)) ∧ H c = some (.tup (pl.map V.int)) ∧ sz.length = lv.length ∧ pl.length = lv.length ∧ lv.length ≤ 900 ∧ GoodP lv sz pl ∧ Q (.bl true) H
abbrev nLg : List Str := ["lives", "sizes", "places", "k", "j", "apart"]
theorem scLg : FnScope nLg ["lives", "sizes", "places"] (defScope sGood) := ⟨rfl, rfl, rfl, by decide +kernel, rfl, by decide +kernel, by decide +kernel⟩
theorem ok_good {f : Addr} {fd : FuncData} (F : Fun K "_law_good" "_law_good" sGood f fd) (T : TxtP mg) (cN : Calls P w K mg base CX0 1 "_law_int" ["actual"] spInt) (cLm : Calls P w K mg base CX0 1 "_law_meets" ["lives", "j", "k"] (spMeets K)) : FnOk P w K mg base CX0 2 f fd ["lives", "sizes", "places"] (spGood K) := by
  obtain ⟨fN, dN, GN, kN, bN, gN⟩ := cN.ex
  obtain ⟨fLm, dLm, GLm, kLm, bLm, gLm⟩ := cLm.ex
  refine F.ok scLg (fun vs H Q E h => ?_) (fun cdv A outer s H vs Q E hr1 h => ?_)
  · obtain ⟨a, b, c, lv, sz, pl, rfl, _⟩ := h
    rfl
  · obtain ⟨a, b, c, lv, sz, pl, rfl, hL, hb, hc, hls, hlp, hlv, hg, q⟩ := h
    refine ⟨_, (pss_cons (ps_for PassesOwn.never rfl (pi_range1 rfl T.range (pa_cons (pe_callB call_len_seq (by rfl) T.len PySem.boot_len (pa_cons (pv 2) pa_nil)) pa_nil)) (pg_name (i := 3) scLg.nd rfl (.inl rfl)) (pss_cons (ps_if (PW.pt (pw_or (pt_not (pt_val (pe_call GN hr1 (by rfl) gN kN bN .nil pass0 (pa_cons (pe_ix ix_tup (pv 2) (pv 3) (fun _ _ => rfl)) pa_nil)))) (pw_or1 (pt_cmpR op_lt (pe_ix ix_tup (pv 2) (pv 3) (fun _ _ => rfl)) pe_int (nomark _))))) (pss_one (ps_ret pe_bl)) pss_nil)
      (pss_one (ps_for PassesOwn.never rfl (pi_range1 rfl T.range (pa_cons (pv 3) pa_nil)) (pg_name (i := 4) scLg.nd rfl (.inl rfl)) (Evl.pss_cut (ps_set (i := 5) scLg.nd rfl (.inl rfl) (pe_or (pe_cmpR op_le (pe_op op_add (pe_ix ix_tup (pv 2) (pv 4) (fun _ _ => rfl)) (pe_ix ix_tup (pv 1) (pv 4) (fun _ _ => rfl))) (pe_ix ix_tup (pv 2) (pv 3) (fun _ _ => rfl)) (nomark _)) (pe_one (pe_cmpR op_le (pe_op op_add (pe_ix ix_tup (pv 2) (pv 3) (fun _ _ => rfl)) (pe_ix ix_tup (pv 1) (pv 3) (fun _ _ => rfl))) (pe_ix ix_tup (pv 2) (pv 4) (fun _ _ => rfl)) (nomark _)))))
      (pss_one (ps_if (PW.pt (pw_and (pt_val (pe_call GLm hr1 (by rfl) gLm kLm bLm .nil pass0 (pa_cons (pv 0) (pa_cons (pv 4) (pa_cons (pv 3) pa_nil))))) (pw_and1 (pt_not (pt_val (pv 5)))))) (pss_one (ps_ret pe_bl)) pss_nil)))))))
      (pss_one (ps_ret pe_bl))), ?_⟩
    refine ⟨_, rfl, c, _, rfl, .inr (SqT.of hc), _, rfl, ?_⟩
    rw [List.length_map]
    refine ⟨by omega, by omega, for_range (lo := 0) (n := pl.length) (fun i σ H' => ∃ (v3 v4 v5 : Option V), σ = [some (.ref a), some (.ref b), some (.ref c), v3, v4, v5] ∧ H' = H) ⟨none, none, none, rfl, rfl⟩ ?_ ?_⟩
    · rintro k σ H' hk ⟨v3, v4, v5, rfl, rfl⟩
      rw [Int.zero_add]
      obtain ⟨g0, g1⟩ := hg k hk
      refine ⟨_, rfl, _, rfl, c, _, _, _, rfl, rfl, SqT.of hc, vatD hk, _, rfl, _, rfl, iteF ⟨_, rfl, _, rfl, c, _, _, _, rfl, rfl, SqT.of hc, vatD hk, _, _, rfl, rfl, _, rfl, ite2 (fun e => absurd (show ia pl k < 0 from of_decide_eq_true e) (by omega)) (fun e => ?_)⟩⟩
      refine ⟨_, rfl, _, rfl, by omega, by omega, for_range (lo := 0) (n := ((k : Nat) : Int).toNat) (fun j σ H'' => ∃ (v4 v5 : Option V), σ = [some (.ref a), some (.ref b), some (.ref c), some (.int (k : Int)), v4, v5] ∧ H'' = H') ⟨v4, v5, rfl, rfl⟩ ?_ ?_⟩
      · rintro j σ H'' hj ⟨v4, v5, rfl, rfl⟩
        rw [Int.zero_add]
        rw [Int.toNat_natCast] at hj
        have j1 : j < pl.length := by omega
        refine ⟨fun σ' H3 => σ' = [some (.ref a), some (.ref b), some (.ref c), some (.int (k : Int)), some (.int (j : Int)), some (.bl (decide (ia pl j + ia sz j ≤ ia pl k ∨ ia pl k + ia sz k ≤ ia pl j)))] ∧ H3 = H'', ?_, ?_⟩
        · refine ⟨_, rfl, _, rfl, c, _, _, _, rfl, rfl, SqT.of hc, vatD j1, _, rfl, _, rfl, b, _, _, _, rfl, rfl, SqT.of hb, vatD (by omega), _, _, rfl, rfl, _, rfl, _, rfl, c, _, _, _, rfl, rfl, SqT.of hc, vatD hk, _, _, rfl, rfl, _, rfl, ite2 (fun e => ?_) (fun e => ?_)⟩
          · have e := of_decide_eq_true e
            exact ⟨by rw [decide_eq_true (Or.inl e : ia pl j + ia sz j ≤ ia pl k ∨ ia pl k + ia sz k ≤ ia pl j)]; rfl, rfl⟩
          · have e : ¬ ia pl j + ia sz j ≤ ia pl k := fun z => e (decide_eq_true z)
            refine ⟨_, rfl, _, rfl, c, _, _, _, rfl, rfl, SqT.of hc, vatD hk, _, rfl, _, rfl, b, _, _, _, rfl, rfl, SqT.of hb, vatD (by omega), _, _, rfl, rfl, _, rfl, _, rfl, c, _, _, _, rfl, rfl, SqT.of hc, vatD j1, _, _, rfl, rfl, ?_, rfl⟩
            rw [show decide (ia pl j + ia sz j ≤ ia pl k ∨ ia pl k + ia sz k ≤ ia pl j) = decide (ia pl k + ia sz k ≤ ia pl j) from decide_eq_decide.mpr ⟨fun z => z.resolve_left e, .inr⟩]
            rfl
        · rintro σ' H3 ⟨rfl, rfl⟩
          refine ⟨_, rfl, _, rfl, _, rfl, a, lv, j, k, rfl, hL, by omega, by omega, _, rfl, ite2 (fun e => ⟨_, rfl, _, rfl, ?_⟩) (fun e => iteF ⟨_, _, rfl, rfl⟩)⟩
          have ap : ia pl j + ia sz j ≤ ia pl k ∨ ia pl k + ia sz k ≤ ia pl j := g1 j hj e
          rw [decide_eq_true ap]
          exact iteF ⟨_, _, rfl, rfl⟩
      · rintro σ H'' ⟨v4, v5, rfl, rfl⟩
        exact ⟨_, _, _, rfl, rfl⟩
    · rintro σ H' ⟨v3, v4, v5, rfl, rfl⟩
      exact q
end

section
variable {P : Program} {w : World} {K : PySem.W.Frag} {mg : Str → Option Value} {base : Heap}
def spFits (K : PySem.W.Frag) : Nat → Sp := fun n vs H Q _ => ∃ (a b p : Addr) (lv : List (Int × Int)) (sz ql : List Int) (room : Int), vs = [.ref a, .ref b, .int room, .ref p] ∧ lv.length < ql.length + n ∧ ql.length ≤ lv.length ∧ LvT H a lv ∧ H b = some (.tup (sz.map V.int)) ∧ H p = some (.lst (ql.map V.int)) ∧
  sz.length = lv.length ∧ lv.length ≤ 5 ∧ (∀ k, k < lv.length → 0 < ia sz k ∧ ia sz k ≤ 1000) ∧ -(2 ^ 40) < room ∧ room < 2 ^ 40 ∧ PV lv sz room ql ∧
  ∀ H' b', Same H H' → (b' = true → ∃ q', q'.length = lv.length ∧ PV lv sz room q') → Q (.bl b') H'
theorem ia_app {ql : List Int} {x : Int} {k : Nat} (h : k < ql.length) : ia (ql ++ [x]) k = ia ql k := by
  unfold ia
  rw [List.getD_eq_getElem?_getD, List.getD_eq_getElem?_getD, List.getElem?_append_left h]
theorem ia_end {ql : List Int} {x : Int} : ia (ql ++ [x]) ql.length = x := by
  unfold ia
  rw [List.getD_eq_getElem?_getD, List.getElem?_append_right (Nat.le_refl _), Nat.sub_self]
  rfl
theorem PV.snoc {lv : List (Int × Int)} {sz ql : List Int} {room x : Int} (h : PV lv sz room ql) (h0 : 0 ≤ x) (h1 : x + ia sz ql.length ≤ room)
    (h2 : ∀ m, m < ql.length → ovl (lvA lv m) (lvA lv ql.length) = true → ia ql m + ia sz m ≤ x ∨ x + ia sz ql.length ≤ ia ql m) : PV lv sz room (ql ++ [x]) := by
  intro k hk
  rw [List.length_append, List.length_singleton] at hk
  by_cases e : k < ql.length
  · obtain ⟨a1, a2, a3⟩ := h k e
    rw [ia_app e]
    refine ⟨a1, a2, fun j hj ho => ?_⟩
    unfold Apart
    rw [ia_app e, ia_app (by omega)]
    exact a3 j hj ho
  · have e : k = ql.length := by omega
    subst e
    rw [ia_end]
    refine ⟨h0, h1, fun j hj ho => ?_⟩
    unfold Apart
    rw [ia_end, ia_app hj]
    exact h2 j hj ho
abbrev nLf : List Str := ["lives", "sizes", "room", "places", "k", "at", "good", "j", "apart"]
theorem scLf : FnScope nLf ["lives", "sizes", "room", "places"] (defScope sFits) := ⟨rfl, rfl, rfl, by decide +kernel, rfl, by decide +kernel, by decide +kernel⟩
theorem ok_fits {f : Addr} {fd : FuncData} (F : Fun K "_law_fits" "_law_fits" sFits f fd) (T : TxtP mg) (cLm : Calls P w K mg base CX0 1 "_law_meets" ["lives", "j", "k"] (spMeets K)) (kLf : PySem.W.keepIn K (.ref f) = true) (bLf : Binds K fd ["lives", "sizes", "room", "places"] []) (gLf : mg "_law_fits" = some (.ref f)) :
    ∀ n : Nat, n ≤ 6 → FnOk P w K mg base CX0 (n + 2) f fd ["lives", "sizes", "room", "places"] (spFits K n) := by
  obtain ⟨fLm, dLm, GLm, kLm, bLm, gLm⟩ := cLm.ex
  intro n
  induction n with
  | zero => exact fun _ => ⟨fun vs H Q E h => (by obtain ⟨_, _, _, _, _, _, _, _, h1, h2, _⟩ := h; exact absurd h1 (by omega)), fun A o s H args us vs Q E _ _ _ _ h => (by obtain ⟨_, _, _, _, _, _, _, _, h1, h2, _⟩ := h; exact absurd h1 (by omega))⟩
  | succ n ih =>
  intro hn6
  have GLf := ih (by omega)
  refine F.ok scLf (fun vs H Q E h => ?_) (fun cdv A outer s H vs Q E hrn h => ?_)
  · obtain ⟨a, b, p, lv, sz, ql, room, rfl, _⟩ := h
    rfl
  · obtain ⟨a, b, p, lv, sz, ql, room, rfl, hlt, hle, hL, hb, hp, hls, hlv, hpos, hr0, hr9, hpv, q⟩ := h
    have hr1 : Room 1 _ := hrn.mono (by omega)
    have hrs : Room (n + 2) _ := hrn.mono (by omega)
    refine ⟨_, (pss_cons (ps_set (i := 4) scLf.nd rfl (.inl rfl) (pe_callB call_len_seq (by rfl) T.len PySem.boot_len (pa_cons (pv 3) pa_nil)))
      (pss_cons (ps_if (pt_cmpR op_eq (pv 4) (pe_callB call_len_seq (by rfl) T.len PySem.boot_len (pa_cons (pv 1) pa_nil)) (nomark _)) (pss_one (ps_ret pe_bl)) pss_nil)
      (pss_cons (ps_for PassesOwn.never rfl (pi_range1 rfl T.range (pa_cons (pe_op op_add (pe_op op_sub (pv 2) (pe_ix ix_tup (pv 1) (pv 4) (fun _ _ => rfl))) pe_int) pa_nil)) (pg_name (i := 5) scLf.nd rfl (.inl rfl)) (pss_cons (ps_set (i := 6) scLf.nd rfl (.inl rfl) pe_bl)
      (pss_cons (ps_for PassesOwn.never rfl (pi_range1 rfl T.range (pa_cons (pv 4) pa_nil)) (pg_name (i := 7) scLf.nd rfl (.inl rfl)) (Evl.pss_cut (ps_set (i := 8) scLf.nd rfl (.inl rfl) (pe_or (pe_cmpR op_le (pe_op op_add (pe_ix ix_list (pv 3) (pv 7) (fun _ _ => rfl)) (pe_ix ix_tup (pv 1) (pv 7) (fun _ _ => rfl))) (pv 5) (nomark _)) (pe_one (pe_cmpR op_le (pe_op op_add (pv 5) (pe_ix ix_tup (pv 1) (pv 4) (fun _ _ => rfl))) (pe_ix ix_list (pv 3) (pv 7) (fun _ _ => rfl)) (nomark _)))))
      (pss_one (ps_if (PW.pt (pw_and (pt_val (pe_call GLm hr1 (by rfl) gLm kLm bLm .nil pass0 (pa_cons (pv 0) (pa_cons (pv 7) (pa_cons (pv 4) pa_nil))))) (pw_and1 (pt_not (pt_val (pv 8)))))) (pss_one (ps_set (i := 6) scLf.nd rfl (.inl rfl) pe_bl)) pss_nil))))
      (pss_one (ps_if (PW.pt (pw_and (pt_val (pv 6)) (pw_and1 (pt_val (pe_call GLf hrs (by rfl) gLf kLf bLf .nil pass0 (pa_cons (pv 0) (pa_cons (pv 1) (pa_cons (pv 2) (pa_cons (pe_op op_cat (pv 3) (pe_lst (pa_cons (pv 5) pa_nil))) pa_nil))))))))) (pss_one (ps_ret pe_bl)) pss_nil)))))
      (pss_one (ps_ret pe_bl))))), ?_⟩
    refine ⟨_, rfl, p, _, rfl, .inl (SqL.of hp), ?_⟩
    rw [List.length_map]
    refine ⟨_, rfl, _, rfl, b, _, rfl, .inr (SqT.of hb), rfl, _, rfl, ?_⟩
    rw [List.length_map, hls]
    by_cases hk : ql.length = lv.length
    · rw [hk, decide_eq_true rfl]
      exact iteT (q _ true (Same.refl H) fun _ => ⟨ql, hk, hpv⟩)
    · rw [decide_eq_false (fun z => hk (by injection z; omega))]
      refine iteF ?_
      have hkl : ql.length < lv.length := by omega
      obtain ⟨p1, p2⟩ := hpos ql.length hkl
      have p3 : 0 < sz.getD ql.length 0 := p1
      have p4 : sz.getD ql.length 0 ≤ 1000 := p2
      refine ⟨_, rfl, _, rfl, _, rfl, b, _, _, _, rfl, rfl, SqT.of hb, vatD (by omega), _, _, rfl, rfl, _, _, rfl, rfl, _, rfl, by omega, by omega, for_range (lo := 0) (n := (room - ia sz ql.length + 1).toNat)
        (fun i σ H' => ∃ (v5 v6 v7 v8 : Option V), σ = [some (.ref a), some (.ref b), some (.int room), some (.ref p), some (.int (ql.length : Int)), v5, v6, v7, v8] ∧ Same H H') ⟨none, none, none, none, rfl, Same.refl H⟩ ?_ ?_⟩
      · rintro i σ H' hi ⟨v5, v6, v7, v8, rfl, sm⟩
        rw [Int.zero_add]
        have hiR : (i : Int) + ia sz ql.length ≤ room := by omega
        have hb' := sm _ _ hb
        have hp' := sm _ _ hp
        refine ⟨_, rfl, _, rfl, by omega, by omega, for_range (lo := 0) (n := ((ql.length : Nat) : Int).toNat) (fun j σ H'' => ∃ (g : Bool) (v7 v8 : Option V), σ = [some (.ref a), some (.ref b), some (.int room), some (.ref p), some (.int (ql.length : Int)), some (.int (i : Int)), some (.bl g), v7, v8] ∧ H'' = H' ∧
            (g = true → ∀ m, m < j → ovl (lvA lv m) (lvA lv ql.length) = true → ia ql m + ia sz m ≤ (i : Int) ∨ (i : Int) + ia sz ql.length ≤ ia ql m)) ⟨true, v7, v8, rfl, rfl, fun _ m hm => absurd hm (Nat.not_lt_zero _)⟩ ?_ ?_⟩
        · rintro j σ H'' hj ⟨g, v7, v8, rfl, rfl, hg⟩
          rw [Int.zero_add]
          rw [Int.toNat_natCast] at hj
          refine ⟨fun σ' H3 => σ' = [some (.ref a), some (.ref b), some (.int room), some (.ref p), some (.int (ql.length : Int)), some (.int (i : Int)), some (.bl g), some (.int (j : Int)), some (.bl (decide (ia ql j + ia sz j ≤ (i : Int) ∨ (i : Int) + ia sz ql.length ≤ ia ql j)))] ∧ H3 = H'', ?_, ?_⟩
          · refine ⟨_, rfl, _, rfl, p, _, _, _, rfl, rfl, SqL.of hp', vatD hj, _, rfl, _, rfl, b, _, _, _, rfl, rfl, SqT.of hb', vatD (by omega), _, _, rfl, rfl, _, rfl, _, _, rfl, rfl, _, rfl, ite2 (fun e => ?_) (fun e => ?_)⟩
            · have e := of_decide_eq_true e
              exact ⟨by rw [decide_eq_true (Or.inl e : ia ql j + ia sz j ≤ (i : Int) ∨ (i : Int) + ia sz ql.length ≤ ia ql j)]; rfl, rfl⟩
            · have e : ¬ ia ql j + ia sz j ≤ (i : Int) := fun z => e (decide_eq_true z)
              refine ⟨_, rfl, _, rfl, _, rfl, b, _, _, _, rfl, rfl, SqT.of hb', vatD (by omega), _, _, rfl, rfl, _, rfl, _, rfl, p, _, _, _, rfl, rfl, SqL.of hp', vatD hj, _, _, rfl, rfl, ?_, rfl⟩
              rw [show decide (ia ql j + ia sz j ≤ (i : Int) ∨ (i : Int) + ia sz ql.length ≤ ia ql j) = decide ((i : Int) + ia sz ql.length ≤ ia ql j) from decide_eq_decide.mpr ⟨fun z => z.resolve_left e, .inr⟩]
              rfl
          · rintro σ' H3 ⟨rfl, rfl⟩
            have keep : ∀ g' : Bool, (g' = true → g = true ∧ (ovl (lvA lv j) (lvA lv ql.length) = true → ia ql j + ia sz j ≤ (i : Int) ∨ (i : Int) + ia sz ql.length ≤ ia ql j)) → g' = true → ∀ m, m < j + 1 → ovl (lvA lv m) (lvA lv ql.length) = true → ia ql m + ia sz m ≤ (i : Int) ∨ (i : Int) + ia sz ql.length ≤ ia ql m := fun g' hg' eg m hm ho => by
              by_cases em : m = j
              · subst em
                exact (hg' eg).2 ho
              · exact hg (hg' eg).1 m (by omega) ho
            refine ⟨_, rfl, _, rfl, _, rfl, a, lv, j, ql.length, rfl, hL.same sm, by omega, by omega, _, rfl, ite2 (fun e => ⟨_, rfl, _, rfl, ?_⟩) (fun e => iteF ⟨g, _, _, rfl, rfl, keep g fun eg => ⟨eg, fun z => absurd z e⟩⟩)⟩
            by_cases ap : ia ql j + ia sz j ≤ (i : Int) ∨ (i : Int) + ia sz ql.length ≤ ia ql j
            · rw [decide_eq_true ap]
              exact iteF ⟨g, _, _, rfl, rfl, keep g fun eg => ⟨eg, fun _ => ap⟩⟩
            · rw [decide_eq_false ap]
              exact iteT ⟨false, _, _, rfl, rfl, fun z => absurd z (by decide)⟩
        · rintro σ H'' ⟨g, v7, v8, rfl, rfl, hg⟩
          rw [Int.toNat_natCast] at hg
          cases g with
          | false => exact ⟨_, rfl, _, rfl, iteF (iteF ⟨_, _, _, _, rfl, sm⟩)⟩
          | true =>
            refine ⟨_, rfl, _, rfl, iteT ⟨_, rfl, _, rfl, _, rfl, _, rfl, _, rfl, (show 1 ≤ sizeLine by decide), fun r nr => ⟨p, r, _, _, rfl, rfl, same_upd nr _ _ hp', upd_same, ?_, fun r2 nr2 => ?_⟩⟩⟩
            · rw [List.length_map]
              exact Nat.le_of_lt (small1000 (by show ql.length + 1 ≤ 1000; omega))
            have s2 := (same_upd (o := .lst [.int (i : Int)]) nr).trans (same_upd (o := .lst (ql.map V.int ++ [.int (i : Int)])) nr2)
            refine ⟨a, b, r2, lv, sz, ql ++ [(i : Int)], room, rfl, by rw [List.length_append, List.length_singleton]; omega, by rw [List.length_append, List.length_singleton]; omega, (hL.same sm).same s2, s2 _ _ hb', by rw [upd_same, List.map_append]; rfl, hls, hlv, hpos, hr0, hr9, hpv.snoc (by omega) hiR (hg rfl), fun H4 b' s4 hb4 => ⟨_, rfl, ite2 (fun e => ?_) (fun e => ?_)⟩⟩
            · exact q _ true ((sm.trans s2).trans s4) fun _ => hb4 e
            · exact ⟨_, _, _, _, rfl, (sm.trans s2).trans s4⟩
      · rintro σ H' ⟨v5, v6, v7, v8, rfl, sm⟩
        exact q _ false sm fun z => absurd z (by decide)
end

section
open PySem.W LamX NdefX
variable {P : Program} {w : World} {K : PySem.W.Frag} {mg : Str → Option Value} {base : Heap}
theorem hfree_of {cells : List (Str × Addr)} {names : List (Str × NameKind)} (h : (names.all fun y => !decide (y.2 = .free) || (cells.lookup y.1).isSome) = true) : ∀ y ∈ names, y.2 = .free → ∃ c, cells.lookup y.1 = some c := by
  intro y hy e
  have := List.all_eq_true.mp h y hy
  rw [e] at this
  simpa [Option.isSome_iff_exists] using this
theorem mul_small {i j : Int} (h : (-100000 ≤ i ∧ i ≤ 100000) ∧ -100000 ≤ j ∧ j ≤ 100000) : IntMulOk (-i) j := IntMulOk.of_left (intBits_le_64 (by omega) (by omega))
structure KeyAt (a b ln : Addr) (ts : List Addr) (lv : List (Int × Int)) (sz le : List Int) (σ : L2.St) (H : Hp) (n : Nat) : Prop where
  s0 : σ[0]? = some (some (.ref a))
  s1 : σ[1]? = some (some (.ref b))
  s3 : σ[3]? = some (some (.ref ln))
  ha : H a = some (.tup (ts.map V.ref))
  hx : Tups H ts lv
  hb : H b = some (.tup (sz.map V.int))
  hl : H ln = some (.lst (le.map V.int))
  l1 : lv.length = n
  l2 : sz.length = n
  l3 : le.length = n
  n9 : n ≤ 900
  sm3 : ∀ i, (-100000 ≤ ia le i ∧ ia le i ≤ 100000) ∧ -100000 ≤ ia sz i ∧ ia sz i ≤ 100000
def lensOf (lv : List (Int × Int)) : List Int := lv.map fun p => p.2 - p.1 + 1
structure KF (a b ln : Addr) (ts : List Addr) (lv : List (Int × Int)) (sz le : List Int) (H : Hp) : Prop where
  ha : H a = some (.tup (ts.map V.ref))
  hx : Tups H ts lv
  hb : H b = some (.tup (sz.map V.int))
  hl : H ln = some (.lst (le.map V.int))
theorem KF.ext {a b ln : Addr} {ts : List Addr} {lv : List (Int × Int)} {sz le : List Int} {H H' : Hp} (k : KF a b ln ts lv sz le H) (e : ExtN H H') : KF a b ln ts lv sz le H' :=
  ⟨e _ _ k.ha (fun _ z => nomatch z), k.hx.keep fun b xs h => e _ _ h (fun _ z => nomatch z), e _ _ k.hb (fun _ z => nomatch z), e _ _ k.hl (fun _ z => nomatch z)⟩
theorem KF.key {a b ln : Addr} {ts : List Addr} {lv : List (Int × Int)} {sz le : List Int} {H : Hp} {σ : L2.St} {n : Nat} (k : KF a b ln ts lv sz le H) (s0 : σ[0]? = some (some (.ref a))) (s1 : σ[1]? = some (some (.ref b))) (s3 : σ[3]? = some (some (.ref ln)))
    (l1 : lv.length = n) (l2 : sz.length = n) (l3 : le.length = n) (n9 : n ≤ 900) (sm3 : ∀ i, (-100000 ≤ ia le i ∧ ia le i ≤ 100000) ∧ -100000 ≤ ia sz i ∧ ia sz i ≤ 100000) : KeyAt a b ln ts lv sz le σ H n :=
  ⟨s0, s1, s3, k.ha, k.hx, k.hb, k.hl, l1, l2, l3, n9, sm3⟩
def keyD1 (lv : List (Int × Int)) (sz le : List Int) (i : Nat) : PyData := .tuple [.int (-(ia sz i)), .tuple [.int (lvA lv i).1, .int (lvA lv i).2]]
def keyD2 (lv : List (Int × Int)) (sz le : List Int) (i : Nat) : PyData := .tuple [.int (-(ia le i)), .int (-(ia sz i))]
def keyD3 (lv : List (Int × Int)) (sz le : List Int) (i : Nat) : PyData := .int (-(ia le i) * ia sz i)
def keyD4 (lv : List (Int × Int)) (sz le : List Int) (i : Nat) : PyData := .tuple [.int (lvA lv i).1, .int (lvA lv i).2]
def key1 (σ : L2.St) (H : Hp) (n : Nat) (k : Nat → PyData) : Prop := ∃ a b ln ts lv sz le, KeyAt a b ln ts lv sz le σ H n ∧ k = keyD1 lv sz le
def key2 (σ : L2.St) (H : Hp) (n : Nat) (k : Nat → PyData) : Prop := ∃ a b ln ts lv sz le, KeyAt a b ln ts lv sz le σ H n ∧ k = keyD2 lv sz le
def key3 (σ : L2.St) (H : Hp) (n : Nat) (k : Nat → PyData) : Prop := ∃ a b ln ts lv sz le, KeyAt a b ln ts lv sz le σ H n ∧ k = keyD3 lv sz le
def key4 (σ : L2.St) (H : Hp) (n : Nat) (k : Nat → PyData) : Prop := ∃ a b ln ts lv sz le, KeyAt a b ln ts lv sz le σ H n ∧ k = keyD4 lv sz le
abbrev nOr : List Str := ["all_lives", "sizes", "many", "lengths", "first", "last"]
theorem scOr : FnScope nOr ["all_lives", "sizes"] (defScope sOrders) := ⟨rfl, rfl, rfl, by decide +kernel, rfl, by decide +kernel, by decide +kernel⟩
theorem ok_orders {f c0 P0 : Addr} {oc kV doc pm ct : Value} {od an : Option Addr} {osl : Array (Option Value)} (lk : K.lookup f = some ⟨oc, od, .func (PySem.W.fnOf "_promising_orders" "_promising_orders" (defArgs sOrders) (defBody sOrders) (defScope sOrders) .none kV doc pm an (.ref c0) ct), osl⟩)
    (hcd : PySem.W.codeIn K (.ref c0) "_promising_orders" = true) (TB : LamX.TabB base mg c0 P0) (T : TxtP mg) (ms : mg "sorted" = none) : FnOk P w K mg base CX0 3 f (PySem.W.fnOf "_promising_orders" "_promising_orders" (defArgs sOrders) (defBody sOrders) (defScope sOrders) .none kV doc pm an (.ref c0) ct) ["all_lives", "sizes"] (spOrders K P0) := by
  refine fn_of lk hcd scOr (fun vs H Q E h => ?_) fun A outer s H vs Q E hr2 h => ?_
  · obtain ⟨a, b, lv, sz, rfl, _⟩ := h
    rfl
  · obtain ⟨a, b, lv, sz, rfl, ⟨ts, ha, hx⟩, hb, hls, hlv, hsm, hTb, q⟩ := h
    have core : ∃ t, PSs (cxOf CX0 P w K mg base nOr "_promising_orders" (defScope sOrders) f (.ref c0) A outer s H E).nox (defBody sOrders) t ∧ t { nx := fun _ H' => Q .non H', rt := Q } (L2.start nOr [.ref a, .ref b]) H := by
      refine ⟨_, (pss_cons (ps_set (i := 2) scOr.nd rfl (.inl rfl) (pe_callB call_len_seq (by rfl) T.len PySem.boot_len (pa_cons (pv 1) pa_nil)))
      (pss_cons (ps_set (i := 3) scOr.nd rfl (.inr rfl) (pe_lc (own := [("first", 4), ("last", 5)]) (g := (gTup K 2 (gCons (gName 4) (gCons (gName 5) gNil)))) (tt := tYes) (te := (tOp (rI0 fun i j => .int (i + j)) (tOp (rI0 fun i j => .int (i - j)) (tVar 5) (tVar 4)) (tC (.int 1)))) rfl scOr.nd (pi_tup (pv 0)) (blkOk_by (N := nOr) (sc := defScope sOrders) (by decide +kernel)) (fun _ _ _ _ _ => (pg_tup rfl (pgs_cons (pg_name (i := 4) scOr.nd rfl (.inl rfl) (hf := Or.inr rfl)) (pgs_cons (pg_name (i := 5) scOr.nd rfl (.inl rfl) (hf := Or.inr rfl)) pgs_nil)))) (fun _ _ _ _ _ => pts_nil) (fun _ _ _ _ _ => (pe_op op_add (pe_op op_sub (pv 5) (pv 4)) pe_int))))
      (pss_one (ps_ret (pe_tup (pa_cons (pe_sortLam (T := TabsO P0) (c := c0) (P := P0) (kx := "k") (KEY := key1) hr2 (by rfl) ms (by rfl) T.range (pv 2) TB (by rfl) (List.mem_singleton.mpr rfl) (fun p hp _ => by rw [List.mem_singleton.mp hp]; rfl) (by rfl) (hfree_of (by rfl)) (fun _ _ _ _ _ => rfl) (by rfl) (by rfl) (by rfl) (by rfl) (by decide) (fun _ _ _ _ _ _ I hK i hi h₁ L f' c' t A' up hns => by obtain ⟨a9, b9, l9, ts9, lv9, sz9, le9, K9, rfl⟩ := hK; have hn9 := K9.n9; obtain ⟨tt, _, t2, t3⟩ := K9.hx.at (show i < lv9.length by have := K9.l1; omega); exact pu_tup2 (Pur.imp (pu_neg (pu_cellsub I (j := 1) (by rfl) K9.s1 (by rfl) (.inl (SqT.of K9.hb)) (vat? (by have := K9.l2; omega)) (by omega) (hfree_of (by rfl)) (by decide) (by rfl) (by rfl) (by rfl) up hns)) fun h v ⟨t, e⟩ => by rw [e]; exact .int _ _) (Pur.up (pu_cellsub I (j := 0) (by rfl) K9.s0 (by rfl) (.inl (SqT.of K9.ha)) (t2) (by omega) (hfree_of (by rfl)) (by decide) (by rfl) (by rfl) (by rfl) up hns) fun h v kp e => by rw [(show v = Value.ref tt from e)]; exact reads_pair I t3 h (fun b o e => kp b o (up b o e))))) (pa_cons (pe_sortLam (T := TabsO P0) (c := c0) (P := P0) (kx := "k") (KEY := key2) hr2 (by rfl) ms (by rfl) T.range (pv 2) TB (by rfl) (List.mem_singleton.mpr rfl) (fun p hp _ => by rw [List.mem_singleton.mp hp]; rfl) (by rfl) (hfree_of (by rfl)) (fun _ _ _ _ _ => rfl) (by rfl) (by rfl) (by rfl) (by rfl) (by decide) (fun _ _ _ _ _ _ I hK i hi h₁ L f' c' t A' up hns => by obtain ⟨a9, b9, l9, ts9, lv9, sz9, le9, K9, rfl⟩ := hK; have hn9 := K9.n9; obtain ⟨tt, _, t2, t3⟩ := K9.hx.at (show i < lv9.length by have := K9.l1; omega); exact pu_tup2 (Pur.imp (pu_neg (pu_cellsub I (j := 3) (by rfl) K9.s3 (by rfl) (.inr (SqL.of K9.hl)) (vat? (by have := K9.l3; omega)) (by omega) (hfree_of (by rfl)) (by decide) (by rfl) (by rfl) (by rfl) up hns)) fun h v ⟨t, e⟩ => by rw [e]; exact .int _ _) (Pur.imp (pu_neg (pu_cellsub I (j := 1) (by rfl) K9.s1 (by rfl) (.inl (SqT.of K9.hb)) (vat? (by have := K9.l2; omega)) (by omega) (hfree_of (by rfl)) (by decide) (by rfl) (by rfl) (by rfl) up hns)) fun h v ⟨t, e⟩ => by rw [e]; exact .int _ _))) (pa_cons (pe_sortLam (T := TabsO P0) (c := c0) (P := P0) (kx := "k") (KEY := key3) hr2 (by rfl) ms (by rfl) T.range (pv 2) TB (by rfl) (List.mem_singleton.mpr rfl) (fun p hp _ => by rw [List.mem_singleton.mp hp]; rfl) (by rfl) (hfree_of (by rfl)) (fun _ _ _ _ _ => rfl) (by rfl) (by rfl) (by rfl) (by rfl) (by decide) (fun _ _ _ _ _ _ I hK i hi h₁ L f' c' t A' up hns => by obtain ⟨a9, b9, l9, ts9, lv9, sz9, le9, K9, rfl⟩ := hK; have hn9 := K9.n9; obtain ⟨tt, _, t2, t3⟩ := K9.hx.at (show i < lv9.length by have := K9.l1; omega); exact (Pur.imp (pu_mul (pu_neg (pu_cellsub I (j := 3) (by rfl) K9.s3 (by rfl) (.inr (SqL.of K9.hl)) (vat? (by have := K9.l3; omega)) (by omega) (hfree_of (by rfl)) (by decide) (by rfl) (by rfl) (by rfl) up hns)) (pu_cellsub I (j := 1) (by rfl) K9.s1 (by rfl) (.inl (SqT.of K9.hb)) (vat? (by have := K9.l2; omega)) (by omega) (hfree_of (by rfl)) (by decide) (by rfl) (by rfl) (by rfl) up hns) (mul_small (K9.sm3 i))) fun h v ⟨t, e⟩ => by rw [e]; exact .int _ _))) (pa_cons (pe_sortLam (T := TabsO P0) (c := c0) (P := P0) (kx := "k") (KEY := key4) hr2 (by rfl) ms (by rfl) T.range (pv 2) TB (by rfl) (List.mem_singleton.mpr rfl) (fun p hp _ => by rw [List.mem_singleton.mp hp]; rfl) (by rfl) (hfree_of (by rfl)) (fun _ _ _ _ _ => rfl) (by rfl) (by rfl) (by rfl) (by rfl) (by decide) (fun _ _ _ _ _ _ I hK i hi h₁ L f' c' t A' up hns => by obtain ⟨a9, b9, l9, ts9, lv9, sz9, le9, K9, rfl⟩ := hK; have hn9 := K9.n9; obtain ⟨tt, _, t2, t3⟩ := K9.hx.at (show i < lv9.length by have := K9.l1; omega); exact (Pur.up (pu_cellsub I (j := 0) (by rfl) K9.s0 (by rfl) (.inl (SqT.of K9.ha)) (t2) (by omega) (hfree_of (by rfl)) (by decide) (by rfl) (by rfl) (by rfl) up hns) fun h v kp e => by rw [(show v = Value.ref tt from e)]; exact reads_pair I t3 h (fun b o e => kp b o (up b o e))))) pa_nil))))))))), ?_⟩
      refine ⟨_, rfl, b, _, rfl, .inr (SqT.of hb), ?_⟩
      have hn2 : sz.length = (sz.map V.int).length := (List.length_map _).symm
      have hn1 : lv.length = (sz.map V.int).length := by rw [← hn2, hls]
      have hn3 : (lensOf lv).length = (sz.map V.int).length := by unfold lensOf; rw [List.length_map]; exact hn1
      have hn9 : (sz.map V.int).length ≤ 900 := by omega
      generalize (sz.map V.int).length = n at hn1 hn2 hn3 hn9
      have htl : (ts.map V.ref).length = lv.length := by rw [List.length_map, hx.1]
      refine ⟨_, rfl, a, rfl, ⟨_, SqT.of ha⟩, fun D nD => lc_it walk_tup (fun i H' => Same H H' ∧ H' D = some (.lst (((lensOf lv).take i).map V.int))) ⟨same_upd nD, upd_same⟩ (fun i H' _ h => SqT.of (h.1 _ _ ha)) ?_ ?_⟩
      · rintro i x H' H'' hi ⟨sm, hD⟩ ⟨rfl, hx1⟩
        rw [htl] at hi
        obtain ⟨t, _, t2, t3⟩ := (hx.same sm).at hi
        rw [t2] at hx1
        cases hx1
        refine ⟨t, _, rfl, SqT.of t3, rfl, _, _, rfl, _, _, rfl, rfl, rfl, ?_⟩
        unfold tYes
        dsimp only
        rw [if_pos rfl]
        have el : (lensOf lv)[i]? = some ((lvA lv i).2 - (lvA lv i).1 + 1) := by
          unfold lensOf
          rw [List.getElem?_map, List.getElem?_eq_getElem hi]
          simp [lvA, hi]
        refine ⟨_, rfl, _, rfl, _, _, rfl, rfl, _, _, rfl, rfl, _, hD, ?_, fun c o e => by rw [upd_ne (ne_of_none e nD)]; exact sm _ _ e, ?_⟩
        · rw [List.length_map, List.length_take]
          exact small1000 (by omega)
        · rw [upd_same, take_snoc el, List.map_append]
          rfl
      rintro H1 ⟨sm, hD⟩
      rw [htl, show lv.length = (lensOf lv).length by unfold lensOf; rw [List.length_map], List.take_length] at hD
      have kf1 : KF a b D ts lv sz (lensOf lv) H1 := ⟨sm _ _ ha, hx.same sm, sm _ _ hb, hD⟩
      have T1 : Tabs (TabsO P0) H1 := hTb.ext sm
      have x1 : ExtN H H1 := ExtN.of sm
      have hbd : ∀ i, (-100000 ≤ ia (lensOf lv) i ∧ ia (lensOf lv) i ≤ 100000) ∧ -100000 ≤ ia sz i ∧ ia sz i ≤ 100000 := fun i => by
        have h1 := hsm.1 i
        have h2 := hsm.2 i
        refine ⟨?_, by omega, by omega⟩
        rcases Nat.lt_or_ge i lv.length with c | c
        · have e : ia (lensOf lv) i = (lvA lv i).2 - (lvA lv i).1 + 1 := by
            unfold ia lensOf lvA
            simp [List.getD_eq_getElem?_getD, c]
          omega
        · have e : ia (lensOf lv) i = 0 := by
            unfold ia
            rw [List.getD_eq_getElem?_getD, List.getElem?_eq_none (by unfold lensOf; rw [List.length_map]; exact c)]
            rfl
          omega
      refine ⟨_, rfl, _, rfl, hn9, fun r1 nr1 => ⟨T1.ext (same_upd nr1), fun G1 e1 TT1 => ⟨keyD1 lv sz (lensOf lv), ⟨a, b, D, ts, lv, sz, lensOf lv, (kf1.ext ((ExtN.of (same_upd nr1)).trans e1)).key rfl rfl rfl hn1 hn2 hn3 hn9 hbd, rfl⟩, AllAlike.of (fun _ _ => rfl), Sortable.tuples (fun i => ⟨_, _, rfl⟩), fun i => (by first | exact Nat.le_of_ble_eq_true rfl | (unfold keyD1; simp [PyData.depth, PyData.depthAll])), fun q1 od1 nq1 po1 => ?_⟩⟩⟩
      have kf2 := (kf1.ext ((ExtN.of (same_upd nr1)).trans e1)).ext (ExtN.of (same_upd (o := .lst (od1.map fun (k : Nat) => V.int (k : Int))) nq1))
      have x2 := (x1.trans ((ExtN.of (same_upd nr1)).trans e1)).trans (ExtN.of (same_upd (o := .lst (od1.map fun (k : Nat) => V.int (k : Int))) nq1))
      have T2 := TT1.ext (same_upd (o := .lst (od1.map fun (k : Nat) => V.int (k : Int))) nq1)
      have v1 : upd G1 q1 (.lst (od1.map fun (k : Nat) => V.int (k : Int))) q1 = some (.lst (natV od1)) := upd_same
      refine ⟨_, rfl, _, rfl, hn9, fun r2 nr2 => ⟨T2.ext (same_upd nr2), fun G2 e2 TT2 => ⟨keyD2 lv sz (lensOf lv), ⟨a, b, D, ts, lv, sz, lensOf lv, (kf2.ext ((ExtN.of (same_upd nr2)).trans e2)).key rfl rfl rfl hn1 hn2 hn3 hn9 hbd, rfl⟩, AllAlike.of (fun _ _ => rfl), Sortable.tuples (fun i => ⟨_, _, rfl⟩), fun i => (by first | exact Nat.le_of_ble_eq_true rfl | (unfold keyD2; simp [PyData.depth, PyData.depthAll])), fun q2 od2 nq2 po2 => ?_⟩⟩⟩
      have kf3 := (kf2.ext ((ExtN.of (same_upd nr2)).trans e2)).ext (ExtN.of (same_upd (o := .lst (od2.map fun (k : Nat) => V.int (k : Int))) nq2))
      have x3 := (x2.trans ((ExtN.of (same_upd nr2)).trans e2)).trans (ExtN.of (same_upd (o := .lst (od2.map fun (k : Nat) => V.int (k : Int))) nq2))
      have T3 := TT2.ext (same_upd (o := .lst (od2.map fun (k : Nat) => V.int (k : Int))) nq2)
      have v2 : upd G2 q2 (.lst (od2.map fun (k : Nat) => V.int (k : Int))) q2 = some (.lst (natV od2)) := upd_same
      have v1 := (ExtN.of (same_upd (o := .lst (od2.map fun (k : Nat) => V.int (k : Int))) nq2)) _ _ (((ExtN.of (same_upd nr2)).trans e2) _ _ v1 (fun _ z => nomatch z)) (fun _ z => nomatch z)
      refine ⟨_, rfl, _, rfl, hn9, fun r3 nr3 => ⟨T3.ext (same_upd nr3), fun G3 e3 TT3 => ⟨keyD3 lv sz (lensOf lv), ⟨a, b, D, ts, lv, sz, lensOf lv, (kf3.ext ((ExtN.of (same_upd nr3)).trans e3)).key rfl rfl rfl hn1 hn2 hn3 hn9 hbd, rfl⟩, AllAlike.of (fun _ _ => rfl), Sortable.others (fun i => ⟨fun z => (by cases z), fun xs z => (by cases z)⟩), fun i => (by first | exact Nat.le_of_ble_eq_true rfl | (unfold keyD3; simp [PyData.depth, PyData.depthAll])), fun q3 od3 nq3 po3 => ?_⟩⟩⟩
      have kf4 := (kf3.ext ((ExtN.of (same_upd nr3)).trans e3)).ext (ExtN.of (same_upd (o := .lst (od3.map fun (k : Nat) => V.int (k : Int))) nq3))
      have x4 := (x3.trans ((ExtN.of (same_upd nr3)).trans e3)).trans (ExtN.of (same_upd (o := .lst (od3.map fun (k : Nat) => V.int (k : Int))) nq3))
      have T4 := TT3.ext (same_upd (o := .lst (od3.map fun (k : Nat) => V.int (k : Int))) nq3)
      have v3 : upd G3 q3 (.lst (od3.map fun (k : Nat) => V.int (k : Int))) q3 = some (.lst (natV od3)) := upd_same
      have v1 := (ExtN.of (same_upd (o := .lst (od3.map fun (k : Nat) => V.int (k : Int))) nq3)) _ _ (((ExtN.of (same_upd nr3)).trans e3) _ _ v1 (fun _ z => nomatch z)) (fun _ z => nomatch z)
      have v2 := (ExtN.of (same_upd (o := .lst (od3.map fun (k : Nat) => V.int (k : Int))) nq3)) _ _ (((ExtN.of (same_upd nr3)).trans e3) _ _ v2 (fun _ z => nomatch z)) (fun _ z => nomatch z)
      refine ⟨_, rfl, _, rfl, hn9, fun r4 nr4 => ⟨T4.ext (same_upd nr4), fun G4 e4 TT4 => ⟨keyD4 lv sz (lensOf lv), ⟨a, b, D, ts, lv, sz, lensOf lv, (kf4.ext ((ExtN.of (same_upd nr4)).trans e4)).key rfl rfl rfl hn1 hn2 hn3 hn9 hbd, rfl⟩, AllAlike.of (fun _ _ => rfl), Sortable.tuples (fun i => ⟨_, _, rfl⟩), fun i => (by first | exact Nat.le_of_ble_eq_true rfl | (unfold keyD4; simp [PyData.depth, PyData.depthAll])), fun q4 od4 nq4 po4 => ?_⟩⟩⟩
      have kf5 := (kf4.ext ((ExtN.of (same_upd nr4)).trans e4)).ext (ExtN.of (same_upd (o := .lst (od4.map fun (k : Nat) => V.int (k : Int))) nq4))
      have x5 := (x4.trans ((ExtN.of (same_upd nr4)).trans e4)).trans (ExtN.of (same_upd (o := .lst (od4.map fun (k : Nat) => V.int (k : Int))) nq4))
      have T5 := TT4.ext (same_upd (o := .lst (od4.map fun (k : Nat) => V.int (k : Int))) nq4)
      have v4 : upd G4 q4 (.lst (od4.map fun (k : Nat) => V.int (k : Int))) q4 = some (.lst (natV od4)) := upd_same
      have v1 := (ExtN.of (same_upd (o := .lst (od4.map fun (k : Nat) => V.int (k : Int))) nq4)) _ _ (((ExtN.of (same_upd nr4)).trans e4) _ _ v1 (fun _ z => nomatch z)) (fun _ z => nomatch z)
      have v2 := (ExtN.of (same_upd (o := .lst (od4.map fun (k : Nat) => V.int (k : Int))) nq4)) _ _ (((ExtN.of (same_upd nr4)).trans e4) _ _ v2 (fun _ z => nomatch z)) (fun _ z => nomatch z)
      have v3 := (ExtN.of (same_upd (o := .lst (od4.map fun (k : Nat) => V.int (k : Int))) nq4)) _ _ (((ExtN.of (same_upd nr4)).trans e4) _ _ v3 (fun _ z => nomatch z)) (fun _ z => nomatch z)
      refine ⟨(show 4 ≤ sizeLine by decide), fun tq ntq => ?_⟩
      refine q _ tq (x5.trans (ExtN.of (same_upd ntq))) ⟨[q1, q2, q3, q4], upd_same, fun o ho => ?_⟩
      have st := same_upd (o := .tup [.ref q1, .ref q2, .ref q3, .ref q4]) ntq
      have on : ∀ {od : List Nat}, od.Perm (List.range n) → OrdR lv.length od := fun h => by unfold OrdR; rw [hn1]; exact h
      simp only [List.mem_cons, List.not_mem_nil, or_false] at ho
      rcases ho with rfl | rfl | rfl | rfl
      · exact ⟨od1, st _ _ v1, on po1⟩
      · exact ⟨od2, st _ _ v2, on po2⟩
      · exact ⟨od3, st _ _ v3, on po3⟩
      · exact ⟨od4, st _ _ v4, on po4⟩
    obtain ⟨t, h1, h2⟩ := core
    exact ⟨t, h1.nox, h2⟩
end

section
open PySem PySem.Spec PyProof.Rows
/-! ### min(t), max(t) of a tuple of ints -/
section
variable {prog : Program} {w : World} {A : Around} {E : Value → Shared → Prop} {s : Shared} {l : Addr} {xs : Array (Int × Tok)}
theorem iter_intTup {Q : Value → Shared → Prop} (hl : s.heap.IsTuple l (intItems xs))
    (h : ∀ s₂ : Shared, s₂ = { s with heap := s.heap.push { cls := .type "tuple_iterator", data := .fields #[.ref l, .int 0 0] } } →
      (s₂.heap.IsTupleIter s.heap.objs.size l 0 ∧ s₂.heap.IsTuple l (intItems xs)) → (∀ b ∈ [s.heap.objs.size, l], b < s₂.heap.objs.size) → l ≠ s.heap.objs.size → Q (.ref s.heap.objs.size) s₂) :
    wpAny (model prog w) A (pyIter (.ref l)) Q E s := by
  have hlt : l < s.heap.objs.size := by obtain ⟨_, e, _⟩ := hl; exact Heap.lt_size e
  refine wpAny_pyIter_tuple hl (h _ rfl ⟨⟨_, Heap.get?_push_size _ rfl, rfl, rfl⟩, hl.at fun o e => Heap.get?_push_of_some _ e⟩ (fun b hb => ?_) (Nat.ne_of_lt hlt))
  show b < (s.heap.push _).objs.size
  rw [Heap.size_push]
  rcases List.mem_cons.mp hb with rfl | hb
  · exact Nat.lt_succ_self _
  · rcases List.mem_cons.mp hb with rfl | hb
    · exact Nat.lt_succ_of_lt hlt
    · cases hb
theorem old_keptT {h' : Heap} (hk : ∀ b o, b ∉ [s.heap.objs.size] → (s.heap.push { cls := .type "tuple_iterator", data := .fields #[.ref l, .int 0 0] }).get? b = some o → h'.get? b = some o) :
    ∀ b o, s.heap.get? b = some o → h'.get? b = some o := fun b o e => by
  refine hk b o (fun hm => ?_) (Heap.get?_push_of_some _ e)
  rcases List.mem_cons.mp hm with e1 | hm
  · exact absurd (e1 ▸ Heap.lt_size e) (Nat.lt_irrefl _)
  · cases hm
end
section
variable {X : Cx}
def rSumT (K : PySem.W.Frag) : List V → Hp → VK → Prop := fun vs H Q => ∃ (a : Addr) (ns : List Int), vs = [V.ref a] ∧ SqT K H a (ns.map V.int) ∧ Q (.int ns.sum) H
theorem sum_rawT {prog : Program} {w : World} {A : Around} {E : Value → Shared → Prop} {s : Shared} {l : Addr} {its : List Value} {ns : List Int} {Q : Value → Shared → Prop} (hh : A.handled = none) (hl : s.heap.IsTuple l its.toArray) (hi : PyProof.Rows.IntsAre its ns)
    (h : ∀ h' tk t', (∀ b o, s.heap.get? b = some o → h'.get? b = some o) → Q (.int ns.sum t') { s with heap := h', toks := tk }) : wpAny (model prog w) A (call (.builtin "sum") [.ref l]) Q E s := by
  obtain ⟨xs, e⟩ := hi.allInts.items
  have hn : PySem.numsOf (intItems xs).toList = ns := by rw [← e]; exact hi.numsOf
  rw [PySem.nums_intItems] at hn
  rw [e] at hl
  refine call_sum_walkG (iter_intTup hl fun s₂ e st hfp hlI => ?_)
  subst e
  refine ⟨_, _, _, _, _, _, numAt xs, rfl, Walks.tuple (A := A.in1) hh _ l hlI (intItems xs), st, hfp, (fun _ _ => intItems_at), fun h' tk t' hk => ?_⟩
  have := h h' tk t' (old_keptT hk)
  rw [← hn, ← List.take_of_length_le (l := xs.toList.map (·.1)) (i := xs.size) (by simp), ← preSum_eq] at this
  simpa [intItems] using this
theorem cr_sumT (hc : X.calm = true) : CallR X (.builtin "sum") (rSumT X.K) := by
  intro pins s σ H vs us Q I r h
  obtain ⟨a, ns, rfl, hs, q⟩ := h
  obtain ⟨its, rv, hl, _⟩ := I.tuple hs
  rw [Vals.ref1 r]
  exact sum_rawT (I.ok.hd hc) hl rv.ints fun h' tk t' hk => ⟨.int _, H, I.kept hk, ⟨_, rfl⟩, q⟩
end
end
section
variable {P : Program} {w : World} {K : PySem.W.Frag} {mg : Str → Option Value} {base : Heap}
structure Fy (H : Hp) (d c al as : Addr) (lv : List (Int × Int)) (sz : List Int) : Prop where
  dr : DrAt H d c
  l : LvT H al lv
  s : H as = some (.tup (sz.map V.int))
variable {H H' : Hp} {d c al as D : Addr} {lv : List (Int × Int)} {sz : List Int}
theorem Fy.same (f : Fy H d c al as lv sz) (s : Same H H') : Fy H' d c al as lv sz := ⟨f.dr.same s, f.l.same s, s _ _ f.s⟩
theorem Fy.but (f : Fy H d c al as lv sz) (k : But d H H') (dr : DrAt H' d c) : Fy H' d c al as lv sz := ⟨dr, f.l.keep fun b xs e => k.tup f.dr e, k.tup f.dr f.s⟩
theorem Fy.upd {xs ys : List V} (f : Fy H d c al as lv sz) (hD : H D = some (.lst xs)) (nd : D ≠ d) (nc : D ≠ c) : Fy (upd H D (.lst ys)) d c al as lv sz :=
  ⟨f.dr.upd _ nd nc, f.l.keep fun b xs e => by rw [upd_ne (ne_of e hD (fun z => nomatch z))]; exact e, by rw [upd_ne (ne_of f.s hD (fun z => nomatch z))]; exact f.s⟩
theorem new_ne (dr : DrAt H d c) (n : H D = none) : D ≠ d ∧ D ≠ c := ⟨(ne_of_none dr.lst.choose_spec n).symm, (ne_of_none dr.lstc.choose_spec n).symm⟩
def SzP (P0 d c al D : Addr) (lv : List (Int × Int)) (i : Nat) (H' : Hp) : Prop := ∃ fs : List Int, H' D = some (.lst (fs.map V.int)) ∧ fs.length = i ∧ (∀ k, k < i → 1 ≤ ia fs k ∧ ia fs k ≤ 9) ∧ DrAt H' d c ∧ LvT H' al lv ∧ H' P0 = some (.tbl #[])
def B6 (fs : List Int) : Prop := ∀ x ∈ fs, 0 ≤ x ∧ x < 6
def L10 (lv : List (Int × Int)) : Prop := ∀ p ∈ lv, 0 ≤ p.1 ∧ p.1 ≤ 10 ∧ 0 ≤ p.2 ∧ p.2 ≤ 10
theorem sz_step {P0 d c al D : Addr} {lv : List (Int × Int)} {i : Nat} {H' H3 : Hp} {v : Int} (hi : i ≤ 900) (h : SzP P0 d c al D lv i H') (hPd : P0 ≠ d) (hPD : P0 ≠ D) (hDd : D ≠ d) (hDc : D ≠ c) (k3 : But d H' H3) (dr3 : DrAt H3 d c) (v0 : 0 ≤ v) (v1 : v < 9) :
    ∃ acc : List V, H3 D = some (.lst acc) ∧ acc.length < sizeLine ∧ SzP P0 d c al D lv (i + 1) (upd H3 D (.lst (acc ++ [.int (1 + v)]))) := by
  obtain ⟨fs, hD, hl, hb, dr', hlv', hP'⟩ := h
  refine ⟨_, keepD k3 hDd hD, ?_, fs ++ [1 + v], ?_, ?_, ?_, dr3.upd _ hDd hDc, (hlv'.keep fun b xs e => k3.tup dr' e).keep fun b xs e => ?_, by rw [upd_ne hPD]; exact keepD k3 hPd hP'⟩
  · rw [List.length_map, hl]
    exact small1000 (by omega)
  · rw [upd_same, List.map_append]
    rfl
  · rw [List.length_append, hl]
    rfl
  · intro k hk
    by_cases e : k < fs.length
    · rw [ia_app e]
      exact hb k (by omega)
    · have ek : k = fs.length := by omega
      subst ek
      rw [ia_end]
      omega
  · rw [upd_ne (ne_of e (keepD k3 hDd hD) (fun z => nomatch z))]
    exact e
theorem wds_nn {lv : List (Int × Int)} {sz pl : List Int} {n : Nat} (hg : GoodP lv sz pl) (hls : sz.length = n) (hp : Pos1 n sz) : 0 ≤ wds sz pl := by
  unfold wds
  rcases maxI_mem (d := 0) (ns := endsOf sz pl) with ⟨e, _⟩ | e
  · rw [e]
    exact Int.le_refl _
  · obtain ⟨k, h1, h2, e⟩ := ends_mem e
    rw [e]
    have := (hg k h1).1
    have := hp k (by omega)
    omega
theorem sum_le9 : ∀ {l : List Int}, (∀ x ∈ l, x ≤ 9) → l.sum ≤ 9 * (l.length : Nat)
  | [], _ => by simp
  | x :: l, h => by
    have h1 := h x List.mem_cons_self
    have h2 := sum_le9 (l := l) fun y hy => h y (List.mem_cons_of_mem _ hy)
    rw [List.sum_cons, List.length_cons]
    omega
def spLaw (K : PySem.W.Frag) (P0 : Addr) : Sp := fun vs H Q _ => ∃ (a : Addr) (ns : List Int), vs = [.ref a] ∧ SqL K H a (ns.map V.int) ∧ ns.length ≤ 63 ∧ H P0 = some (.tbl #[]) ∧ ∀ H', Q (.bl true) H'
abbrev nL : List Str := ["script", "d", "small", "many", "firsts", "lives", "sizes", "places", "used", "k", "first"]
theorem scL : FnScope nL ["script"] (defScope sLaw) := ⟨rfl, rfl, rfl, by decide +kernel, rfl, by decide +kernel, by decide +kernel⟩
theorem ok_law {f P0 : Addr} {fd : FuncData} (F : Fun K "law" "law" sLaw f fd) (T : TxtP mg) (cB : Calls P w K mg base CX0 1 "_law_begin" ["script"] (spBegin K)) (cT : Calls P w K mg base CX0 1 "_law_take" ["d", "many"] spTake) (cCh : Calls P w K mg base CX0 4 "choose_places" ["all_lives", "sizes"] (spChoose K P0)) (cLg : Calls P w K mg base CX0 2 "_law_good" ["lives", "sizes", "places"] (spGood K)) (cLz : Calls P w K mg base CX0 8 "_law_fits" ["lives", "sizes", "room", "places"] (spFits K 6)) : FnOk P w K mg base CX0 9 f fd ["script"] (spLaw K P0) := by
  obtain ⟨fB, dB, GB, kB, bB, gB⟩ := cB.ex
  obtain ⟨fT, dT, GT, kT, bT, gT⟩ := cT.ex
  obtain ⟨fCh, dCh, GCh, kCh, bCh, gCh⟩ := cCh.ex
  obtain ⟨fLg, dLg, GLg, kLg, bLg, gLg⟩ := cLg.ex
  obtain ⟨fLz, dLz, GLz, kLz, bLz, gLz⟩ := cLz.ex
  refine F.ok scL (fun vs H Q E h => ?_) (fun cdv A outer s H vs Q E hr8 h => ?_)
  · obtain ⟨a, ns, rfl, _⟩ := h
    rfl
  · obtain ⟨a, ns, rfl, hS, hlen, hP, q⟩ := h
    have hr1 : Room 1 _ := hr8.mono (by decide)
    have hr2 : Room 2 _ := hr8.mono (by decide)
    have hr3 : Room 3 _ := hr8.mono (by decide)
    have hr4 : Room 4 _ := hr8.mono (by decide)
    refine ⟨_, (pss_cons (ps_set (i := 1) scL.nd rfl (.inr rfl) (pe_call GB hr1 (by rfl) gB kB bB .nil pass0 (pa_cons (pv 0) pa_nil)))
      (pss_cons (ps_set (i := 2) scL.nd rfl (.inr rfl) (pe_cmpR op_eq (pe_call GT hr1 (by rfl) gT kT bT .nil pass0 (pa_cons (pv 1) (pa_cons pe_int pa_nil))) pe_int (nomark _)))
      (Evl.pss_cut (ps_set (i := 3) scL.nd rfl (.inl rfl) (pe_ifExp (pt_val (pv 2)) (pe_call GT hr1 (by rfl) gT kT bT .nil pass0 (pa_cons (pv 1) (pa_cons pe_int pa_nil))) (pe_call GT hr1 (by rfl) gT kT bT .nil pass0 (pa_cons (pv 1) (pa_cons pe_int pa_nil)))))
      (Evl.pss_cut (ps_setLc (i := 4) (own := [("k", 9)]) (g := (gName 9)) (tt := tYes) (te := (tCall spTake [] E0 (tCons (tVar 1) (tCons (tC (.int 6)) tNil)))) (by rfl) scL.nd rfl rfl (sw_true rfl rfl rfl (by decide +kernel)) (pi_range1 rfl T.range (pa_cons (pv 3) pa_nil)) (blkOk_by (N := nL) (sc := defScope sLaw) (by decide +kernel)) (fun _ _ _ _ _ => (pg_name (i := 9) scL.nd rfl (.inl rfl) (hf := Or.inr rfl))) (fun _ _ _ _ _ => pts_nil) (fun _ _ _ _ _ => (pe_call GT hr1 (by rfl) gT kT bT .nil pass0 (pa_cons (pv 1) (pa_cons pe_int pa_nil)))))
      (pss_cons (ps_set (i := 5) scL.nd rfl (.inl rfl) (pe_callTy call_tuple_of (by rfl) T.tuple (by decide +kernel) (pa_cons (pe_lc (own := [("first", 10)]) (g := (gName 10)) (tt := tYes) (te := (tTup (tCons (tVar 10) (tCons (tOp (rI0 fun i j => .int (i + j)) (tVar 10) (tCall spTake [] E0 (tCons (tVar 1) (tCons (tC (.int 4)) tNil)))) tNil)))) rfl scL.nd (pi_list (pv 4)) (blkOk_by (N := nL) (sc := defScope sLaw) (by decide +kernel)) (fun _ _ _ _ _ => (pg_name (i := 10) scL.nd rfl (.inl rfl) (hf := Or.inr rfl))) (fun _ _ _ _ _ => pts_nil) (fun _ _ _ _ _ => (pe_tup (pa_cons (pv 10) (pa_cons (pe_op op_add (pv 10) (pe_call GT hr1 (by rfl) gT kT bT .nil pass0 (pa_cons (pv 1) (pa_cons pe_int pa_nil)))) pa_nil))))) pa_nil)))
      (pss_cons (ps_set (i := 6) scL.nd rfl (.inr rfl) (pe_callTy call_tuple_of (by rfl) T.tuple (by decide +kernel) (pa_cons (pe_lc (own := [("k", 9)]) (g := (gName 9)) (tt := tYes) (te := (tOp (rI0 fun i j => .int (i + j)) (tC (.int 1)) (tCall spTake [] E0 (tCons (tVar 1) (tCons (tIf (tB (tVar 2)) (tC (.int 4)) (tC (.int 9))) tNil))))) rfl scL.nd (pi_range1 rfl T.range (pa_cons (pv 3) pa_nil)) (blkOk_by (N := nL) (sc := defScope sLaw) (by decide +kernel)) (fun _ _ _ _ _ => (pg_name (i := 9) scL.nd rfl (.inl rfl) (hf := Or.inr rfl))) (fun _ _ _ _ _ => pts_nil) (fun _ _ _ _ _ => (pe_op op_add pe_int (pe_call GT hr1 (by rfl) gT kT bT .nil pass0 (pa_cons (pv 1) (pa_cons (pe_ifExp (pt_val (pv 2)) pe_int pe_int) pa_nil)))))) pa_nil)))
      (pss_cons (ps_set (i := 7) scL.nd rfl (.inr rfl) (pe_call GCh hr4 (by rfl) gCh kCh bCh .nil pass0 (pa_cons (pv 5) (pa_cons (pv 6) pa_nil))))
      (pss_cons (ps_if (PW.pt (pw_or (pt_not (pt_val (pe_callB call_isi (by rfl) T.isi (by decide +kernel) (pa_cons (pv 7) (pa_cons (pe_bltn (v := .ty "tuple") (by rfl) T.tuple (by decide +kernel) rfl) pa_nil))))) (pw_or (pt_cmpR op_ne (pe_callB call_len_seq (by rfl) T.len PySem.boot_len (pa_cons (pv 7) pa_nil)) (pv 3) (nomark _)) (pw_or1 (pt_not (pt_val (pe_call GLg hr2 (by rfl) gLg kLg bLg .nil pass0 (pa_cons (pv 5) (pa_cons (pv 6) (pa_cons (pv 7) pa_nil)))))))))) (pss_one (ps_ret pe_bl)) pss_nil)
      (pss_cons (ps_set (i := 8) scL.nd rfl (.inl rfl) (pe_callB (cr_max rfl) (by rfl) T.max (by decide +kernel) (pa_cons (pe_op op_cat (pe_lst (pa_cons pe_int pa_nil)) (pe_lc (own := [("k", 9)]) (g := (gName 9)) (tt := tYes) (te := (tOp (rI0 fun i j => .int (i + j)) (tOp (rIxT K) (tVar 7) (tVar 9)) (tOp (rIxT K) (tVar 6) (tVar 9)))) rfl scL.nd (pi_range1 rfl T.range (pa_cons (pv 3) pa_nil)) (blkOk_by (N := nL) (sc := defScope sLaw) (by decide +kernel)) (fun _ _ _ _ _ => (pg_name (i := 9) scL.nd rfl (.inl rfl) (hf := Or.inr rfl))) (fun _ _ _ _ _ => pts_nil) (fun _ _ _ _ _ => (pe_op op_add (pe_ix ix_tup (pv 7) (pv 9) (fun _ _ => rfl)) (pe_ix ix_tup (pv 6) (pv 9) (fun _ _ => rfl)))))) pa_nil)))
      (pss_cons (ps_if (pt_cmpR op_gt (pv 8) (pe_callB (cr_sumT rfl) (by rfl) T.sum (by decide +kernel) (pa_cons (pv 6) pa_nil)) (nomark _)) (pss_one (ps_ret pe_bl)) pss_nil)
      (pss_one (ps_ret (pe_or (pe_not (pv 2)) (pe_or (pe_cmpR op_eq (pv 8) pe_int (nomark _)) (pe_one (pe_not (pe_call GLz hr8 (by rfl) gLz kLz bLz .nil pass0 (pa_cons (pv 5) (pa_cons (pv 6) (pa_cons (pe_op op_sub (pv 8) pe_int) (pa_cons (pe_lst pa_nil) pa_nil))))))))))))))))))))), ?_⟩
    refine ⟨_, rfl, a, ns, rfl, hS, hlen, fun H1 d c sm1 nd nc dr => ?_⟩
    refine ⟨_, rfl, d, c, 2, rfl, dr, by decide, bnd_le (by decide), fun H2 sv k2 dr2 n0 n1 => ⟨rfl, ?_⟩⟩
    generalize decide (V.int sv = V.int 1) = sm
    have hPd : P0 ≠ d := ne_of_none hP nd
    have hP2 := keepD k2 hPd (sm1 _ _ hP)
    clear dr k2 sm1 nd nc
    refine ⟨fun σ' H' => ∃ n : Nat, σ' = [some (.ref a), some (.ref d), some (.bl sm), some (.int (n : Int)), none, none, none, none, none, none, none] ∧ DrAt H' d c ∧ n ≤ 8 ∧ (sm = true → n ≤ 4) ∧ H' P0 = some (.tbl #[]), ?_, ?_⟩
    · refine ⟨_, rfl, _, rfl, ite2 (fun e => ⟨_, rfl, d, c, 5, rfl, dr2, by decide, bnd_le (by decide), fun H3 v k3 dr3 v0 v1 => ?_⟩) (fun e => ⟨_, rfl, d, c, 9, rfl, dr2, by decide, bnd_le (by decide), fun H3 v k3 dr3 v0 v1 => ?_⟩)⟩
      · obtain ⟨n, rfl⟩ : ∃ n : Nat, v = (n : Int) := ⟨v.toNat, by omega⟩
        exact ⟨n, rfl, dr3, by omega, fun _ => by omega, keepD k3 hPd hP2⟩
      · obtain ⟨n, rfl⟩ : ∃ n : Nat, v = (n : Int) := ⟨v.toNat, by omega⟩
        exact ⟨n, rfl, dr3, by omega, fun z => absurd z e, keepD k3 hPd hP2⟩
    clear dr2 hP2
    rintro σ' H2 ⟨n, rfl, dr2, hn8, hn4, hP2⟩
    refine ⟨fun σ' H' => ∃ (D1 : Addr) (fs : List Int), σ' = [some (.ref a), some (.ref d), some (.bl sm), some (.int (n : Int)), some (.ref D1), none, none, none, none, none, none] ∧ DrAt H' d c ∧ H' D1 = some (.lst (fs.map V.int)) ∧ D1 ≠ d ∧ fs.length = n ∧ B6 fs ∧ H' P0 = some (.tbl #[]), ?_, ?_⟩
    · refine ⟨_, rfl, _, rfl, by omega, by omega, fun D nD => lc_range (lo := 0) (n := ((n : Nat) : Int).toNat) (fun i H' => ∃ fs : List Int, H' D = some (.lst (fs.map V.int)) ∧ fs.length = i ∧ DrAt H' d c ∧ B6 fs ∧ H' P0 = some (.tbl #[]))
        ⟨[], upd_same, rfl, dr2.same (same_upd nD), fun x h => absurd h (by simp), same_upd nD _ _ hP2⟩ ?_ ?_⟩
      · rintro i H' hi ⟨fs, hD, hl, dr', hb6, hP'⟩
        obtain ⟨hDd, hDc⟩ := new_ne dr2 nD
        refine ⟨rfl, ?_⟩
        unfold tYes
        dsimp only
        rw [if_pos rfl]
        refine ⟨_, rfl, d, c, 6, rfl, dr', by decide, bnd_le (by decide), fun H3 v k3 dr3 v0 v1 => ⟨_, keepD k3 hDd hD, ?_, fs ++ [v], ?_, ?_, dr3.upd _ hDd hDc, fun x hx => (List.mem_append.mp hx).elim (hb6 x) fun z => by rw [List.mem_singleton.mp z]; exact ⟨v0, v1⟩, by rw [upd_ne (ne_of_none hP2 nD)]; exact keepD k3 hPd hP'⟩⟩
        · rw [List.length_map, hl]
          exact small1000 (by omega)
        · rw [upd_same, List.map_append]
          rfl
        · rw [List.length_append, hl]
          rfl
      · rintro H3 ⟨fs, hD, hl, dr3, hb6, hP3⟩
        rw [Int.toNat_natCast] at hl
        exact ⟨D, fs, rfl, dr3, hD, (new_ne dr2 nD).1, hl, hb6, hP3⟩
    clear dr2 hP2
    rintro σ' H3 ⟨D1, fs, rfl, dr3, hD1, hD1d, hfl, hb6, hP3⟩
    -- lives
    refine ⟨_, rfl, D1, rfl, ⟨_, SqL.of hD1⟩, fun D nD => lc_list (K := K) (a := D1) (xs := fs.map V.int) (fun i H' => ∃ (ts : List Addr) (lv : List (Int × Int)), H' D = some (.lst (ts.map V.ref)) ∧ Tups H' ts lv ∧ lv.length = i ∧ DrAt H' d c ∧ H' D1 = some (.lst (fs.map V.int)) ∧ L10 lv ∧ H' P0 = some (.tbl #[]))
      ⟨[], [], upd_same, Tups.nil, rfl, dr3.same (same_upd nD), same_upd nD _ _ hD1, fun p h => absurd h (by simp), same_upd nD _ _ hP3⟩ (fun i H' _ ⟨_, _, _, _, _, _, e, _⟩ => SqL.of e) ?_ ?_⟩
    · rintro i x H' hi ⟨ts, lv, hD, hx, hl, dr', hD1', hl10, hP'⟩
      have hif : i < fs.length := by
        have := (List.getElem?_eq_some_iff.mp hi).1
        rw [List.length_map] at this
        exact this
      rw [vat? hif] at hi
      cases hi
      obtain ⟨hDd, hDc⟩ := new_ne dr3 nD
      have hDD1 : D ≠ D1 := (ne_of_none hD1 nD).symm
      refine ⟨rfl, ?_⟩
      unfold tYes
      dsimp only
      rw [if_pos rfl]
      have t2 : 2 ≤ sizeLine := by decide
      refine ⟨_, rfl, _, rfl, _, rfl, d, c, 4, rfl, dr', by decide, bnd_le (by decide), fun H4 v k4 dr4 v0 v1 => ⟨_, _, rfl, rfl, t2, fun t nt => ⟨_, same_upd nt _ _ (keepD k4 hDd hD), ?_, ts ++ [t], lv ++ [(ia fs i, ia fs i + v)], ?_, ?_, ?_, ?_, ?_, ?_, ?_⟩⟩⟩
      · rw [List.length_map, hx.1, hl]
        exact small1000 (by omega)
      · rw [upd_same, List.map_append]
        rfl
      · have hx4 := (hx.keep fun b xs e => k4.tup dr' e).same (same_upd (o := .tup [.int (fs.getD i 0), .int (fs.getD i 0 + v)]) nt)
        refine (hx4.snoc (p := (ia fs i, ia fs i + v)) upd_same).keep fun b xs e => ?_
        rw [upd_ne (ne_of e (same_upd nt _ _ (keepD k4 hDd hD)) (fun z => nomatch z))]
        exact e
      · rw [List.length_append, hl]
        rfl
      · exact (dr4.same (same_upd nt)).upd _ hDd hDc
      · rw [upd_ne hDD1.symm]
        exact same_upd nt _ _ (keepD k4 hD1d hD1')
      · have hf := hb6 (ia fs i) (List.mem_of_getElem? (nat_at hif))
        exact fun p hp => (List.mem_append.mp hp).elim (hl10 p) fun z => by rw [List.mem_singleton.mp z]; exact ⟨hf.1, by show ia fs i ≤ 10; omega, by show 0 ≤ ia fs i + v; omega, by show ia fs i + v ≤ 10; omega⟩
      · rw [upd_ne (ne_of_none hP3 nD)]
        exact same_upd nt _ _ (keepD k4 hPd hP')
    · rintro H4 ⟨ts, lv, hD, hx, hl, dr4, _, hl10, hP4⟩
      rw [List.length_map, hfl] at hl
      refine ⟨D, _, rfl, .inl ⟨SqL.of hD, fun al nal => ?_⟩⟩
      have s1 := same_upd (o := .tup (ts.map V.ref)) nal
      have hlv : LvT (upd H4 al (.tup (ts.map V.ref))) al lv := ⟨ts, upd_same, hx.same s1⟩
      have dr5 := dr4.same s1
      have hP5 := s1 _ _ hP4
      generalize upd H4 al (.tup (ts.map V.ref)) = H5 at hlv dr5 hP5
      clear s1 nal dr4 hx hD nD dr3 hD1 hD1d
      -- sizes
      refine ⟨_, rfl, _, rfl, by omega, by omega, fun D nD => lc_range (lo := 0) (n := ((n : Nat) : Int).toNat) (SzP P0 d c al D lv)
        ⟨[], upd_same, rfl, fun k h => absurd h (Nat.not_lt_zero _), dr5.same (same_upd nD), hlv.same (same_upd nD), same_upd nD _ _ hP5⟩ ?_ ?_⟩
      · intro i H' hi hz
        obtain ⟨hDd, hDc⟩ := new_ne dr5 nD
        have dr' := hz.choose_spec.2.2.2.1
        refine ⟨rfl, ?_⟩
        unfold tYes
        dsimp only
        rw [if_pos rfl]
        refine ⟨_, rfl, _, rfl, _, rfl, ite2 (fun e => ⟨d, c, 4, rfl, dr', by decide, bnd_le (by decide), fun H3 v k3 dr3 v0 v1 => ⟨_, _, rfl, rfl, sz_step (by omega) hz hPd (ne_of_none hP5 nD) hDd hDc k3 dr3 v0 (by omega)⟩⟩) (fun e => ⟨d, c, 9, rfl, dr', by decide, bnd_le (by decide), fun H3 v k3 dr3 v0 v1 => ⟨_, _, rfl, rfl, sz_step (by omega) hz hPd (ne_of_none hP5 nD) hDd hDc k3 dr3 v0 v1⟩⟩)⟩
      · rintro H6 ⟨sz, hD, hsl, hsb, dr6, hlv6, hP6⟩
        rw [Int.toNat_natCast] at hsl hsb
        refine ⟨D, _, rfl, .inl ⟨SqL.of hD, fun as nas => ?_⟩⟩
        have s1 := same_upd (o := .tup (sz.map V.int)) nas
        have hL7 := hlv6.same s1
        have hs7 : upd H6 as (.tup (sz.map V.int)) as = some (.tup (sz.map V.int)) := upd_same
        have hP7 := s1 _ _ hP6
        generalize upd H6 as (.tup (sz.map V.int)) = H7 at hL7 hs7 hP7
        clear s1 nas dr6 hlv6 hD nD hlv dr5
        have hls : sz.length = lv.length := by omega
        have hp1 : Pos1 lv.length sz := fun k hk => by have := (hsb k (by omega)).1; omega
        have hSm : Small lv sz := by
          refine ⟨fun k => ?_, fun k => ?_⟩
          · rcases Nat.lt_or_ge k sz.length with c | c
            · have := hsb k (by omega)
              omega
            · have e : ia sz k = 0 := by
                unfold ia
                rw [List.getD_eq_getElem?_getD, List.getElem?_eq_none c]
                rfl
              omega
          · rcases Nat.lt_or_ge k lv.length with c | c
            · have e : lvA lv k ∈ lv := by
                unfold lvA
                rw [List.getD_eq_getElem?_getD, List.getElem?_eq_getElem c]
                exact List.getElem_mem c
              have := hl10 _ e
              omega
            · have e : lvA lv k = (0, 0) := by
                unfold lvA
                rw [List.getD_eq_getElem?_getD, List.getElem?_eq_none c]
                rfl
              rw [e]
              decide
        have hTb : LamX.Tabs (TabsO P0) H7 := fun p hp => by
          rw [List.mem_singleton.mp hp]
          exact LamX.TabS.nil hP7
        refine ⟨_, rfl, _, rfl, al, as, lv, sz, rfl, hL7, hs7, hls, by omega, hSm, hTb, fun H8 pl pq s8 hq8 ch => ?_⟩
        have hL8 := hL7.keep fun b xs e => s8 b _ e (fun _ z => nomatch z)
        have hs8 := s8 _ _ hs7 (fun _ z => nomatch z)
        obtain ⟨hpl, _⟩ := id ch
        have hg := ch.good hp1
        have hsum := ch.sum hls hp1
        have hw0 : 0 ≤ wds sz pl := wds_nn hg hls hp1
        have hs9 : sz.sum ≤ 9 * (sz.length : Nat) := sum_le9 fun x hx => by
          obtain ⟨k, hk⟩ := List.getElem?_of_mem hx
          have hkl := (List.getElem?_eq_some_iff.mp hk).1
          have h9 := (hsb k (by omega)).2
          rw [nat_at hkl] at hk
          cases hk
          exact h9
        refine ⟨_, rfl, _, _, _, _, true, rfl, ClsV.ty "tuple", TyX.base (TyOf.tup hq8), kit_ty (by decide +kernel), _, rfl, iteF ?_⟩
        refine ⟨_, rfl, pq, _, rfl, .inr (SqT.of hq8), _, rfl, rfl, _, rfl, ?_⟩
        rw [List.length_map, hpl, hl]
        refine iteNS rfl ⟨_, rfl, _, rfl, _, rfl, al, as, pq, lv, sz, pl, rfl, hL8, hs8, hq8, hls, hpl, by omega, hg, _, rfl, iteF ?_⟩
        refine ⟨(show 1 ≤ sizeLine by decide), fun z nz => ⟨_, rfl, _, rfl, by omega, by omega, fun D nD => lc_range (lo := 0) (n := ((n : Nat) : Int).toNat) (fun i H' => Same (upd H8 z (.lst [.int 0])) H' ∧ H' D = some (.lst (((endsOf sz pl).take i).map V.int)))
          ⟨same_upd nD, upd_same⟩ ?_ ?_⟩⟩
        · rintro i H' hi ⟨sm', hD⟩
          rw [Int.toNat_natCast] at hi
          rw [Int.zero_add]
          have hq9 := sm' _ _ (same_upd nz _ _ hq8)
          have hs9 := sm' _ _ (same_upd nz _ _ hs8)
          refine ⟨rfl, ?_⟩
          unfold tYes
          dsimp only
          rw [if_pos rfl]
          refine ⟨_, rfl, _, rfl, pq, _, _, _, rfl, rfl, SqT.of hq9, vatD (by omega), _, rfl, _, rfl, as, _, _, _, rfl, rfl, SqT.of hs9, vatD (by omega), _, _, rfl, rfl, _, hD, ?_, fun b o e => by rw [upd_ne (ne_of_none e nD)]; exact sm' _ _ e, ?_⟩
          · rw [List.length_map, List.length_take]
            exact small1000 (by omega)
          · rw [upd_same, take_snoc (endsOf_at (show i < pl.length by omega) (by omega)), List.map_append]
            rfl
        · rintro H9 ⟨sm', hD⟩
          have el : ((n : Nat) : Int).toNat = (endsOf sz pl).length := by rw [endsOf_len]; omega
          rw [el, List.take_length] at hD
          refine ⟨z, D, _, _, rfl, rfl, sm' _ _ upd_same, hD, ?_, fun r nr => ?_⟩
          · rw [List.length_map, ← el]
            exact Nat.le_of_lt (small1000 (by show 1 + _ ≤ 1000; omega))
          have s9 : Same H8 (upd H9 r (.lst ([V.int 0] ++ (endsOf sz pl).map V.int))) := ((same_upd nz).trans sm').trans (same_upd nr)
          refine ⟨r, 0 :: endsOf sz pl, rfl, SqL.of (by rw [upd_same]; rfl), Nat.succ_pos _, fun m hm hmax => ?_⟩
          have em : m = wds sz pl := by
            refine Int.le_antisymm ?_ (wds_le (hmax 0 List.mem_cons_self) fun k h1 h2 => hmax _ (List.mem_cons_of_mem _ (List.mem_of_getElem? (endsOf_at h1 h2))))
            rcases List.mem_cons.mp hm with e | e
            · omega
            · exact maxI_le _ e
          subst em
          have hL9 := hL8.same s9
          have hs9' := s9 _ _ hs8
          refine ⟨_, rfl, _, rfl, as, sz, rfl, SqT.of hs9', _, _, rfl, rfl, _, rfl, ite2 (fun e => absurd (of_decide_eq_true e) (by omega)) (fun _ => ?_)⟩
          cases sm with
          | false => exact ⟨_, rfl, _, rfl, _, rfl, iteT (q _)⟩
          | true =>
            refine ⟨_, rfl, _, rfl, _, rfl, iteF ⟨_, rfl, rfl, _, rfl, ?_⟩⟩
            by_cases e0 : wds sz pl = 0
            · rw [e0]
              exact iteT (q _)
            · rw [decide_eq_false (fun y => e0 (by injection y))]
              have h4 := hn4 rfl
              refine iteF ⟨_, rfl, _, rfl, _, rfl, _, _, rfl, rfl, Nat.zero_le _, fun ee ne => ⟨al, as, ee, lv, sz, [], _, rfl, by show lv.length < 0 + 6; omega, Nat.zero_le _, hL9.same (same_upd ne), same_upd ne _ _ hs9', upd_same, hls, by omega,
                fun k hk => ⟨hp1 k hk, by have := (hsb k (by omega)).2; omega⟩, by omega, by omega, fun k hk => absurd hk (Nat.not_lt_zero _), fun H' b' s' hb' => ?_⟩⟩
              have hbf : b' = false := by
                cases b' with
                | false => rfl
                | true =>
                  obtain ⟨q', hl', hv⟩ := hb' rfl
                  have := chosen_best ch hls (by omega) hp1 (by omega) hv hl'
                  omega
              subst hbf
              exact ⟨_, rfl, q _⟩
end
/-! ### what the top has written, the head -/
theorem all_mk {l : PySem.W.OpenLaw} {w : World} {K : PySem.W.Frag} {h : Heap} {mg : Str → Option Value} {fa f1 f2 f3 f4 f5 f6 f7 f8 f9 f10 f11 f12 f13 f14 f15 c0 P0 : Addr} (X : K.In h) (G : h.Ns mainGlobals mg) (hfa : mg "law" = some (.ref fa))
    {od1 an1 od2 an2 od3 an3 od4 an4 od5 an5 od6 an6 od7 an7 od8 an8 od9 an9 od10 an10 od11 an11 od12 an12 od13 an13 od14 an14 od15 an15 : Option Addr} {sl1 sl2 sl3 sl4 sl5 sl6 sl7 sl8 sl9 sl10 sl11 sl12 sl13 sl14 sl15 : Array (Option Value)} {oc1 kV1 dc1 pm1 cd1 ct1 oc2 kV2 dc2 pm2 cd2 ct2 oc3 kV3 dc3 pm3 cd3 ct3 oc4 kV4 dc4 pm4 cd4 ct4 oc5 kV5 dc5 pm5 cd5 ct5 oc6 kV6 dc6 pm6 cd6 ct6 oc7 kV7 dc7 pm7 cd7 ct7 oc8 kV8 dc8 pm8 cd8 ct8 oc9 kV9 dc9 pm9 cd9 ct9 oc10 kV10 dc10 pm10 cd10 ct10 oc11 kV11 dc11 pm11 cd11 ct11 oc12 kV12 dc12 pm12 cd12 ct12 oc13 kV13 dc13 pm13 cd13 ct13 oc14 kV14 dc14 pm14 cd14 ct14 oc15 kV15 dc15 pm15 cd15 ct15 : Value}
    {tkF : Tok}
    (a1 : PySem.W.nsIn K mainGlobals "meet" = some (some (.ref f1))) (l1 : K.lookup f1 = some ⟨oc1, od1, .func (PySem.W.fnOf "meet" "meet" (defArgs sMeet) (defBody sMeet) (defScope sMeet) .none kV1 dc1 pm1 an1 cd1 ct1), sl1⟩) (c1 : PySem.W.codeIn K cd1 "meet" = true) (k1 : PySem.W.keepIn K (.ref f1) = true)
    (a2 : PySem.W.nsIn K mainGlobals "peak_of" = some (some (.ref f2))) (l2 : K.lookup f2 = some ⟨oc2, od2, .func (PySem.W.fnOf "peak_of" "peak_of" (defArgs sPeak) (defBody sPeak) (defScope sPeak) .none kV2 dc2 pm2 an2 cd2 ct2), sl2⟩) (c2 : PySem.W.codeIn K cd2 "peak_of" = true) (k2 : PySem.W.keepIn K (.ref f2) = true)
    (a3 : PySem.W.nsIn K mainGlobals "choose_places" = some (some (.ref f3))) (l3 : K.lookup f3 = some ⟨oc3, od3, .func (PySem.W.fnOf "choose_places" "choose_places" (defArgs sChoose) (defBody sChoose) (defScope sChoose) .none kV3 dc3 pm3 an3 cd3 ct3), sl3⟩) (c3 : PySem.W.codeIn K cd3 "choose_places" = true) (k3 : PySem.W.keepIn K (.ref f3) = true)
    (a4 : PySem.W.nsIn K mainGlobals "_words_of" = some (some (.ref f4))) (l4 : K.lookup f4 = some ⟨oc4, od4, .func (PySem.W.fnOf "_words_of" "_words_of" (defArgs sWords) (defBody sWords) (defScope sWords) .none kV4 dc4 pm4 an4 cd4 ct4), sl4⟩) (c4 : PySem.W.codeIn K cd4 "_words_of" = true) (k4 : PySem.W.keepIn K (.ref f4) = true)
    (a5 : PySem.W.nsIn K mainGlobals "_better" = some (some (.ref f5))) (l5 : K.lookup f5 = some ⟨oc5, od5, .func (PySem.W.fnOf "_better" "_better" (defArgs sBetter) (defBody sBetter) (defScope sBetter) .none kV5 dc5 pm5 an5 cd5 ct5), sl5⟩) (c5 : PySem.W.codeIn K cd5 "_better" = true) (k5 : PySem.W.keepIn K (.ref f5) = true)
    (a6 : PySem.W.nsIn K mainGlobals "_promising_orders" = some (some (.ref f6))) (l6 : K.lookup f6 = some ⟨oc6, od6, .func (PySem.W.fnOf "_promising_orders" "_promising_orders" (defArgs sOrders) (defBody sOrders) (defScope sOrders) .none kV6 dc6 pm6 an6 cd6 ct6), sl6⟩) (c6 : PySem.W.codeIn K cd6 "_promising_orders" = true) (k6 : PySem.W.keepIn K (.ref f6) = true)
    (a7 : PySem.W.nsIn K mainGlobals "_stacked" = some (some (.ref f7))) (l7 : K.lookup f7 = some ⟨oc7, od7, .func (PySem.W.fnOf "_stacked" "_stacked" (defArgs sStack) (defBody sStack) (defScope sStack) .none kV7 dc7 pm7 an7 cd7 ct7), sl7⟩) (c7 : PySem.W.codeIn K cd7 "_stacked" = true) (k7 : PySem.W.keepIn K (.ref f7) = true)
    (a8 : PySem.W.nsIn K mainGlobals "_first_gap" = some (some (.ref f8))) (l8 : K.lookup f8 = some ⟨oc8, od8, .func (PySem.W.fnOf "_first_gap" "_first_gap" (defArgs sGap) (defBody sGap) (defScope sGap) .none kV8 dc8 pm8 an8 cd8 ct8), sl8⟩) (c8 : PySem.W.codeIn K cd8 "_first_gap" = true) (k8 : PySem.W.keepIn K (.ref f8) = true)
    (a9 : PySem.W.nsIn K mainGlobals "_law_begin" = some (some (.ref f9))) (l9 : K.lookup f9 = some ⟨oc9, od9, .func (PySem.W.fnOf "_law_begin" "_law_begin" (defArgs sBegin) (defBody sBegin) (defScope sBegin) .none kV9 dc9 pm9 an9 cd9 ct9), sl9⟩) (c9 : PySem.W.codeIn K cd9 "_law_begin" = true) (k9 : PySem.W.keepIn K (.ref f9) = true)
    (a10 : PySem.W.nsIn K mainGlobals "_law_take" = some (some (.ref f10))) (l10 : K.lookup f10 = some ⟨oc10, od10, .func (PySem.W.fnOf "_law_take" "_law_take" (defArgs sTake) (defBody sTake) (defScope sTake) .none kV10 dc10 pm10 an10 cd10 ct10), sl10⟩) (c10 : PySem.W.codeIn K cd10 "_law_take" = true) (k10 : PySem.W.keepIn K (.ref f10) = true)
    (a11 : PySem.W.nsIn K mainGlobals "_law_int" = some (some (.ref f11))) (l11 : K.lookup f11 = some ⟨oc11, od11, .func (PySem.W.fnOf "_law_int" "_law_int" (defArgs sInt) (defBody sInt) (defScope sInt) .none kV11 dc11 pm11 an11 cd11 ct11), sl11⟩) (c11 : PySem.W.codeIn K cd11 "_law_int" = true) (k11 : PySem.W.keepIn K (.ref f11) = true)
    (a12 : PySem.W.nsIn K mainGlobals "_law_meets" = some (some (.ref f12))) (l12 : K.lookup f12 = some ⟨oc12, od12, .func (PySem.W.fnOf "_law_meets" "_law_meets" (defArgs sMeets) (defBody sMeets) (defScope sMeets) .none kV12 dc12 pm12 an12 cd12 ct12), sl12⟩) (c12 : PySem.W.codeIn K cd12 "_law_meets" = true) (k12 : PySem.W.keepIn K (.ref f12) = true)
    (a13 : PySem.W.nsIn K mainGlobals "_law_good" = some (some (.ref f13))) (l13 : K.lookup f13 = some ⟨oc13, od13, .func (PySem.W.fnOf "_law_good" "_law_good" (defArgs sGood) (defBody sGood) (defScope sGood) .none kV13 dc13 pm13 an13 cd13 ct13), sl13⟩) (c13 : PySem.W.codeIn K cd13 "_law_good" = true) (k13 : PySem.W.keepIn K (.ref f13) = true)
    (a14 : PySem.W.nsIn K mainGlobals "_law_fits" = some (some (.ref f14))) (l14 : K.lookup f14 = some ⟨oc14, od14, .func (PySem.W.fnOf "_law_fits" "_law_fits" (defArgs sFits) (defBody sFits) (defScope sFits) .none kV14 dc14 pm14 an14 cd14 ct14), sl14⟩) (c14 : PySem.W.codeIn K cd14 "_law_fits" = true) (k14 : PySem.W.keepIn K (.ref f14) = true)
    (a15 : PySem.W.nsIn K mainGlobals "law" = some (some (.ref f15))) (l15 : K.lookup f15 = some ⟨oc15, od15, .func (PySem.W.fnOf "law" "law" (defArgs sLaw) (defBody sLaw) (defScope sLaw) .none kV15 dc15 pm15 an15 cd15 ct15), sl15⟩) (c15 : PySem.W.codeIn K cd15 "law" = true) (k15 : PySem.W.keepIn K (.ref f15) = true)
    (eFw : PySem.W.nsIn K mainGlobals "_FEW" = some (some (.int 5 tkF)))
    (ePm : PySem.W.nsIn K mainGlobals "permutations" = some (some (.type "itertools.permutations")))
    (hc0 : cd6 = .ref c0)
    (hTP : h.get? P0 = some (PySem.W.tabObj #[]))
    (hCH : PySem.W.codeHdIn K c0 P0 = true)
    (hNP : K.lookup P0 = none)
    (z_int : PySem.W.nsIn K mainGlobals "int" = some none)
    (z_abs : PySem.W.nsIn K mainGlobals "abs" = some none)
    (z_len : PySem.W.nsIn K mainGlobals "len" = some none)
    (z_list : PySem.W.nsIn K mainGlobals "list" = some none)
    (z_max : PySem.W.nsIn K mainGlobals "max" = some none)
    (z_min : PySem.W.nsIn K mainGlobals "min" = some none)
    (z_zip : PySem.W.nsIn K mainGlobals "zip" = some none)
    (z_range : PySem.W.nsIn K mainGlobals "range" = some none)
    (z_enumerate : PySem.W.nsIn K mainGlobals "enumerate" = some none)
    (z_sum : PySem.W.nsIn K mainGlobals "sum" = some none)
    (z_set : PySem.W.nsIn K mainGlobals "set" = some none)
    (z_tuple : PySem.W.nsIn K mainGlobals "tuple" = some none)
    (z_isinstance : PySem.W.nsIn K mainGlobals "isinstance" = some none)
    (z_bool : PySem.W.nsIn K mainGlobals "bool" = some none)
    (z_sorted : PySem.W.nsIn K mainGlobals "sorted" = some none)
    : LamX.LawAtS l w K CX0 9 63 "script" mg fa h := by
  have e := hfa.symm.trans (PySem.W.mg_of X G a15)
  cases e
  have F1 := fun_mk (st := sMeet) l1 c1 k1
  have m1 := PySem.W.mg_of X G a1
  have b1 := F1.binds (ps := ["one", "other"]) fun _ _ _ _ _ _ us hl => match us, hl with | [_, _], _ => rfl
  have F2 := fun_mk (st := sPeak) l2 c2 k2
  have m2 := PySem.W.mg_of X G a2
  have b2 := F2.binds (ps := ["all_lives", "sizes"]) fun _ _ _ _ _ _ us hl => match us, hl with | [_, _], _ => rfl
  have F3 := fun_mk (st := sChoose) l3 c3 k3
  have m3 := PySem.W.mg_of X G a3
  have b3 := F3.binds (ps := ["all_lives", "sizes"]) fun _ _ _ _ _ _ us hl => match us, hl with | [_, _], _ => rfl
  have F4 := fun_mk (st := sWords) l4 c4 k4
  have m4 := PySem.W.mg_of X G a4
  have b4 := F4.binds (ps := ["sizes", "places"]) fun _ _ _ _ _ _ us hl => match us, hl with | [_, _], _ => rfl
  have F5 := fun_mk (st := sBetter) l5 c5 k5
  have m5 := PySem.W.mg_of X G a5
  have b5 := F5.binds (ps := ["sizes", "one", "other"]) fun _ _ _ _ _ _ us hl => match us, hl with | [_, _, _], _ => rfl
  have F6 := fun_mk (st := sOrders) l6 c6 k6
  have m6 := PySem.W.mg_of X G a6
  have b6 := F6.binds (ps := ["all_lives", "sizes"]) fun _ _ _ _ _ _ us hl => match us, hl with | [_, _], _ => rfl
  have F7 := fun_mk (st := sStack) l7 c7 k7
  have m7 := PySem.W.mg_of X G a7
  have b7 := F7.binds (ps := ["all_lives", "sizes", "order"]) fun _ _ _ _ _ _ us hl => match us, hl with | [_, _, _], _ => rfl
  have F8 := fun_mk (st := sGap) l8 c8 k8
  have m8 := PySem.W.mg_of X G a8
  have b8 := F8.binds (ps := ["taken", "size"]) fun _ _ _ _ _ _ us hl => match us, hl with | [_, _], _ => rfl
  have F9 := fun_mk (st := sBegin) l9 c9 k9
  have m9 := PySem.W.mg_of X G a9
  have b9 := F9.binds (ps := ["script"]) fun _ _ _ _ _ _ us hl => match us, hl with | [_], _ => rfl
  have F10 := fun_mk (st := sTake) l10 c10 k10
  have m10 := PySem.W.mg_of X G a10
  have b10 := F10.binds (ps := ["d", "many"]) fun _ _ _ _ _ _ us hl => match us, hl with | [_, _], _ => rfl
  have F11 := fun_mk (st := sInt) l11 c11 k11
  have m11 := PySem.W.mg_of X G a11
  have b11 := F11.binds (ps := ["actual"]) fun _ _ _ _ _ _ us hl => match us, hl with | [_], _ => rfl
  have F12 := fun_mk (st := sMeets) l12 c12 k12
  have m12 := PySem.W.mg_of X G a12
  have b12 := F12.binds (ps := ["lives", "j", "k"]) fun _ _ _ _ _ _ us hl => match us, hl with | [_, _, _], _ => rfl
  have F13 := fun_mk (st := sGood) l13 c13 k13
  have m13 := PySem.W.mg_of X G a13
  have b13 := F13.binds (ps := ["lives", "sizes", "places"]) fun _ _ _ _ _ _ us hl => match us, hl with | [_, _, _], _ => rfl
  have F14 := fun_mk (st := sFits) l14 c14 k14
  have m14 := PySem.W.mg_of X G a14
  have b14 := F14.binds (ps := ["lives", "sizes", "room", "places"]) fun _ _ _ _ _ _ us hl => match us, hl with | [_, _, _, _], _ => rfl
  have F15 := fun_mk (st := sLaw) l15 c15 k15
  have m15 := PySem.W.mg_of X G a15
  have n_int := PySem.W.mg_none_of X G z_int
  have n_abs := PySem.W.mg_none_of X G z_abs
  have n_len := PySem.W.mg_none_of X G z_len
  have n_list := PySem.W.mg_none_of X G z_list
  have n_max := PySem.W.mg_none_of X G z_max
  have n_min := PySem.W.mg_none_of X G z_min
  have n_zip := PySem.W.mg_none_of X G z_zip
  have n_range := PySem.W.mg_none_of X G z_range
  have n_enumerate := PySem.W.mg_none_of X G z_enumerate
  have n_sum := PySem.W.mg_none_of X G z_sum
  have n_set := PySem.W.mg_none_of X G z_set
  have n_tuple := PySem.W.mg_none_of X G z_tuple
  have n_isinstance := PySem.W.mg_none_of X G z_isinstance
  have n_bool := PySem.W.mg_none_of X G z_bool
  have n_sorted := PySem.W.mg_none_of X G z_sorted
  have TD : TxtD mg := ⟨n_int, n_abs, n_len, n_list⟩
  have T : TxtP mg := ⟨TD, n_max, n_min, n_zip, n_range, n_enumerate, n_sum, n_set, n_tuple, n_isinstance⟩
  have lF : ∃ u, mg "_FEW" = some u ∧ RelV (.int 5) u := ⟨_, PySem.W.mg_of X G eFw, _, rfl⟩
  have mp := PySem.W.mg_of X G ePm
  subst hc0
  refine ⟨PySem.W.fnOf "law" "law" (defArgs sLaw) (defBody sLaw) (defScope sLaw) .none kV15 dc15 pm15 an15 cd15 ct15, [(c0, P0)], spLaw K P0, fun p hp => by rw [List.mem_singleton.mp hp]; exact hTP, fun p hp => by rw [List.mem_singleton.mp hp]; exact hNP, fun p hp => by rw [List.mem_singleton.mp hp]; exact PySem.W.codeHd_of_K X hCH, fun s v => .of_eq rfl,
    fun H a ns hn _ hH hS => ⟨a, ns, rfl, hS, hn, hH _ (List.mem_singleton.mpr rfl), fun _ => rfl⟩, fun base _ _ TBs => ?_⟩
  have TB0 := TBs _ (List.mem_singleton.mpr rfl)
  have gM : FnOk l.prog w K mg base CX0 1 _ _ ["one", "other"] spMeet := ok_meet F1
  have cM : Calls l.prog w K mg base CX0 1 "meet" ["one", "other"] spMeet := ⟨_, _, gM, k1, b1, m1⟩
  have gW : FnOk l.prog w K mg base CX0 1 _ _ ["sizes", "places"] (spWords K) := ok_words F4 T
  have cW : Calls l.prog w K mg base CX0 1 "_words_of" ["sizes", "places"] (spWords K) := ⟨_, _, gW, k4, b4, m4⟩
  have gP : FnOk l.prog w K mg base CX0 1 _ _ ["all_lives", "sizes"] (spPeak K) := ok_peak F2 T
  have cP : Calls l.prog w K mg base CX0 1 "peak_of" ["all_lives", "sizes"] (spPeak K) := ⟨_, _, gP, k2, b2, m2⟩
  have gBe : FnOk l.prog w K mg base CX0 2 _ _ ["sizes", "one", "other"] (spBetter K) := ok_better F5 cW
  have cBe : Calls l.prog w K mg base CX0 2 "_better" ["sizes", "one", "other"] (spBetter K) := ⟨_, _, gBe, k5, b5, m5⟩
  have gGa : FnOk l.prog w K mg base CX0 1 _ _ ["taken", "size"] (spGap K) := ok_gap F8 T
  have cGa : Calls l.prog w K mg base CX0 1 "_first_gap" ["taken", "size"] (spGap K) := ⟨_, _, gGa, k8, b8, m8⟩
  have gSt : FnOk l.prog w K mg base CX0 2 _ _ ["all_lives", "sizes", "order"] (spStack K) := ok_stack F7 T n_sorted cM cGa
  have cSt : Calls l.prog w K mg base CX0 2 "_stacked" ["all_lives", "sizes", "order"] (spStack K) := ⟨_, _, gSt, k7, b7, m7⟩
  have gOr : FnOk l.prog w K mg base CX0 3 _ _ ["all_lives", "sizes"] (spOrders K P0) := ok_orders l6 c6 TB0 T n_sorted
  have cOr : Calls l.prog w K mg base CX0 3 "_promising_orders" ["all_lives", "sizes"] (spOrders K P0) := ⟨_, _, gOr, k6, b6, m6⟩
  have gCh : FnOk l.prog w K mg base CX0 4 _ _ ["all_lives", "sizes"] (spChoose K P0) := ok_choose F3 T mp lF cSt cP cBe cW cOr
  have cCh : Calls l.prog w K mg base CX0 4 "choose_places" ["all_lives", "sizes"] (spChoose K P0) := ⟨_, _, gCh, k3, b3, m3⟩
  have gB : FnOk l.prog w K mg base CX0 1 _ _ ["script"] (spBegin K) := ok_begin F9 TD
  have cB : Calls l.prog w K mg base CX0 1 "_law_begin" ["script"] (spBegin K) := ⟨_, _, gB, k9, b9, m9⟩
  have gT : FnOk l.prog w K mg base CX0 1 _ _ ["d", "many"] spTake := ok_take F10 TD
  have cT : Calls l.prog w K mg base CX0 1 "_law_take" ["d", "many"] spTake := ⟨_, _, gT, k10, b10, m10⟩
  have gN : FnOk l.prog w K mg base CX0 1 _ _ ["actual"] spInt := ok_int F11 n_isinstance n_int n_bool
  have cN : Calls l.prog w K mg base CX0 1 "_law_int" ["actual"] spInt := ⟨_, _, gN, k11, b11, m11⟩
  have gLm : FnOk l.prog w K mg base CX0 1 _ _ ["lives", "j", "k"] (spMeets K) := ok_meets F12
  have cLm : Calls l.prog w K mg base CX0 1 "_law_meets" ["lives", "j", "k"] (spMeets K) := ⟨_, _, gLm, k12, b12, m12⟩
  have gLg : FnOk l.prog w K mg base CX0 2 _ _ ["lives", "sizes", "places"] (spGood K) := ok_good F13 T cN cLm
  have cLg : Calls l.prog w K mg base CX0 2 "_law_good" ["lives", "sizes", "places"] (spGood K) := ⟨_, _, gLg, k13, b13, m13⟩
  have gLz : FnOk l.prog w K mg base CX0 8 _ _ ["lives", "sizes", "room", "places"] (spFits K 6) := ok_fits F14 T cLm k14 b14 m14 6 (by decide)
  have cLz : Calls l.prog w K mg base CX0 8 "_law_fits" ["lives", "sizes", "room", "places"] (spFits K 6) := ⟨_, _, gLz, k14, b14, m14⟩
  exact ok_law F15 T cB cT cCh cLg cLz
end My
open PySem PySem.W PyProof.Rows
set_option maxRecDepth 100000 in
set_option maxHeartbeats 0 in
theorem PySem.Challenge.cw_tensorcompiler_k44_chosen_places_holds : PySem.Challenge.rw_tensorcompiler_k44_chosen_places.Holds := by
  w_on; o_law; k_head; (case hw => w_witness2)
  k_fill
  refine LamX.walk_ofTs (l := PySem.Challenge.rw_tensorcompiler_k44_chosen_places) (n := 63) (k := 9) (x := "script") (CX := fun _ => L2.CX0) rfl (by decide) rfl ⟨rfl, by decide, by decide⟩ (fun w h Y => PySem.W.km_in_of Y) ?F (fun _ _ _ _ _ h => h)
  case F =>
    intro w mg fa h Y KX G hmg
    refine' My.all_mk KX G hmg ?a1 ?l1 ?c1 ?k1 ?a2 ?l2 ?c2 ?k2 ?a3 ?l3 ?c3 ?k3 ?a4 ?l4 ?c4 ?k4 ?a5 ?l5 ?c5 ?k5 ?a6 ?l6 ?c6 ?k6 ?a7 ?l7 ?c7 ?k7 ?a8 ?l8 ?c8 ?k8 ?a9 ?l9 ?c9 ?k9 ?a10 ?l10 ?c10 ?k10 ?a11 ?l11 ?c11 ?k11 ?a12 ?l12 ?c12 ?k12 ?a13 ?l13 ?c13 ?k13 ?a14 ?l14 ?c14 ?k14 ?a15 ?l15 ?c15 ?k15 ?eFw ?ePm ?hc0 ?hTP ?hCH ?hNP ?z_int ?z_abs ?z_len ?z_list ?z_max ?z_min ?z_zip ?z_range ?z_enumerate ?z_sum ?z_set ?z_tuple ?z_isinstance ?z_bool ?z_sorted
    (case a1 => k_is); (case l1 => k_is); (case c1 => k_is); (case k1 => k_is); (case a2 => k_is); (case l2 => k_is); (case c2 => k_is); (case k2 => k_is); (case a3 => k_is); (case l3 => k_is); (case c3 => k_is); (case k3 => k_is); (case a4 => k_is); (case l4 => k_is); (case c4 => k_is); (case k4 => k_is); (case a5 => k_is); (case l5 => k_is); (case c5 => k_is); (case k5 => k_is); (case a6 => k_is); (case l6 => k_is); (case c6 => k_is); (case k6 => k_is); (case a7 => k_is); (case l7 => k_is); (case c7 => k_is); (case k7 => k_is); (case a8 => k_is); (case l8 => k_is); (case c8 => k_is); (case k8 => k_is); (case a9 => k_is); (case l9 => k_is); (case c9 => k_is); (case k9 => k_is); (case a10 => k_is); (case l10 => k_is); (case c10 => k_is); (case k10 => k_is); (case a11 => k_is); (case l11 => k_is); (case c11 => k_is); (case k11 => k_is); (case a12 => k_is); (case l12 => k_is); (case c12 => k_is); (case k12 => k_is); (case a13 => k_is); (case l13 => k_is); (case c13 => k_is); (case k13 => k_is); (case a14 => k_is); (case l14 => k_is); (case c14 => k_is); (case k14 => k_is); (case a15 => k_is); (case l15 => k_is); (case c15 => k_is); (case k15 => k_is); (case eFw => k_is); (case ePm => k_is); (case hc0 => rfl); (case hTP => exact PySem.W.km_tabs_of Y _ (List.mem_cons_self)); (case hCH => first | rfl | kernel_rfl | k_is); (case hNP => first | rfl | kernel_rfl | k_is); (case z_int => k_is); (case z_abs => k_is); (case z_len => k_is); (case z_list => k_is); (case z_max => k_is); (case z_min => k_is); (case z_zip => k_is); (case z_range => k_is); (case z_enumerate => k_is); (case z_sum => k_is); (case z_set => k_is); (case z_tuple => k_is); (case z_isinstance => k_is); (case z_bool => k_is); (case z_sorted => k_is)
