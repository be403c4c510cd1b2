import PyProof.Rows.All
import Wide.All
import OpenK.AllK
import Wide.FinOn
import HandS.ForMost
import HandS.Wide
import HandS.Evl
import HandS.Exc
import HandS.ExcOwn
import HandS.TryOnly
import HandS.WordsExc
import HandS.ExcIs
import HandS.IsInst
import HandS.RaiseMore
import HandS.FStr
import HandS.Zip
import HandS.ExcCtx
import HandS.Hot
import HandS.HotCalls
import HandS.Wide
import HandS.Walk
import HandS.Small
import HandS.TupAny
import HandS.Dict
import HandS.NoneIn
import HandS.More
import HandS.CallLocal
import HandS.Text
import HandS.StrMore
import HandS.Codes
import HandS.Sort
import PyProof.StrLaws
import PyProof.StrLawsAffix
import PyProof.StrLawsIn
import PyProof.P3Eq
import PyProof.WalkInts
import PyProof.WalksMore
import PyProof.StrWalks
import PyProof.AutoSeq1
import PyProof.EnumMake
import PyProof.Rows.ExtendIn
import KE.IntTextLaws
import KE.KDictPairs
import KE.GoesMore
import KE.GoesComp
import KE.GoesRaise
import KE.KAsSuite
import KE.KDictKeyed
import PySem.Challenge.RW_tensorcompiler_k47_code_texts
set_option Elab.async false
set_option linter.all false
set_option maxRecDepth 100000
set_option maxHeartbeats 4000000
namespace My
open PySem L2
/-! ### the text -/
def topS (i : Nat) : Stmt := PySem.Challenge.pw_tensorcompiler_k47_code_texts.main.body.getD i (.Pass ⟨0, 0, 0, 0⟩)
abbrev s_check_fields : Stmt := topS 13
abbrev s_check_clamp : Stmt := topS 14
abbrev scheck_machine : Stmt := topS 17
abbrev sword_bounds : Stmt := topS 18
abbrev scheck_code : Stmt := topS 26
abbrev s_check_form : Stmt := topS 27
abbrev s_is_of_its_kind : Stmt := topS 28
abbrev s_check_counts : Stmt := topS 29
abbrev s_loops_behind : Stmt := topS 30
abbrev s_check_skips : Stmt := topS 31
abbrev s_bounds : Stmt := topS 32
abbrev s_check_ranges : Stmt := topS 33
abbrev s_check_range : Stmt := topS 34
abbrev s_check_number : Stmt := topS 35
abbrev s_check_loops : Stmt := topS 36
abbrev sread_integer : Stmt := topS 38
abbrev swrite_code : Stmt := topS 41
abbrev sread_code : Stmt := topS 42
abbrev s_line : Stmt := topS 43
abbrev s_read_line : Stmt := topS 44
abbrev s_read_field : Stmt := topS 45
abbrev sBegin : Stmt := topS 47
abbrev sTake : Stmt := topS 48
abbrev sSigned : Stmt := topS 49
abbrev s_law_machine : Stmt := topS 50
abbrev s_law_info_of : Stmt := topS 51
abbrev s_law_do : Stmt := topS 52
abbrev s_law_transfer : Stmt := topS 53
abbrev s_law_instruction : Stmt := topS 54
abbrev s_law_block : Stmt := topS 55
abbrev s_law_line : Stmt := topS 56
abbrev s_law_told : Stmt := topS 57
abbrev s_law_bent : Stmt := topS 58
abbrev slaw : Stmt := topS 59
structure Calls (P : Program) (w : World) (K : PySem.W.Frag) (mg : Str → Option Value) (base : Heap) (CX : CXT) (k : Nat) (name : Str) (ps : List Str) (sp : Sp) : Prop where
  ex : ∃ (f : Addr) (fd : FuncData), FnOk P w K mg base CX k f fd ps sp ∧ PySem.W.keepIn K (.ref f) = true ∧ Binds K fd ps [] ∧ mg name = some (.ref f)
/-! ### own errors -/
abbrev valErr : List Value := [.type "ValueError", .type "Exception", .type "BaseException", .type "object"]
/-- what the written part says of an error class that is raised -/
structure ErrR (K : PySem.W.Frag) (mg : Str → Option Value) (n : Str) (C : Addr) : Prop where
  g : mg n = some (.ref C)
  x : PySem.W.excIn K C valErr "ValueError.__new__" = true
  k : PySem.W.keepIn K (.ref C) = true
  b : PySem.W.subIn K (.ref C) (.type "BaseException") = some true
  t : PySem.W.typeIn K (.ref C) = some (.type "type")
/-- of one that an except clause names -/
structure ErrN (K : PySem.W.Frag) (mg : Str → Option Value) (n : Str) (C : Addr) : Prop where
  g : mg n = some (.ref C)
  b : PySem.W.subIn K (.ref C) (.type "BaseException") = some true
  h : PySem.W.hasDictIn K C = true
  t : PySem.W.typeIn K (.ref C) = some (.type "type")
theorem ErrN.ex {K : PySem.W.Frag} {mg : Str → Option Value} {n : Str} {C : Addr} (e : ErrN K mg n C) {cls : Value} {r : Bool} (s : PySem.W.subIn K cls (.ref C) = some r) : PySem.W.exmOne K cls (.ref C) = some r := PySem.W.exm_ref e.b e.h e.t s
theorem pss_if {X : Cx} {sts : List Stmt} {t : TS} {P : Prop} (h : P → PSs X sts t) : PSs X sts (fun D σ H => P ∧ t D σ H) := ⟨fun pins s σ H D I hh => (h hh.1).run pins s σ H D I hh.2⟩
theorem kit_rr {K : PySem.W.Frag} {Z C : Addr} {r : Bool} (s : PySem.W.subIn K (.ref Z) (.ref C) = some r) (z : PySem.W.subIn K (.ref Z) (.ref Z) = some true) (h : PySem.W.hasDictIn K C = true) (t : PySem.W.typeIn K (.ref C) = some (.type "type")) : PySem.W.kitOne K (.ref Z) (.ref C) = some r := by
  have hc : (PySem.W.clsIn K C).isSome = true := by
    unfold PySem.W.hasDictIn at h
    cases e : PySem.W.clsIn K C with
    | none => rw [e] at h; cases h
    | some _ => rfl
  have e2 : ((PySem.W.clsIn K C).isSome && PySem.W.typeIn K (.ref C) == some (.type "type")) = true := by rw [hc, t] <;> rfl
  show (if (Value.ref Z == Value.ref C) = true then some true else (if ((PySem.W.clsIn K C).isSome && PySem.W.typeIn K (.ref C) == some (.type "type")) = true then PySem.W.subIn K (.ref Z) (.ref C) else none)) = some r
  by_cases g : (Value.ref Z == Value.ref C) = true
  · rw [if_pos g]
    have e : Value.ref Z = Value.ref C := beq_iff_eq.mp g
    rw [← e, z] at s
    exact s
  · rw [if_neg g, if_pos e2]
    exact s
theorem kit_rt {K : PySem.W.Frag} {Z : Addr} {T : String} {r : Bool} (s : PySem.W.subIn K (.ref Z) (.type T) = some r) (m : PySem.W.kitMeta T = true) : PySem.W.kitOne K (.ref Z) (.type T) = some r := by
  have g : (Value.ref Z == Value.type T) = false := rfl
  show (if (Value.ref Z == Value.type T) = true then some true else (if PySem.W.kitMeta T = true then PySem.W.subIn K (.ref Z) (.type T) else none)) = some r
  rw [g, if_neg Bool.false_ne_true, if_pos m]
  exact s
/-- the suite of an except clause, by what is known when it is reached -/
def tSu (X : Cx) (sts : List Stmt) : Addr → Value → Option Addr → TS := fun a cls d D σ H => ∀ (oe : Obj) (pn : List (Addr × Obj)), Zc cls d oe → (∃ vs, oe.data = .fields vs) → ∃ t, PSs (X.suite a ((a, oe) :: pn)) sts t ∧ t D σ H
theorem su_ok {X : Cx} {sts : List Stmt} {a : Addr} {cls : Value} {d : Option Addr} {oe : Obj} {pn : List (Addr × Obj)} (hz : Zc cls d oe) (hf : ∃ vs, oe.data = .fields vs) : PSs (X.suite a ((a, oe) :: pn)) sts (tSu X sts a cls d) :=
  ⟨fun pins s σ H D I h => by
    obtain ⟨t, p, q⟩ := h oe pn hz hf
    exact p.run pins s σ H D I q⟩
/-! ### drawing -/
/-- all but one place stands as it was -/
def But (d : Addr) (H H' : Hp) : Prop := ∀ b, b ≠ d → H' b = H b
theorem But.refl (d : Addr) (H : Hp) : But d H H := fun _ _ => rfl
theorem But.trans {d : Addr} {H H1 H2 : Hp} (a : But d H H1) (b : But d H1 H2) : But d H H2 := fun c h => (b c h).trans (a c h)
theorem But.upd {d : Addr} {H : Hp} {o : HO} : But d H (upd H d o) := fun _ h => upd_ne h
/-- the drawing state -/
def DrAt (H : Hp) (d c : Addr) : Prop := ∃ (ns : List Int) (i : Nat) (r s : Int), c ≠ d ∧ H d = some (.lst [.ref c, .int i, .int r, .int s]) ∧ H c = some (.lst (ns.map V.int)) ∧ i ≤ ns.length ∧ 0 ≤ r ∧ 0 ≤ s ∧ s < 2147483647
theorem DrAt.same {H H' : Hp} {d c : Addr} (h : DrAt H d c) (s : Same H H') : DrAt H' d c := by
  obtain ⟨ns, i, r, sd, n, h1, h2, h3⟩ := h
  exact ⟨ns, i, r, sd, n, s _ _ h1, s _ _ h2, h3⟩
theorem DrAt.lst {H : Hp} {d c : Addr} (h : DrAt H d c) : ∃ xs, H d = some (.lst xs) := by
  obtain ⟨ns, i, r, sd, n, h1, _⟩ := h
  exact ⟨_, h1⟩
theorem DrAt.lstc {H : Hp} {d c : Addr} (h : DrAt H d c) : ∃ xs, H c = some (.lst xs) := by
  obtain ⟨ns, i, r, sd, n, _, h1, _⟩ := h
  exact ⟨_, h1⟩
/-- another list may be changed -/
theorem DrAt.upd {H : Hp} {d c p : Addr} (h : DrAt H d c) (o : HO) (nd : p ≠ d) (nc : p ≠ c) : DrAt (upd H p o) d c := by
  obtain ⟨ns, i, r, sd, n, h1, h2, h3⟩ := h
  exact ⟨ns, i, r, sd, n, by rw [upd_ne nd.symm]; exact h1, by rw [upd_ne nc.symm]; exact h2, h3⟩
/-- what is no list is kept by a draw -/
theorem But.tup {d c b : Addr} {H H' : Hp} {xs : List V} (k : But d H H') (h : DrAt H d c) (hb : H b = some (.tup xs)) : H' b = some (.tup xs) := by
  obtain ⟨ys, hd⟩ := h.lst
  rw [k b (ne_of hb hd (fun z => nomatch z))]
  exact hb
def Bnd (m : Int) : Prop := m < 2 ^ 400
structure TxtD (mg : Str → Option Value) : Prop where
  int : mg "int" = none
  abs : mg "abs" = none
  len : mg "len" = none
  list : mg "list" = none
section
variable {P : Program} {w : World} {K : PySem.W.Frag} {mg : Str → Option Value} {base : Heap}
def spBegin (K : PySem.W.Frag) : Sp := fun vs H Q _ => ∃ (a : Addr) (ns : List Int), vs = [.ref a] ∧ SqL K H a (ns.map V.int) ∧ ns.length ≤ 63 ∧
  ∀ H' d c, Same H H' → H d = none → H c = none → DrAt H' d c → Q (.ref d) H'
theorem scB : FnScope ["script", "seed", "cell"] ["script"] (defScope sBegin) := ⟨rfl, rfl, rfl, by decide +kernel, rfl, by decide +kernel, by decide +kernel⟩
theorem ok_begin {f : Addr} {fd : FuncData} (F : Fun K "_law_begin" "_law_begin" sBegin f fd) (T : TxtD mg) : FnOk P w K mg base CX0 1 f fd ["script"] (spBegin K) := by
  refine F.ok scB (fun vs H Q E h => ?_) (fun cdv A outer s H vs Q E hr h => ?_)
  · obtain ⟨a, ns, rfl, _⟩ := h
    rfl
  · obtain ⟨a, ns, rfl, hS, hlen, q⟩ := h
    refine ⟨_, pss_cons (ps_set (i := 1) scB.nd rfl (.inl rfl) pe_int)
      (pss_cons (ps_for PassesOwn.never rfl (pi_list (pv 0)) (pg_name (i := 2) scB.nd rfl (.inl rfl))
        (pss_one (ps_set (i := 1) scB.nd rfl (.inl rfl)
          (pe_op op_mod (pe_op op_add (pe_op op_add (pe_op op_mul (pv 1) pe_int) (pe_op op_mod (pe_callTy call_int1 (by rfl) T.int (by decide +kernel) (pa_cons (pv 2) pa_nil)) pe_int)) pe_int) pe_int))))
      (pss_one (ps_ret (pe_lst (pa_cons (pe_callTy call_list_of (by rfl) T.list (by decide +kernel) (pa_cons (pv 0) pa_nil)) (pa_cons pe_int (pa_cons pe_int (pa_cons (pv 1) pa_nil)))))))), ?_⟩
    refine ⟨_, rfl, a, rfl, ⟨_, hS⟩, for_list (K := K) (a := a) (xs := ns.map V.int) (fun i σ H' => ∃ (z : Int) (v : Option V), σ = [some (.ref a), some (.int z), v] ∧ H' = H ∧ 0 ≤ z ∧ z < 2147483647)
      ⟨1, none, rfl, rfl, by decide, by decide⟩ (fun i σ H' _ ⟨_, _, _, e, _⟩ => by rw [e]; exact hS) ?_ ?_⟩
    · rintro i x σ H' hi ⟨z, v, rfl, rfl, h0, h1⟩
      obtain ⟨u, rfl⟩ : ∃ u, x = V.int u := by
        rw [List.getElem?_map] at hi
        cases e : ns[i]? with
        | none => rw [e] at hi; cases hi
        | some u => rw [e] at hi; exact ⟨u, (Option.some.inj hi).symm⟩
      refine ⟨_, rfl, _, _, rfl, rfl, .inl ⟨by omega, by omega⟩, _, rfl, .inl ⟨_, rfl, _, _, rfl, rfl, (by show (0 : Int) < 2147483629; decide), _, _, rfl, rfl, _, _, rfl, rfl, _, _, rfl, rfl, (by show (0 : Int) < 2147483647; decide), ?_⟩⟩
      exact ⟨_, _, rfl, rfl, Int.emod_nonneg _ (by decide), Int.emod_lt_of_pos _ (by decide)⟩
    · rintro σ H' ⟨z, v, rfl, rfl, h0, h1⟩
      refine ⟨_, rfl, a, _, rfl, .inl hS, fun c nc => ⟨_, rfl, by show 4 ≤ sizeLine; decide, fun d nd => ?_⟩⟩
      have ndc : d ≠ c := fun e => by
        rw [e, upd_same] at nd
        cases nd
      have nd0 : H' d = none := by
        rw [upd_ne ndc] at nd
        exact nd
      refine q _ d c (fun b o e => ?_) nd0 nc ⟨ns, 0, 0, z, ndc.symm, upd_same, ?_, Nat.zero_le _, by decide, h0, h1⟩
      · rw [upd_ne (ne_of_none e nd0), upd_ne (ne_of_none e nc)]
        exact e
      · rw [upd_ne ndc.symm, upd_same]
def spTake : Sp := fun vs H Q _ => ∃ (d c : Addr) (m : Int), vs = [.ref d, .int m] ∧ DrAt H d c ∧ 0 < m ∧ Bnd m ∧
  ∀ H' v, But d H H' → DrAt H' d c → 0 ≤ v → v < m → Q (.int v) H'
theorem scT : FnScope ["d", "many", "small", "digit"] ["d", "many"] (defScope sTake) := ⟨rfl, rfl, rfl, by decide +kernel, rfl, by decide +kernel, by decide +kernel⟩
theorem at0 {a b c e : V} : atI [a, b, c, e] (0 : Int) = some a := rfl
theorem at1 {a b c e : V} : atI [a, b, c, e] (1 : Int) = some b := rfl
theorem at2 {a b c e : V} : atI [a, b, c, e] (2 : Int) = some c := rfl
theorem at3 {a b c e : V} : atI [a, b, c, e] (3 : Int) = some e := rfl
theorem bnd_nat {m : Int} (h0 : 0 < m) (h : Bnd m) : m.natAbs < 2 ^ 400 := by
  have e : ((2 ^ 400 : Nat) : Int) = 2 ^ 400 := by decide +kernel
  unfold Bnd at h
  generalize (2 ^ 400 : Nat) = B at *
  omega
theorem bndW {r m : Int} (h0 : 0 < m) (h : Bnd m) : CDivW r m := wide_div (b := 400) h0 (bnd_nat h0 h) (by decide) (by decide)
theorem ok_take {f : Addr} {fd : FuncData} (F : Fun K "_law_take" "_law_take" sTake f fd) (T : TxtD mg) : FnOk P w K mg base CX0 1 f fd ["d", "many"] spTake := by
  refine F.ok scT (fun vs H Q E h => ?_) (fun cdv A outer s H vs Q E hr h => ?_)
  · obtain ⟨d, c, m, rfl, _⟩ := h
    rfl
  · obtain ⟨d, c, m, rfl, ⟨ns, i, r, sd, ncd, hd, hc, hi, hr0, hs0, hs1⟩, hm, hb, q⟩ := h
    refine ⟨_, Evl.pss_cut (ps_if (PW.pt (pw_and (pt_cmpR op_eq (pe_ix ix_list (pv 0) pe_int (fun _ _ => rfl)) pe_int (nomark _))
        (pw_and1 (pt_cmpR op_lt (pe_ix ix_list (pv 0) pe_int (fun _ _ => rfl)) (pe_callB call_len_seq (by rfl) T.len PySem.boot_len (pa_cons (pe_ix ix_list (pv 0) pe_int (fun _ _ => rfl)) pa_nil)) (nomark _)))))
        (pss_cons (ps_asg (pe_callB call_abs (by rfl) T.abs (by decide +kernel) (pa_cons (pe_callTy call_int1 (by rfl) T.int (by decide +kernel) (pa_cons (pe_ix ix_list (pe_ix ix_list (pv 0) pe_int (fun _ _ => rfl)) (pe_ix ix_list (pv 0) pe_int (fun _ _ => rfl)) (fun _ _ => rfl)) pa_nil)) pa_nil)) (pg_sub (pv 0) pe_int set_list))
        (pss_cons (ps_asg (pe_op op_add (pe_ix ix_list (pv 0) pe_int (fun _ _ => rfl)) pe_int) (pg_sub (pv 0) pe_int set_list))
        (pss_one (ps_if (pt_cmpR op_lt (pe_ix ix_list (pv 0) pe_int (fun _ _ => rfl)) (pe_op op_pow pe_int pe_int) (nomark _))
          (pss_cons (ps_set (i := 2) scT.nd rfl (.inl rfl) (pe_callTy call_int1 (by rfl) T.int (by decide +kernel) (pa_cons (pe_ix ix_list (pv 0) pe_int (fun _ _ => rfl)) pa_nil)))
          (pss_cons (ps_asg pe_int (pg_sub (pv 0) pe_int set_list))
          (pss_one (ps_ret (pe_op op_mod (pv 2) (pv 1))))))
          pss_nil))))
        pss_nil)
      (pss_cons (ps_if (pt_cmpR op_gt (pe_ix ix_list (pv 0) pe_int (fun _ _ => rfl)) pe_int (nomark _))
        (pss_cons (ps_set (i := 3) scT.nd rfl (.inl rfl) (pe_op op_mod (pe_callTy call_int1 (by rfl) T.int (by decide +kernel) (pa_cons (pe_ix ix_list (pv 0) pe_int (fun _ _ => rfl)) pa_nil)) (pv 1)))
        (pss_cons (ps_asg (pe_op op_fdivW (pe_callTy call_int1 (by rfl) T.int (by decide +kernel) (pa_cons (pe_ix ix_list (pv 0) pe_int (fun _ _ => rfl)) pa_nil)) (pv 1)) (pg_sub (pv 0) pe_int set_list))
        (pss_one (ps_ret (pv 3)))))
        pss_nil)
      (pss_cons (ps_asg (pe_op op_mod (pe_callTy call_int1 (by rfl) T.int (by decide +kernel) (pa_cons (pe_op op_add (pe_op op_mul (pe_ix ix_list (pv 0) pe_int (fun _ _ => rfl)) pe_int) pe_int) pa_nil)) pe_int) (pg_sub (pv 0) pe_int set_list))
      (pss_one (ps_ret (pe_op op_mod (pe_callTy call_int1 (by rfl) T.int (by decide +kernel) (pa_cons (pe_op op_fdiv (pe_ix ix_list (pv 0) pe_int (fun _ _ => rfl)) pe_int) pa_nil)) (pv 1)))))), ?_⟩
    refine ⟨fun σ' H' => ∃ (i r sd : Int) (x2 : Option V) (i' : Nat), σ' = [some (.ref d), some (.int m), x2, none] ∧ H' = upd H d (.lst [.ref c, .int i, .int r, .int sd]) ∧ i = i' ∧ i' ≤ ns.length ∧ 0 ≤ r ∧ 0 ≤ sd ∧ sd < 2147483647, ?_, ?_⟩
    · have same : H = upd H d (.lst [.ref c, .int i, .int r, .int sd]) := by
        funext b
        by_cases e : b = d
        · rw [e, upd_same, hd]
        · rw [upd_ne e]
      refine ⟨_, rfl, d, _, 2, _, rfl, rfl, SqL.of hd, at2, rfl, _, rfl, ite2 (fun e => ?_) (fun e => ?_)⟩
      · refine ⟨_, rfl, d, _, 1, _, rfl, rfl, SqL.of hd, at1, _, rfl, d, _, 0, _, rfl, rfl, SqL.of hd, at0, c, _, rfl, .inl (SqL.of hc), _, _, rfl, rfl, _, rfl, ite2 (fun e2 => ?_) (fun e2 => ?_)⟩
        · have hlt : i < ns.length := by
            have := of_decide_eq_true e2
            rw [List.length_map] at this
            omega
          have hx : (ns.map V.int)[i]? = some (.int ns[i]) := by
            rw [List.getElem?_map, List.getElem?_eq_getElem hlt]
            rfl
          generalize ns[i] = x at hx
          have hcd : ∀ o, (upd H d o) c = some (.lst (ns.map V.int)) := fun o => by rw [upd_ne ncd]; exact hc
          have habs : 0 ≤ (if x < 0 then -x else x) := by split <;> omega
          -- d[2] = abs(int(d[0][d[1]]))
          refine ⟨_, rfl, d, _, 0, _, rfl, rfl, SqL.of hd, at0, _, rfl, d, _, 1, _, rfl, rfl, SqL.of hd, at1, c, _, _, _, rfl, rfl, SqL.of hc, atI_nat hx, .inl ⟨x, rfl, x, rfl, _, rfl, d, _, 2, 2, rfl, rfl, hd, rfl, ?_⟩⟩
          generalize (if x < 0 then -x else x) = y at habs
          -- d[1] = d[1] + 1
          refine ⟨_, rfl, d, _, 1, _, rfl, rfl, SqL.of upd_same, at1, _, _, rfl, rfl, _, rfl, d, _, 1, 1, rfl, rfl, upd_same, rfl, ?_⟩
          rw [upd_upd]
          -- if d[2] < 10 ** 18
          refine ⟨_, rfl, d, _, 2, _, rfl, rfl, SqL.of upd_same, at2, 10, 18, rfl, rfl, ⟨by decide, by decide, by decide⟩, _, _, rfl, rfl, _, rfl, ite2 (fun e3 => ?_) (fun e3 => ?_)⟩
          · refine ⟨_, rfl, d, _, 2, _, rfl, rfl, SqL.of upd_same, at2, .inl ⟨_, rfl, _, rfl, d, _, 2, 2, rfl, rfl, upd_same, rfl, ?_⟩⟩
            rw [upd_upd]
            refine ⟨_, rfl, _, rfl, _, _, rfl, rfl, hm, ?_⟩
            exact q _ _ But.upd ⟨ns, i + 1, 0, sd, ncd, upd_same, hcd _, hlt, by decide, hs0, hs1⟩ (Int.emod_nonneg _ (by omega)) (Int.emod_lt_of_pos _ hm)
          · exact ⟨_, _, _, _, i + 1, rfl, rfl, rfl, hlt, habs, hs0, hs1⟩
        · exact ⟨_, _, _, _, i, rfl, same, rfl, hi, hr0, hs0, hs1⟩
      · exact iteF ⟨_, _, _, _, i, rfl, same, rfl, hi, hr0, hs0, hs1⟩
    · clear hd hi hr0 hs0 hs1
      rintro σ' H' ⟨i, r, sd, x2, i', rfl, rfl, rfl, hi, hr0, hs0, hs1⟩
      have hcd : ∀ o, (upd H d o) c = some (.lst (ns.map V.int)) := fun o => by rw [upd_ne ncd]; exact hc
      refine ⟨_, rfl, d, _, 2, _, rfl, rfl, SqL.of upd_same, at2, _, _, rfl, rfl, _, rfl, ite2 (fun e => ?_) (fun e => ?_)⟩
      · refine ⟨_, rfl, d, _, 2, _, rfl, rfl, SqL.of upd_same, at2, .inl ⟨_, rfl, _, rfl, _, _, rfl, rfl, hm, ?_⟩⟩
        refine ⟨_, rfl, d, _, 2, _, rfl, rfl, SqL.of upd_same, at2, .inl ⟨_, rfl, _, rfl, _, _, rfl, rfl, bndW hm hb, _, rfl, d, _, 2, 2, rfl, rfl, upd_same, rfl, ?_⟩⟩
        rw [upd_upd]
        refine ⟨_, rfl, ?_⟩
        exact q _ _ But.upd ⟨ns, i', _, sd, ncd, upd_same, hcd _, hi, Int.ediv_nonneg hr0 (by omega), hs0, hs1⟩ (Int.emod_nonneg _ (by omega)) (Int.emod_lt_of_pos _ hm)
      · refine ⟨_, rfl, d, _, 3, _, rfl, rfl, SqL.of upd_same, at3, _, _, rfl, rfl, .inl ⟨by omega, by omega⟩, _, _, rfl, rfl, .inl ⟨_, rfl, _, _, rfl, rfl, (by show (0 : Int) < 2147483647; decide), _, rfl, d, _, 3, 3, rfl, rfl, upd_same, rfl, ?_⟩⟩
        rw [upd_upd]
        refine ⟨_, rfl, d, _, 3, _, rfl, rfl, SqL.of upd_same, at3, _, _, rfl, rfl, ⟨by decide, by decide⟩, .inl ⟨_, rfl, _, rfl, _, _, rfl, rfl, hm, ?_⟩⟩
        exact q _ _ But.upd ⟨ns, i', r, _, ncd, upd_same, hcd _, hi, hr0, Int.emod_nonneg _ (by decide), Int.emod_lt_of_pos _ (by decide)⟩ (Int.emod_nonneg _ (by omega)) (Int.emod_lt_of_pos _ hm)
def spSigned : Sp := fun vs H Q _ => ∃ (d c : Addr) (m : Int), vs = [.ref d, .int m] ∧ DrAt H d c ∧ 0 ≤ m ∧ Bnd (2 * m + 1) ∧
  ∀ H' v, But d H H' → DrAt H' d c → -m ≤ v → v ≤ m → Q (.int v) H'
theorem scS : FnScope ["d", "most"] ["d", "most"] (defScope sSigned) := ⟨rfl, rfl, rfl, by decide +kernel, rfl, by decide +kernel, by decide +kernel⟩
theorem ok_signed {f fT : Addr} {fd fdT : FuncData} (F : Fun K "_law_signed" "_law_signed" sSigned f fd) (GT : FnOk P w K mg base CX0 1 fT fdT ["d", "many"] spTake) (kT : PySem.W.keepIn K (.ref fT) = true) (bT : Binds K fdT ["d", "many"] []) (gT : mg "_law_take" = some (.ref fT)) : FnOk P w K mg base CX0 2 f fd ["d", "most"] spSigned := by
  refine F.ok scS (fun vs H Q E h => ?_) (fun cdv A outer s H vs Q E hr h => ?_)
  · obtain ⟨d, c, m, rfl, _⟩ := h
    rfl
  · obtain ⟨d, c, m, rfl, dr, h0, hb, q⟩ := h
    refine ⟨_, pss_one (ps_ret (pe_op op_sub (pe_call GT hr (by rfl) gT kT bT .nil pass0 (pa_cons (pv 0) (pa_cons (pe_op op_add (pe_op op_mul pe_int (pv 1)) pe_int) pa_nil))) (pv 1))), ?_⟩
    refine ⟨_, rfl, _, rfl, _, _, rfl, rfl, .inl ⟨by omega, by omega⟩, _, _, rfl, rfl, d, c, _, rfl, dr, by omega, hb, fun H' v k dr' v0 v1 => ?_⟩
    exact ⟨_, rfl, _, _, rfl, rfl, q _ _ k dr' (by omega) (by omega)⟩
end
/-! ### bounds -/
/-- below 2 ^ n in size -/
def Bg (n : Nat) (x : Int) : Prop := x.natAbs < 2 ^ n
theorem Bg.mono {n m : Nat} {x : Int} (h : Bg n x) (l : n ≤ m) : Bg m x := Nat.lt_of_lt_of_le h (Nat.pow_le_pow_right (by decide) l)
theorem Bg.mul {n m : Nat} {x y : Int} (h : Bg n x) (k : Bg m y) : Bg (n + m) (x * y) := wide_lt h k
theorem Bg.add {n : Nat} {x y : Int} (h : Bg n x) (k : Bg n y) : Bg (n + 1) (x + y) := by
  unfold Bg at *
  rw [Nat.pow_succ]
  omega
theorem Bg.sub {n : Nat} {x y : Int} (h : Bg n x) (k : Bg n y) : Bg (n + 1) (x - y) := by
  unfold Bg at *
  rw [Nat.pow_succ]
  omega
theorem Bg.cmul {n m : Nat} {x y : Int} (h : Bg n x) (k : Bg m y) (n0 : 0 < n) (m0 : 0 < m) (l : n + m ≤ 1000000) : CMulW x y := wide_mul h k n0 m0 l
def CDivX (_ j : Int) : Prop := j ≠ 0 ∧ j.natAbs.log2 < 9000
theorem op_fdivX {X : Cx} : OpR X (binaryOp .FloorDiv) (rI CDivX fun i j => .int (i.fdiv j)) := opI fun i j _ _ _ _ _ hc q =>
  PyProof.Rows.floordiv_int hc.1 q (.inl (PyProof.noPylong_of_log2 hc.2))
theorem Bg.div {n : Nat} {x y : Int} (h : Bg n y) (h0 : y ≠ 0) (n0 : 0 < n) (l : n ≤ 9000) : CDivX x y := ⟨h0, Nat.lt_of_lt_of_le (PySem.Flt.log2_lt_of n0 h) l⟩
theorem Bg.divW {n : Nat} {x y : Int} (h : Bg n y) (h0 : 0 < y) (n0 : 0 < n) (l : n ≤ 9000) : CDivW x y := wide_div h0 h n0 l
/-! ### small facts -/
theorem same_upd {H : Hp} {p : Addr} {o : HO} (h : H p = none) : Same H (upd H p o) := fun b x e => by
  rw [upd_ne (ne_of_none e h)]
  exact e
theorem sqT_same {K : PySem.W.Frag} {H H' : Hp} {a : Addr} {xs : List V} (h : SqT K H a xs) (s : Same H H') : SqT K H' a xs := by
  rcases h with (h | ⟨o, h⟩) | h
  · exact .inl (.inl (s _ _ h))
  · exact .inl (.inr ⟨o, s _ _ h⟩)
  · exact .inr h
theorem sqL_same {K : PySem.W.Frag} {H H' : Hp} {a : Addr} {xs : List V} (h : SqL K H a xs) (s : Same H H') : SqL K H' a xs := by
  rcases h with (h | ⟨o, h⟩) | h
  · exact .inl (.inl (s _ _ h))
  · exact .inl (.inr ⟨o, s _ _ h⟩)
  · exact .inr h
theorem map_int_at {ns : List Int} {i : Nat} {x : V} (h : (ns.map V.int)[i]? = some x) : ∃ n, x = .int n ∧ ns[i]? = some n := by
  rw [List.getElem?_map] at h
  cases e : ns[i]? with
  | none => rw [e] at h; cases h
  | some n => rw [e] at h; exact ⟨n, (Option.some.inj h).symm, rfl⟩
theorem map_ref_at {ns : List Addr} {i : Nat} {x : V} (h : (ns.map V.ref)[i]? = some x) : ∃ n, x = .ref n ∧ ns[i]? = some n := by
  rw [List.getElem?_map] at h
  cases e : ns[i]? with
  | none => rw [e] at h; cases h
  | some n => rw [e] at h; exact ⟨n, (Option.some.inj h).symm, rfl⟩
theorem drop_at {α : Type} {l : List α} {i : Nat} {x : α} (h : l[i]? = some x) : l.drop i = x :: l.drop (i + 1) := by
  obtain ⟨hi, e⟩ := List.getElem?_eq_some_iff.mp h
  rw [List.drop_eq_getElem_cons hi, e]
theorem take_snoc {α : Type} {l : List α} {i : Nat} {x : α} (h : l[i]? = some x) : l.take (i + 1) = l.take i ++ [x] := by
  rw [List.take_add_one, h]
  rfl
theorem txt_len (a b : Str) : (a ++ b).length = a.length + b.length := PySem.Str.length_append a b
theorem bnd_le {m : Int} (h : m ≤ 1000000) : Bnd m := by
  unfold Bnd
  have : (1000000 : Int) < 2 ^ 400 := by decide +kernel
  omega
theorem keepD {d b : Addr} {H H' : Hp} {o : HO} (k : But d H H') (h : b ≠ d) (hb : H b = some o) : H' b = some o := by rw [k b h]; exact hb
theorem atI_zero {α : Type} {x : α} {xs : List α} : atI (x :: xs) (0 : Int) = some x := by
  show ((if (0 : Int) ≤ 0 then (if (0 : Int) < ((x :: xs).length : Int) then some (Int.toNat 0) else none) else _).bind _) = _
  rw [if_pos (Int.le_refl 0), if_pos (by rw [List.length_cons]; omega)]
  rfl
/-! ### numbers in texts -/
def digB (l : List Nat) : Bool := !l.isEmpty && l.all fun c => decide (48 ≤ c) && decide (c ≤ 57)
theorem digB_iff {l : List Nat} : digB l = true ↔ l ≠ [] ∧ NumText.AllDigits l := by
  unfold digB NumText.AllDigits
  rw [Bool.and_eq_true, List.all_eq_true]
  refine and_congr ?_ ⟨fun h c hc => ?_, fun h c hc => ?_⟩
  · cases l <;> simp
  · have := h c hc
    rw [Bool.and_eq_true] at this
    exact ⟨of_decide_eq_true this.1, of_decide_eq_true this.2⟩
  · rw [Bool.and_eq_true]
    exact ⟨decide_eq_true (h c hc).1, decide_eq_true (h c hc).2⟩
def bare (l : List Nat) : List Nat := if l.head? = some 45 then l.tail else l
/-- the number that is written -/
def num (l : List Nat) : Option Int :=
  if digB (bare l) = true then (if (bare l).head? = some 48 ∧ l ≠ [48] then none else some (if l.head? = some 45 then -((NumText.digitsVal (bare l) : Nat) : Int) else ((NumText.digitsVal (bare l) : Nat) : Int))) else none
theorem bare_neg (l : List Nat) : bare (45 :: l) = l := rfl
theorem bare_pos {c : Nat} {l : List Nat} (h : c ≠ 45) : bare (c :: l) = c :: l := by
  unfold bare
  rw [if_neg]
  intro e
  exact h (Option.some.inj e)
theorem bare_len (l : List Nat) : (bare l).length ≤ l.length := by
  unfold bare
  split
  · rw [List.length_tail]; omega
  · exact Nat.le_refl _
theorem all_list (x : Str) (p : Nat → Bool) : x.cps.all p = (TL.tl x).all p := by
  show x.cps.all p = x.cps.toList.all p
  rw [Array.all_toList]
theorem asc_digit : ∀ c, c < 128 → Unicode.isDigit c = (decide (48 ≤ c) && decide (c ≤ 57)) := by decide +kernel
theorem dig_text (x : Str) : (Txt.isascii x && Txt.isdigit x) = digB (TL.tl x) := by
  unfold Txt.isascii Txt.isdigit digB
  rw [all_list, all_list]
  have hl : decide (x.length > 0) = !(TL.tl x).isEmpty := by
    rw [TL.len_tl]
    cases TL.tl x <;> rfl
  show ((TL.tl x).all (fun c => decide (c < 128)) && (decide (x.length > 0) && (TL.tl x).all Unicode.isDigit)) = _
  rw [hl]
  generalize TL.tl x = l
  rw [Bool.eq_iff_iff]
  simp only [Bool.and_eq_true, List.all_eq_true, decide_eq_true_eq]
  constructor
  · rintro ⟨h1, h2, h3⟩
    refine ⟨h2, fun c hc => ?_⟩
    have := h3 c hc
    rw [asc_digit c (h1 c hc)] at this
    simpa using this
  · rintro ⟨h2, h3⟩
    refine ⟨fun c hc => by have := h3 c hc; omega, h2, fun c hc => ?_⟩
    have := h3 c hc
    rw [asc_digit c (by omega)]
    simpa using this
theorem tl_dash : TL.tl ("-" : Str) = [45] := rfl
theorem sub_one (z : Str) (y : Str) (c : Nat) (hy : TL.tl y = [c]) : Builtin.Str.subAt z y 0 = decide ((TL.tl z).head? = some c) := by
  have hl : y.length = 1 := by rw [TL.len_tl, hy]; rfl
  rw [PySem.StrLaws.subAt_eq, hl]
  have e1 : y.cps.toList = [c] := hy
  rw [e1, List.drop_zero]
  show ((TL.tl z).take 1 == [c]) = _
  cases TL.tl z with
  | nil => rfl
  | cons d r =>
    show ([d] == [c]) = decide (some d = some c)
    rw [Bool.eq_iff_iff]
    simp
theorem cut_dash (z : Str) : TL.tl (Txt.removeprefix z "-") = bare (TL.tl z) := by
  unfold Txt.removeprefix bare
  rw [sub_one z "-" 45 tl_dash]
  by_cases h : (TL.tl z).head? = some 45
  · rw [if_pos h, if_pos (decide_eq_true h)]
    have hl : z.length = (TL.tl z).length := TL.len_tl z
    obtain ⟨r, hr⟩ : ∃ r, TL.tl z = 45 :: r := by
      cases e : TL.tl z with
      | nil => rw [e] at h; cases h
      | cons d r =>
        rw [e] at h
        exact ⟨r, by rw [Option.some.inj h]⟩
    unfold Txt.affix
    have h1 : ("-" : Str).length = 1 := rfl
    dsimp only
    rw [h1, if_neg (by rw [hl, hr]; simp), TL.tl_strSub_end, hr]
    rfl
  · rw [if_neg h, if_neg (fun e => h (of_decide_eq_true e))]
    rfl
theorem starts_one (z y : Str) (c : Nat) (hy : TL.tl y = [c]) : Txt.startswith z y = decide ((TL.tl z).head? = some c) := by
  have hl : y.length = 1 := by rw [TL.len_tl, hy]; rfl
  unfold Txt.startswith
  rw [sub_one z y c hy, hl, TL.len_tl]
  cases TL.tl z with
  | nil => rfl
  | cons d r =>
    show (decide (0 + 1 ≤ r.length + 1) && _) = _
    rw [decide_eq_true (by omega), Bool.true_and]
theorem str_eq {x y : Str} : x = y ↔ TL.tl x = TL.tl y := ⟨fun e => by rw [e], TL.ext_tl⟩
theorem dec_tl (x y : Str) : decide (V.str x = V.str y) = decide (TL.tl x = TL.tl y) := by
  rw [Bool.eq_iff_iff, decide_eq_true_iff, decide_eq_true_iff]
  exact ⟨fun e => by rw [V.str.inj e], fun e => by rw [TL.ext_tl e]⟩
/-- the text of a number -/
def txt (n : Int) : List Nat := if n < 0 then 45 :: TL.numL n.natAbs else TL.numL n.natAbs
theorem tl_int (n : Int) : TL.tl (Str.ofString (toString n)) = txt n := by
  unfold txt
  cases n with
  | ofNat k =>
    rw [if_neg (by show ¬ ((k : Int) < 0); omega)]
    exact TL.tl_num k
  | negSucc k =>
    rw [if_pos (by omega)]
    have e : toString (Int.negSucc k) = "-" ++ toString (((k + 1 : Nat) : Nat) : Int) := rfl
    rw [e, TL.tl_ofString, String.toList_append, List.map_append, ← TL.tl_ofString (toString (((k + 1 : Nat) : Nat) : Int)), TL.tl_num]
    rfl
theorem txt_len' {n : Int} {k : Nat} (hk : 0 < k) (h : n.natAbs < 10 ^ k) : (txt n).length ≤ k + 1 := by
  have := TL.numL_len hk h
  unfold txt
  split
  · rw [List.length_cons]; omega
  · omega
theorem numL_head {n : Nat} (h : TL.numL n ≠ [48]) : (TL.numL n).head? ≠ some 48 := by
  intro e
  induction n using Nat.strongRecOn with
  | ind n ih =>
    by_cases hn : n < 10
    · rw [TL.numL_lt hn] at e h
      have : 48 + n = 48 := Option.some.inj e
      exact h (by rw [this])
    · rw [TL.numL_step (by omega)] at e
      have hne := TL.numL_ne (n / 10)
      have e2 : (TL.numL (n / 10)).head? = some 48 := by
        cases q : TL.numL (n / 10) with
        | nil => exact absurd q hne
        | cons a r => rw [q] at e; exact e
      refine ih (n / 10) (by omega) ?_ e2
      intro q
      have := TL.numL_val (n / 10)
      rw [q] at this
      have : n / 10 = 0 := this.symm
      omega
theorem numL_zero {n : Nat} : TL.numL n = [48] ↔ n = 0 := by
  constructor
  · intro e
    have := TL.numL_val n
    rw [e] at this
    exact this.symm
  · intro e
    subst e
    rfl
theorem numL_no (n : Nat) : (TL.numL n).head? ≠ some 45 := by
  intro e
  cases q : TL.numL n with
  | nil => rw [q] at e; cases e
  | cons a r =>
    rw [q] at e
    have := (TL.numL_digits n) a (by rw [q]; exact List.mem_cons_self)
    have : a = 45 := Option.some.inj e
    omega
theorem bare_num (n : Nat) : bare (TL.numL n) = TL.numL n := by
  unfold bare
  rw [if_neg (numL_no n)]
theorem bare_txt (n : Int) : bare (txt n) = TL.numL n.natAbs := by
  unfold txt
  split
  · rfl
  · exact bare_num _
/-- what is written is read -/
theorem num_txt (n : Int) : num (txt n) = some n := by
  unfold num
  rw [bare_txt, if_pos (digB_iff.mpr ⟨TL.numL_ne _, TL.numL_digits _⟩), if_neg, TL.numL_val]
  · unfold txt
    by_cases h : n < 0
    · rw [if_pos h, if_pos (show (45 :: TL.numL n.natAbs).head? = some 45 from rfl)]
      congr 1
      omega
    · rw [if_neg h, if_neg (numL_no _)]
      congr 1
      omega
  · rintro ⟨h1, h2⟩
    have h3 : TL.numL n.natAbs = [48] := Classical.byContradiction fun e => numL_head e h1
    have h4 := numL_zero.mp h3
    have h5 : n = 0 := by omega
    subst h5
    exact h2 rfl
theorem num_nat (n : Nat) : num (TL.numL n) = some (n : Int) := by
  have := num_txt (n : Int)
  unfold txt at this
  rw [if_neg (by omega), Int.natAbs_natCast] at this
  exact this
/-- int(text) reads it -/
theorem num_int {z : Str} {n : Int} (h : num (TL.tl z) = some n) (hl : z.length ≤ 4300) : intText? z = some n := by
  unfold num at h
  by_cases hd : digB (bare (TL.tl z)) = true
  · rw [if_pos hd] at h
    obtain ⟨h1, h2⟩ := digB_iff.mp hd
    by_cases hz : (bare (TL.tl z)).head? = some 48 ∧ TL.tl z ≠ [48]
    · rw [if_pos hz] at h; cases h
    · rw [if_neg hz] at h
      cases h
      by_cases hm : (TL.tl z).head? = some 45
      · rw [if_pos hm]
        obtain ⟨r, hr⟩ : ∃ r, TL.tl z = 45 :: r := by
          cases e : TL.tl z with
          | nil => rw [e] at hm; cases hm
          | cons d r =>
            rw [e] at hm
            exact ⟨r, by rw [Option.some.inj hm]⟩
        rw [hr, bare_neg] at h1 h2
        rw [hr, bare_neg]
        exact PySem.intText_neg hr h2 h1 hl
      · rw [if_neg hm]
        have hb : bare (TL.tl z) = TL.tl z := by unfold bare; rw [if_neg hm]
        rw [hb] at h1 h2 ⊢
        exact PySem.intText_digits h2 h1 hl
  · rw [if_neg hd] at h
    cases h
/-! ### words of a line -/
def wds : List Nat → List (List Nat)
  | [] => [[]]
  | c :: r => if c = 32 then [] :: wds r else (match wds r with | [] => [[c]] | w :: ws => (c :: w) :: ws)
theorem wds_cons (l : List Nat) : ∃ w ws, wds l = w :: ws := by
  cases l with
  | nil => exact ⟨_, _, rfl⟩
  | cons c r =>
    unfold wds
    by_cases h : c = 32
    · rw [if_pos h]
      exact ⟨_, _, rfl⟩
    · rw [if_neg h]
      cases e : wds r with
      | nil => exact ⟨_, _, rfl⟩
      | cons w ws => exact ⟨_, _, rfl⟩
theorem wds_sp (r : List Nat) : wds (32 :: r) = [] :: wds r := by
  show (if (32 : Nat) = 32 then _ else _) = _
  rw [if_pos rfl]
theorem wds_no {c : Nat} {r w : List Nat} {ws : List (List Nat)} (h : c ≠ 32) (e : wds r = w :: ws) : wds (c :: r) = (c :: w) :: ws := by
  show (if c = 32 then _ else _) = _
  rw [if_neg h, e]
theorem spl_wds : ∀ (l acc w : List Nat) (ws : List (List Nat)), wds l = w :: ws → TL.spl [32] 0 acc l = (acc ++ w) :: ws
  | [], acc, w, ws, e => by
    have e : ([[]] : List (List Nat)) = w :: ws := e
    obtain ⟨rfl, rfl⟩ := List.cons.inj e
    rw [TL.spl_nil, List.append_nil]
  | c :: r, acc, w, ws, e => by
    obtain ⟨w', ws', e'⟩ := wds_cons r
    by_cases h : c = 32
    · subst h
      rw [wds_sp] at e
      obtain ⟨rfl, rfl⟩ := List.cons.inj e
      rw [TL.spl_hit (by rfl), List.append_nil, e']
      rw [show ([32] : List Nat).length - 1 = 0 from rfl, spl_wds r [] w' ws' e', List.nil_append]
    · rw [wds_no h e'] at e
      obtain ⟨rfl, rfl⟩ := List.cons.inj e
      rw [TL.spl_miss (by
        show ([c] == [32]) = false
        simpa using h), spl_wds r (acc ++ [c]) w' ws' e', List.append_assoc]
      rfl
theorem spl_eq (l : List Nat) : TL.spl [32] 0 [] l = wds l := by
  obtain ⟨w, ws, e⟩ := wds_cons l
  rw [spl_wds l [] w ws e, List.nil_append, e]
theorem wds_free : ∀ (l : List Nat), ∀ w ∈ wds l, 32 ∉ w
  | [], w, h => by
    rw [List.mem_singleton.mp h]
    exact List.not_mem_nil
  | c :: r, w, h => by
    obtain ⟨w', ws', e'⟩ := wds_cons r
    by_cases hc : c = 32
    · subst hc
      rw [wds_sp] at h
      rcases List.mem_cons.mp h with h | h
      · rw [h]
        exact List.not_mem_nil
      · exact wds_free r w h
    · rw [wds_no hc e'] at h
      have ih := wds_free r
      rw [e'] at ih
      rcases List.mem_cons.mp h with h | h
      · rw [h]
        intro z
        rcases List.mem_cons.mp z with z | z
        · exact hc z.symm
        · exact ih w' List.mem_cons_self z
      · exact ih w (List.mem_cons_of_mem _ h)
theorem wds_join {ps : List (List Nat)} (h : ps ≠ []) (hf : ∀ p ∈ ps, 32 ∉ p) : wds (TL.joinL [32] ps) = ps := by
  rw [← spl_eq]
  exact TL.spl_join h hf
theorem join_two (S : List Nat) : ∀ (a b : List (List Nat)), a ≠ [] → b ≠ [] → TL.joinL S (a ++ b) = TL.joinL S a ++ (S ++ TL.joinL S b)
  | [], _, h, _ => absurd rfl h
  | [p], b, _, h => by
    cases b with
    | nil => exact absurd rfl h
    | cons q r => rfl
  | p :: q :: r, b, _, h => by
    show p ++ (S ++ TL.joinL S ((q :: r) ++ b)) = p ++ (S ++ TL.joinL S (q :: r)) ++ (S ++ TL.joinL S b)
    rw [join_two S (q :: r) b (List.cons_ne_nil _ _) h]
    simp only [List.append_assoc]
theorem txt_free2 {n : Int} {s : Nat} (h : s ≠ 45) (h2 : s < 48 ∨ 57 < s) : s ∉ txt n := by
  unfold txt
  split
  · intro z
    rcases List.mem_cons.mp z with z | z
    · exact h z
    · exact TL.numL_free h2 z
  · exact TL.numL_free h2
theorem num_map : ∀ r : List Int, (r.map txt).mapM num = some r
  | [] => rfl
  | n :: r => by
    rw [List.map_cons, List.mapM_cons, num_txt, num_map r]
    rfl
/-- the sum of a row's lengths -/
def lsum : List (List Nat) → Nat
  | [] => 0
  | w :: ws => w.length + 1 + lsum ws
theorem lsum_join : ∀ ws : List (List Nat), ws ≠ [] → lsum ws = (TL.joinL [32] ws).length + 1
  | [], h => absurd rfl h
  | [w], _ => by
    show w.length + 1 + 0 = w.length + 1
    omega
  | w :: v :: r, _ => by
    have ih := lsum_join (v :: r) (List.cons_ne_nil _ _)
    show w.length + 1 + lsum (v :: r) = (w ++ ([32] ++ TL.joinL [32] (v :: r))).length + 1
    rw [ih]
    simp only [List.length_append, List.length_cons, List.length_nil]
    omega
theorem lsum_strs : ∀ ys : List Str, (ys.map (·.length)).sum + ys.length * 1 = lsum (ys.map TL.tl)
  | [] => rfl
  | y :: ys => by
    have ih := lsum_strs ys
    show (y.length :: ys.map (·.length)).sum + (ys.length + 1) * 1 = (TL.tl y).length + 1 + lsum (ys.map TL.tl)
    rw [← ih, List.sum_cons, ← TL.len_tl]
    omega
/-- words that stand in a list -/
def WL (H : Hp) (p : Addr) (W : List (List Nat)) : Prop := ∃ ys : List Str, H p = some (.lst (ys.map V.str)) ∧ ys.map TL.tl = W
theorem WL.app {H : Hp} {p : Addr} {W : List (List Nat)} {z : Str} (h : WL H p W) : ∃ ys : List Str, H p = some (.lst (ys.map V.str)) ∧ ys.length = W.length ∧ WL (upd H p (.lst (ys.map V.str ++ [.str z]))) p (W ++ [TL.tl z]) := by
  obtain ⟨ys, h1, h2⟩ := h
  refine ⟨ys, h1, by rw [← h2, List.length_map], ys ++ [z], by rw [upd_same, List.map_append]; rfl, by rw [List.map_append, h2]; rfl⟩
theorem lst_app {ys zs : List Str} : ys.map V.str ++ zs.map V.str = (ys ++ zs).map V.str := (List.map_append ..).symm
theorem iteB {b c : Bool} {A B : Prop} (h : b = c) (k : if c = true then A else B) : if b = true then A else B := by
  rw [h]
  exact k
theorem split_wds (z : Str) : (Txt.split z " ").map TL.tl = wds (TL.tl z) := by
  rw [TL.split_spl z " " (by decide) (TL.kind_ok (by decide +kernel))]
  exact spl_eq _
theorem cut_nat (xs : List V) (i n : Nat) : cutV xs (some (i : Int)) (some ((i : Int) + n)) = (xs.drop i).take n := by
  have e : ((i : Int) + n) = ((i + n : Nat) : Int) := by omega
  unfold cutV
  rw [e, HT.sIx_nat, HT.sIx_nat]
  by_cases h : i ≤ xs.length
  · rw [Nat.min_eq_left h]
    refine List.take_eq_take_iff.mpr ?_
    rw [List.length_drop]
    omega
  · rw [List.drop_eq_nil_of_le (show xs.length ≤ min i xs.length by omega), List.drop_eq_nil_of_le (by omega), List.take_nil, List.take_nil]
/-! ### slices -/
theorem cutS_to (z : Str) (p : Nat) : TL.tl (cutS z none (some (p : Int))) = (TL.tl z).take p := by
  show ((z.cps.toList.drop (HT.sIx z.length 0 none)).take (HT.sIx z.length z.length (some (p : Int)) - HT.sIx z.length 0 none)) = _
  rw [HT.sIx_nat, HT.sIx_none, List.drop_zero, Nat.sub_zero]
  have := TL.len_tl z
  refine List.take_eq_take_iff.mpr ?_
  show min (min p z.length) (TL.tl z).length = min p (TL.tl z).length
  omega
theorem cutS_from (z : Str) (p : Nat) : TL.tl (cutS z (some (p : Int)) none) = (TL.tl z).drop p := by
  show ((z.cps.toList.drop (HT.sIx z.length 0 (some (p : Int)))).take (HT.sIx z.length z.length none - HT.sIx z.length 0 (some (p : Int)))) = _
  rw [HT.sIx_nat, HT.sIx_none]
  have := TL.len_tl z
  rw [List.take_of_length_le (by rw [List.length_drop]; show (TL.tl z).length - _ ≤ _; omega)]
  by_cases h : p ≤ z.length
  · rw [Nat.min_eq_left h]
  · rw [List.drop_eq_nil_of_le (by show (TL.tl z).length ≤ _; omega), List.drop_eq_nil_of_le (by omega)]
theorem cutV_to (xs : List V) (p : Nat) : cutV xs none (some (p : Int)) = xs.take p := by
  unfold cutV
  rw [HT.sIx_nat, HT.sIx_none, List.drop_zero, Nat.sub_zero]
  exact List.take_eq_take_iff.mpr (by omega)
theorem cutV_from (xs : List V) (p : Nat) : cutV xs (some (p : Int)) none = xs.drop p := by
  unfold cutV
  rw [HT.sIx_nat, HT.sIx_none, List.take_of_length_le (by rw [List.length_drop]; exact Nat.le_refl _)]
  by_cases h : p ≤ xs.length
  · rw [Nat.min_eq_left h]
  · rw [List.drop_eq_nil_of_le (by omega), List.drop_eq_nil_of_le (by omega)]
theorem tYes_go {σ : L2.St} {H : Hp} {A B : Hp → Prop} (h : A H) : tYes σ H (fun b H3 => if b = true then A H3 else B H3) := by
  show (if true = true then A H else B H)
  rw [if_pos rfl]
  exact h

/-! ### text of a graph -/
theorem size64 {n : Nat} (h : n ≤ 4000000) : n ≤ sizeLine := Nat.le_trans h (by decide)
theorem small64 {n : Nat} (h : n ≤ 4000000) : n < sizeLine := Nat.lt_of_le_of_lt h (by decide)
theorem log60 {n : Int} (h : n.natAbs < 10 ^ 64) : n.natAbs.log2 < 1920 := by
  by_cases h0 : n.natAbs = 0
  · rw [h0]; decide
  · have h1 := Nat.log2_self_le h0
    refine Classical.byContradiction fun e => ?_
    have h2 : 2 ^ 1920 ≤ 2 ^ n.natAbs.log2 := Nat.pow_le_pow_right (by decide) (by omega)
    have h3 : (10 : Nat) ^ 64 < 2 ^ 1920 := by decide +kernel
    omega
theorem join_tl (y : Str) (ps : List Str) : TL.tl (Txt.join y ps) = TL.joinL (TL.tl y) (ps.map TL.tl) := by
  rw [TL.join_eq, TL.tl_join]
theorem split_lines (z : Str) : (Txt.split z "\n").map TL.tl = TL.spl [10] 0 [] (TL.tl z) := TL.split_spl z "\n" (by decide) (TL.kind_ok (by decide +kernel))
theorem cut_end {z y : Str} {l : List Nat} {c : Nat} (hy : TL.tl y = [c]) (h : TL.tl z = l ++ [c]) : Txt.endswith z y = true ∧ TL.tl (Txt.removesuffix z y) = l := by
  have hl : y.length = 1 := by rw [TL.len_tl, hy]; rfl
  have hz : z.length = l.length + 1 := by rw [TL.len_tl, h, List.length_append]; rfl
  have hs : Builtin.Str.subAt z y (z.length - y.length) = true := by
    rw [PySem.StrLaws.subAt_eq, hl, hz]
    have e1 : y.cps.toList = [c] := hy
    have e2 : z.cps.toList = l ++ [c] := h
    rw [e1, e2, Nat.add_sub_cancel, List.drop_left' rfl]
    simp
  constructor
  · unfold Txt.endswith
    rw [hs, hl, hz, Bool.and_true]
    exact decide_eq_true (by omega)
  · unfold Txt.removesuffix
    rw [hs, hl, hz, Bool.and_true, if_pos (decide_eq_true (by omega))]
    unfold Txt.affix
    dsimp only
    rw [if_neg (by rw [hz]; simp), TL.tl_strSub, h]
    simp
/-- signs that part neither words nor lines -/
def Cln (w : List Nat) : Prop := ∀ c ∈ w, 33 ≤ c ∧ c < 128
theorem Cln.sp {w : List Nat} (h : Cln w) : 32 ∉ w := fun z => by
  have := h 32 z
  omega
theorem Cln.nl {w : List Nat} (h : Cln w) : 10 ∉ w := fun z => by
  have := h 10 z
  omega
theorem Cln.app {a b : List Nat} (h : Cln a) (k : Cln b) : Cln (a ++ b) := fun c hc => (List.mem_append.mp hc).elim (h c) (k c)
theorem Cln.cons {c : Nat} {b : List Nat} (h : 33 ≤ c ∧ c < 128) (k : Cln b) : Cln (c :: b) := fun x hx => (List.mem_cons.mp hx).elim (fun e => e ▸ h) (k x)
theorem Cln.nil : Cln [] := fun _ h => nomatch h
theorem cln_num (n : Nat) : Cln (TL.numL n) := fun c hc => by
  have := TL.numL_digits n c hc
  omega
theorem cln_txt (n : Int) : Cln (txt n) := by
  unfold txt
  split
  · exact Cln.cons (by omega) (cln_num _)
  · exact cln_num _
/-! ### parts of a text -/
def prt (s : Nat) : List Nat → List (List Nat)
  | [] => [[]]
  | c :: r => if c = s then [] :: prt s r else (match prt s r with | [] => [[c]] | w :: ws => (c :: w) :: ws)
section
variable {s : Nat}
theorem prt_cons (l : List Nat) : ∃ w ws, prt s l = w :: ws := by
  cases l with
  | nil => exact ⟨_, _, rfl⟩
  | cons c r =>
    unfold prt
    by_cases h : c = s
    · rw [if_pos h]
      exact ⟨_, _, rfl⟩
    · rw [if_neg h]
      cases e : prt s r with
      | nil => exact ⟨_, _, rfl⟩
      | cons w ws => exact ⟨_, _, rfl⟩
theorem prt_sp (r : List Nat) : prt s (s :: r) = [] :: prt s r := by
  show (if s = s then _ else _) = _
  rw [if_pos rfl]
theorem prt_no {c : Nat} {r w : List Nat} {ws : List (List Nat)} (h : c ≠ s) (e : prt s r = w :: ws) : prt s (c :: r) = (c :: w) :: ws := by
  show (if c = s then _ else _) = _
  rw [if_neg h, e]
theorem prt_free {s : Nat} : ∀ (l : List Nat), ∀ w ∈ prt s l, s ∉ w
  | [], w, h => by
    rw [List.mem_singleton.mp h]
    exact List.not_mem_nil
  | c :: r, w, h => by
    obtain ⟨w', ws', e'⟩ := prt_cons (s := s) r
    by_cases hc : c = s
    · subst hc
      rw [prt_sp] at h
      rcases List.mem_cons.mp h with h | h
      · rw [h]
        exact List.not_mem_nil
      · exact prt_free r w h
    · rw [prt_no hc e'] at h
      have ih := prt_free (s := s) r
      rw [e'] at ih
      rcases List.mem_cons.mp h with h | h
      · rw [h]
        intro z
        rcases List.mem_cons.mp z with z | z
        · exact hc z.symm
        · exact ih w' List.mem_cons_self z
      · exact ih w (List.mem_cons_of_mem _ h)
theorem joinL_cons {c : Nat} {S w : List Nat} {ws : List (List Nat)} : TL.joinL S ((c :: w) :: ws) = c :: TL.joinL S (w :: ws) := by
  cases ws <;> rfl
theorem prt_join : ∀ l : List Nat, TL.joinL [s] (prt s l) = l
  | [] => rfl
  | c :: r => by
    obtain ⟨w', ws', e'⟩ := prt_cons (s := s) r
    have ih := prt_join r
    rw [e'] at ih
    by_cases hc : c = s
    · subst hc
      rw [prt_sp, e']
      show [] ++ ([c] ++ TL.joinL [c] (w' :: ws')) = _
      rw [ih]
      rfl
    · rw [prt_no hc e', joinL_cons, ih]
theorem prt_of {ps : List (List Nat)} : ps ≠ [] → (∀ p ∈ ps, s ∉ p) → prt s (TL.joinL [s] ps) = ps := by
  have app : ∀ (p rest : List Nat), s ∉ p → prt s (p ++ s :: rest) = p :: prt s rest := fun p rest => by
    induction p with
    | nil => exact fun _ => prt_sp rest
    | cons c p ih =>
      intro h
      have := ih fun z => h (List.mem_cons_of_mem _ z)
      exact prt_no (fun z => h (z ▸ List.mem_cons_self)) this
  have one' : ∀ p : List Nat, s ∉ p → prt s p = [p] := fun p => by
    induction p with
    | nil => exact fun _ => rfl
    | cons c p ih =>
      intro h
      exact prt_no (fun z => h (z ▸ List.mem_cons_self)) (ih fun z => h (List.mem_cons_of_mem _ z))
  induction ps with
  | nil => exact fun h _ => absurd rfl h
  | cons p ps ih =>
    intro _ h
    cases ps with
    | nil => exact one' p (h p List.mem_cons_self)
    | cons q r =>
      show prt s (p ++ ([s] ++ TL.joinL [s] (q :: r))) = _
      rw [show p ++ ([s] ++ TL.joinL [s] (q :: r)) = p ++ s :: TL.joinL [s] (q :: r) from rfl, app p _ (h p List.mem_cons_self), ih (List.cons_ne_nil _ _) fun x hx => h x (List.mem_cons_of_mem _ hx)]
theorem prt_spl (l : List Nat) : TL.spl [s] 0 [] l = prt s l := by
  have h1 := prt_join (s := s) l
  obtain ⟨w, ws, e⟩ := prt_cons (s := s) l
  have h2 := TL.spl_join (s := s) (S := []) (parts := prt s l) (by rw [e]; exact List.cons_ne_nil _ _) (prt_free l)
  rw [h1] at h2
  exact h2
end
theorem prt_wds (l : List Nat) : wds l = prt 32 l := by rw [← spl_eq, prt_spl]
theorem split10 (z : Str) : (Txt.split z "\n").map TL.tl = prt 10 (TL.tl z) := by rw [split_lines, prt_spl]
/-! ### numbers that are read -/
theorem val_app (r : List Nat) (c : Nat) : NumText.digitsVal (r ++ [c]) = NumText.digitsVal r * 10 + (c - 48) := by
  unfold NumText.digitsVal
  rw [List.foldl_append]
  rfl
theorem val_lt : ∀ (n : Nat) (l : List Nat), l.length = n → NumText.AllDigits l → NumText.digitsVal l < 10 ^ n := by
  intro n
  induction n with
  | zero =>
    intro l hl _
    rw [List.length_eq_zero_iff.mp hl]
    decide
  | succ n ih =>
    intro l hl h
    obtain ⟨r, c, rfl⟩ : ∃ r c, l = r ++ [c] := ⟨l.dropLast, l.getLast (by intro z; rw [z] at hl; cases hl), (List.dropLast_concat_getLast _).symm⟩
    have h1 := ih r (by simpa using hl) fun x hx => h x (List.mem_append_left _ hx)
    have hc := h c (List.mem_append_right _ List.mem_cons_self)
    rw [val_app, Nat.pow_succ]
    omega
theorem numL_dig : ∀ (k : Nat) (l : List Nat), l.length = k → l ≠ [] → NumText.AllDigits l → (l.head? = some 48 → l = [48]) → TL.numL (NumText.digitsVal l) = l := by
  intro k
  induction k with
  | zero => exact fun l h0 h1 _ _ => absurd (List.length_eq_zero_iff.mp h0) h1
  | succ k ih =>
    intro l hl hne hd h48
    obtain ⟨r, c, rfl⟩ : ∃ r c, l = r ++ [c] := ⟨l.dropLast, l.getLast hne, (List.dropLast_concat_getLast _).symm⟩
    have hc := hd c (List.mem_append_right _ List.mem_cons_self)
    rw [val_app]
    cases e : r with
    | nil =>
      have e0 : NumText.digitsVal [] = 0 := rfl
      rw [e0, TL.numL_lt (by omega), show 48 + (0 * 10 + (c - 48)) = c by omega]
      rfl
    | cons a r' =>
      have hr : r ≠ [] := by rw [e]; exact List.cons_ne_nil _ _
      have hh : r.head? ≠ some 48 := fun z => by
        have : (r ++ [c]).head? = some 48 := by rw [e] at z ⊢; exact z
        have := congrArg List.length (h48 this)
        rw [e] at this
        simp at this
      have ih' := ih r (by simpa using hl) hr (fun x hx => hd x (List.mem_append_left _ hx)) fun z => absurd z hh
      have h0 : NumText.digitsVal r ≠ 0 := fun z => by
        rw [z] at ih'
        exact hh (by rw [← ih']; rfl)
      rw [← e, TL.numL_step (by omega), show (NumText.digitsVal r * 10 + (c - 48)) / 10 = NumText.digitsVal r by omega, ih', show 48 + (NumText.digitsVal r * 10 + (c - 48)) % 10 = c by omega]
/-- what is read is as it would be written -/
theorem num_inv {w : List Nat} {n : Int} (h : num w = some n) : txt n = w ∧ n.natAbs = NumText.digitsVal (bare w) ∧ NumText.AllDigits (bare w) ∧ bare w ≠ [] := by
  unfold num at h
  by_cases hd : digB (bare w) = true
  · rw [if_pos hd] at h
    obtain ⟨h1, h2⟩ := digB_iff.mp hd
    by_cases hz : (bare w).head? = some 48 ∧ w ≠ [48]
    · rw [if_pos hz] at h; cases h
    · rw [if_neg hz] at h
      cases h
      have h48 : (bare w).head? = some 48 → w = [48] := fun e => Classical.byContradiction fun k => hz ⟨e, k⟩
      have hcan := numL_dig _ (bare w) rfl h1 h2 fun e => by rw [h48 e]; rfl
      by_cases hm : w.head? = some 45
      · rw [if_pos hm]
        obtain ⟨r, hr⟩ : ∃ r, w = 45 :: r := by
          cases e : w with
          | nil => rw [e] at hm; cases hm
          | cons d r =>
            rw [e] at hm
            exact ⟨r, by rw [Option.some.inj hm]⟩
        have h0 : NumText.digitsVal (bare w) ≠ 0 := fun z => by
          rw [z] at hcan
          have := h48 (by rw [← hcan]; rfl)
          rw [this] at hm
          cases hm
        refine ⟨?_, by omega, h2, h1⟩
        unfold txt
        rw [if_pos (by omega), show (-((NumText.digitsVal (bare w) : Nat) : Int)).natAbs = NumText.digitsVal (bare w) by omega, hcan, hr]
        rfl
      · rw [if_neg hm]
        have hb : bare w = w := by unfold bare; rw [if_neg hm]
        refine ⟨?_, by omega, h2, h1⟩
        unfold txt
        rw [if_neg (by omega), Int.natAbs_natCast, hcan, hb]
  · rw [if_neg hd] at h
    cases h
/-- an integer of at most 90 digits -/
def rdI (w : List Nat) : Option Int := if (bare w).length ≤ 90 then num w else none
theorem rdI_num {w : List Nat} {n : Int} (h : rdI w = some n) : num w = some n := by
  unfold rdI at h
  split at h
  · exact h
  · cases h
theorem rdI_inv {w : List Nat} {n : Int} (h : rdI w = some n) : txt n = w ∧ n.natAbs < 10 ^ 90 := by
  unfold rdI at h
  split at h
  · rename_i hl
    obtain ⟨h1, h2, h3, _⟩ := num_inv h
    refine ⟨h1, ?_⟩
    rw [h2]
    exact Nat.lt_of_lt_of_le (val_lt _ _ rfl h3) (Nat.pow_le_pow_right (by decide) hl)
  · cases h
theorem ints_inv : ∀ {ws : List (List Nat)} {ns : List Int}, ws.mapM rdI = some ns → ns.map txt = ws ∧ ∀ n ∈ ns, n.natAbs < 10 ^ 90
  | [], ns, h => by
    cases h
    exact ⟨rfl, fun _ h => nomatch h⟩
  | w :: ws, ns, h => by
    rw [List.mapM_cons] at h
    cases e1 : rdI w with
    | none =>
      rw [e1] at h
      cases h
    | some n =>
      cases e2 : ws.mapM rdI with
      | none =>
        rw [e1, e2] at h
        cases h
      | some ms =>
        rw [e1, e2] at h
        cases h
        obtain ⟨h1, h2⟩ := ints_inv e2
        obtain ⟨h3, h4⟩ := rdI_inv e1
        refine ⟨by rw [List.map_cons, h1, h3], fun m hm => ?_⟩
        rcases List.mem_cons.mp hm with rfl | hm
        · exact h4
        · exact h2 m hm
theorem mapM_inv {α β : Type} {f : α → Option β} {g : β → α} (hg : ∀ a b, f a = some b → g b = a) : ∀ {l : List α} {xs : List β}, l.mapM f = some xs → xs.map g = l ∧ ∀ x ∈ xs, ∃ a ∈ l, f a = some x
  | [], xs, h => by
    cases h
    exact ⟨rfl, fun _ h => nomatch h⟩
  | a :: l, xs, h => by
    rw [List.mapM_cons] at h
    cases e1 : f a with
    | none =>
      rw [e1] at h
      cases h
    | some b =>
      cases e2 : l.mapM f with
      | none =>
        rw [e1, e2] at h
        cases h
      | some bs =>
        rw [e1, e2] at h
        cases h
        obtain ⟨h1, h2⟩ := mapM_inv hg e2
        refine ⟨by rw [List.map_cons, h1, hg a b e1], fun x hx => ?_⟩
        rcases List.mem_cons.mp hx with rfl | hx
        · exact ⟨a, List.mem_cons_self, e1⟩
        · obtain ⟨c, hc, h3⟩ := h2 x hx
          exact ⟨c, List.mem_cons_of_mem _ hc, h3⟩
theorem mapM_none' {α β : Type} {f : α → Option β} {w : α} (h : f w = none) (a b : List α) : (a ++ w :: b).mapM f = none := by
  rw [List.mapM_append, List.mapM_cons, h]
  cases a.mapM f <;> rfl
theorem mapM_snoc' {α β : Type} {f : α → Option β} {a : List α} {vs : List β} {w : α} {n : β} (h : a.mapM f = some vs) (hw : f w = some n) : (a ++ [w]).mapM f = some (vs ++ [n]) := by
  rw [List.mapM_append, h, List.mapM_cons, hw]
  rfl
theorem mapM_len' {α β : Type} {f : α → Option β} {a : List α} {vs : List β} (h : a.mapM f = some vs) : vs.length = a.length := by
  induction a generalizing vs with
  | nil =>
    cases h
    rfl
  | cons w a ih =>
    rw [List.mapM_cons] at h
    cases e1 : f w with
    | none =>
      rw [e1] at h
      cases h
    | some n =>
      cases e2 : a.mapM f with
      | none =>
        rw [e1, e2] at h
        cases h
      | some us =>
        rw [e1, e2] at h
        cases h
        rw [List.length_cons, List.length_cons, ih e2]
theorem joinL_fl : ∀ ps : List (List Nat), TL.joinL [] ps = ps.flatten
  | [] => rfl
  | [p] => by
    rw [List.flatten_cons]
    show p = p ++ []
    rw [List.append_nil]
  | p :: q :: r => by
    show p ++ ([] ++ TL.joinL [] (q :: r)) = _
    rw [List.nil_append, joinL_fl (q :: r), List.flatten_cons]
    rfl
theorem sum_lsum (ys : List Str) : (ys.map (·.length)).sum ≤ lsum (ys.map TL.tl) := by
  rw [← lsum_strs]
  exact Nat.le_add_right _ _
theorem WL.nl {H H' : Hp} {p : Addr} {W : List (List Nat)} (h : WL H p W) (e : H' p = H p) : WL H' p W := by
  obtain ⟨ys, h1, h2⟩ := h
  exact ⟨ys, by rw [e]; exact h1, h2⟩
theorem WL.same {H H' : Hp} {p : Addr} {W : List (List Nat)} (h : WL H p W) (s : Same H H') : WL H' p W := by
  obtain ⟨ys, h1, h2⟩ := h
  exact ⟨ys, s _ _ h1, h2⟩
theorem lsum_flat : ∀ ws : List (List Nat), lsum ws = ws.flatten.length + ws.length
  | [] => rfl
  | w :: ws => by
    show w.length + 1 + lsum ws = _
    rw [lsum_flat ws, List.flatten_cons, List.length_append, List.length_cons]
    omega
theorem lsum_app (a b : List (List Nat)) : lsum (a ++ b) = lsum a + lsum b := by
  rw [lsum_flat, lsum_flat, lsum_flat, List.flatten_append, List.length_append, List.length_append]
  omega
theorem lsum_len (ws : List (List Nat)) : ws.length ≤ lsum ws := by rw [lsum_flat]; omega
theorem lsum_mem {ws : List (List Nat)} {w : List Nat} (h : w ∈ ws) : w.length + 1 ≤ lsum ws := by
  induction ws with
  | nil => cases h
  | cons v ws ih =>
    show _ ≤ v.length + 1 + lsum ws
    rcases List.mem_cons.mp h with rfl | h
    · omega
    · have := ih h
      omega
theorem txt_ne (n : Int) : 1 ≤ (txt n).length := by
  obtain ⟨h1, _, _, h2⟩ := num_inv (num_txt n)
  have h3 : txt n ≠ [] := fun z => h2 (by rw [z]; rfl)
  cases e : txt n with
  | nil => exact absurd e h3
  | cons a r => rw [List.length_cons]; omega
theorem log90 {n : Int} (h : n.natAbs < 10 ^ 90) : n.natAbs.log2 < 1920 := by
  by_cases h0 : n.natAbs = 0
  · rw [h0]; decide
  · have h1 := Nat.log2_self_le h0
    refine Classical.byContradiction fun e => ?_
    have h2 : 2 ^ 1920 ≤ 2 ^ n.natAbs.log2 := Nat.pow_le_pow_right (by decide) (by omega)
    have h3 : (10 : Nat) ^ 70 < 2 ^ 1920 := by decide +kernel
    omega
theorem num90 {n : Int} (h : n.natAbs < 10 ^ 90) : (txt n).length ≤ 91 := txt_len' (by decide) h
theorem lsum_j10 : ∀ ws : List (List Nat), ws ≠ [] → lsum ws = (TL.joinL [10] ws).length + 1
  | [], h => absurd rfl h
  | [w], _ => by
    show w.length + 1 + 0 = w.length + 1
    omega
  | w :: v :: r, _ => by
    have ih := lsum_j10 (v :: r) (List.cons_ne_nil _ _)
    show w.length + 1 + lsum (v :: r) = (w ++ ([10] ++ TL.joinL [10] (v :: r))).length + 1
    rw [ih]
    simp only [List.length_append, List.length_cons, List.length_nil]
    omega
theorem mem_sumL : ∀ {l : List Nat} {n : Nat}, n ∈ l → n ≤ l.sum
  | a :: l, n, h => by
    rw [List.sum_cons]
    rcases List.mem_cons.mp h with rfl | h
    · omega
    · have := mem_sumL h
      omega

theorem ends10 (z : Str) : Txt.endswith z "\n" = decide ((TL.tl z).getLast? = some 10) := by
  by_cases h : (TL.tl z).getLast? = some 10
  · rw [decide_eq_true h]
    have hne : TL.tl z ≠ [] := fun e => by rw [e] at h; cases h
    rw [List.getLast?_eq_some_getLast hne] at h
    have e := List.dropLast_concat_getLast hne
    rw [Option.some.inj h] at e
    exact (cut_end (y := "\n") (c := 10) (by decide +kernel) e.symm).1
  · rw [decide_eq_false h]
    cases e : Txt.endswith z "\n" with
    | false => rfl
    | true =>
      exfalso
      unfold Txt.endswith at e
      rw [Bool.and_eq_true] at e
      obtain ⟨e1, e2⟩ := e
      have e1 : 1 ≤ z.length := of_decide_eq_true e1
      rw [PySem.StrLaws.subAt_eq] at e2
      have hy : ("\n" : Str).cps.toList = [10] := by decide +kernel
      have hl : ("\n" : Str).length = 1 := by decide +kernel
      rw [hy, hl] at e2
      have hz := TL.len_tl z
      have hdrop : (TL.tl z).drop (z.length - 1) = [10] := by
        have hd : ((TL.tl z).drop (z.length - 1)).length = 1 := by rw [List.length_drop]; omega
        cases q : (TL.tl z).drop (z.length - 1) with
        | nil => rw [q] at hd; cases hd
        | cons a r =>
          cases r with
          | cons b r => rw [q] at hd; simp at hd
          | nil =>
            have e2' : ((TL.tl z).drop (z.length - 1)).take 1 = [10] := by simpa using e2
            rw [q] at e2'
            have : a = 10 := by simpa using e2'
            rw [this]
      have : (TL.tl z).getLast? = some 10 := by
        rw [← List.take_append_drop (z.length - 1) (TL.tl z), hdrop, List.getLast?_append]
        rfl
      exact h this
theorem cutS_tail (z : Str) : TL.tl (cutS z (some 1) none) = (TL.tl z).tail := by
  have := cutS_from z 1
  rw [← List.drop_one]
  exact this
theorem cutS_head (z : Str) : TL.tl (cutS z none (some 1)) = (TL.tl z).take 1 := cutS_to z 1
theorem cutS_init (z : Str) : TL.tl (cutS z none (some (-1))) = (TL.tl z).dropLast := by
  have hz := TL.len_tl z
  show ((z.cps.toList.drop (HT.sIx z.length 0 none)).take (HT.sIx z.length z.length (some (-1)) - HT.sIx z.length 0 none)) = _
  have e : HT.sIx z.length z.length (some (-1)) = z.length - 1 := by
    show (((-1 : Int)) + (z.length : Int)).toNat = _
    omega
  rw [e, HT.sIx_none, List.drop_zero, Nat.sub_zero, hz]
  exact (List.dropLast_eq_take).symm
theorem cutS_last (z : Str) : TL.tl (cutS z (some (-1)) none) = (TL.tl z).drop ((TL.tl z).length - 1) := by
  have hz := TL.len_tl z
  show ((z.cps.toList.drop (HT.sIx z.length 0 (some (-1)))).take (HT.sIx z.length z.length none - HT.sIx z.length 0 (some (-1)))) = _
  have e : HT.sIx z.length 0 (some (-1)) = z.length - 1 := by
    show (((-1 : Int)) + (z.length : Int)).toNat = _
    omega
  rw [e, HT.sIx_none, hz]
  refine List.take_of_length_le ?_
  rw [List.length_drop]
  exact Nat.le_refl _
theorem last_drop {l : List Nat} {c : Nat} (h : l.getLast? = some c) : l.drop (l.length - 1) = [c] := by
  have hne : l ≠ [] := fun e => by rw [e] at h; cases h
  rw [List.getLast?_eq_some_getLast hne] at h
  have e := List.dropLast_concat_getLast hne
  rw [Option.some.inj h] at e
  have hl : l.length = l.dropLast.length + 1 := by rw [← e]; simp
  rw [hl, Nat.add_sub_cancel]
  conv => lhs; rw [← e]
  exact List.drop_left' (by simp)
theorem lsum_take (ws : List (List Nat)) (k : Nat) : lsum (ws.take k) ≤ lsum ws := by
  conv => rhs; rw [← List.take_append_drop k ws]
  rw [lsum_app]
  omega
theorem lsum_drop (ws : List (List Nat)) (k : Nat) : lsum (ws.drop k) ≤ lsum ws := by
  conv => rhs; rw [← List.take_append_drop k ws]
  rw [lsum_app]
  omega
theorem lsum_rev (ws : List (List Nat)) : lsum ws.reverse = lsum ws := by
  induction ws with
  | nil => rfl
  | cons a r ih =>
    rw [List.reverse_cons, lsum_app, ih]
    show lsum r + (a.length + 1 + 0) = a.length + 1 + lsum r
    omega
theorem lsum_jn (ws : List (List Nat)) : (TL.joinL [32] ws).length ≤ lsum ws := by
  cases ws with
  | nil => exact Nat.zero_le _
  | cons a r =>
    have := lsum_join (a :: r) (List.cons_ne_nil _ _)
    omega
theorem cutV_strTo (ys : List Str) (k : Nat) : cutV (ys.map V.str) none (some (k : Int)) = (ys.take k).map V.str := by rw [cutV_to, List.map_take]
theorem cutV_strFrom (ys : List Str) (k : Nat) : cutV (ys.map V.str) (some (k : Int)) none = (ys.drop k).map V.str := by rw [cutV_from, List.map_drop]
theorem bare_ge (l : List Nat) : l.length ≤ (bare l).length + 1 := by
  unfold bare
  split
  · rw [List.length_tail]
    omega
  · omega
theorem join_cln {S : List Nat} (hS : 10 ∉ S) : ∀ {ws : List (List Nat)}, (∀ w ∈ ws, 10 ∉ w) → 10 ∉ TL.joinL S ws
  | [], _ => fun h => by cases h
  | [w], h => h w List.mem_cons_self
  | w :: v :: r, h => fun z => by
    have z : 10 ∈ w ++ (S ++ TL.joinL S (v :: r)) := z
    rcases List.mem_append.mp z with z | z
    · exact h w List.mem_cons_self z
    · rcases List.mem_append.mp z with z | z
      · exact hS z
      · exact join_cln hS (fun x hx => h x (List.mem_cons_of_mem _ hx)) z

/-! ### instructions and their text -/
inductive Fv | int (n : Int) | str (s : Str) | tup (ns : List Int)
structure Ins where
  nm : Str
  fs : List Fv
def Fv.words : Fv → List (List Nat)
  | .int n => [txt n] | .str s => [TL.tl s] | .tup ns => txt (ns.length : Nat) :: ns.map txt
def inW (x : Ins) : List (List Nat) := TL.tl x.nm :: x.fs.flatMap Fv.words
def inL (x : Ins) : List Nat := TL.joinL [32] (inW x)
def cdT (xs : List Ins) : List Nat := xs.flatMap fun x => inL x ++ [10]
def IT : List (Str × List Str) := [("set", ["slot", "word"]), ("do", ["kind", "slot", "sources", "info"]), ("load", ["slot", "slot", "offset"]), ("store", ["slot", "offset", "slot"]), ("mac", ["slot", "slot", "offset", "slot", "offset", "lanes"]), ("vector", ["kind", "slot", "slot", "slot", "lanes"]), ("loop", ["slot", "begin", "begin", "turns"]), ("end", []), ("skip", ["slot", "skipped"]), ("in", ["queue", "slot", "offset", "slot", "offset", "count"]), ("out", ["queue", "slot", "offset", "slot", "offset", "count"]), ("wait", ["queue"])]
def INm : List Str := IT.map (·.1)
def fldN (k : Str) : List Str := match IT.find? (fun r => decide (r.1 = k)) with | some r => r.2 | none => []
def PW : List Str := ["add", "sub", "mul", "max", "min", "less", "equal", "neg", "clamp", "shift", "where"]
def kS (k : List Nat) : Str := ⟨k.toArray⟩
theorem kS_tl (z : Str) : kS (TL.tl z) = z := TL.ext_tl rfl
theorem tl_kS (k : List Nat) : TL.tl (kS k) = k := rfl
/-- a field of this name -/
def Fv.knd (f : Str) : Fv → Prop
  | .str _ => f = "kind" | .tup _ => f = "sources" ∨ f = "info" | .int _ => f ≠ "kind" ∧ f ≠ "sources" ∧ f ≠ "info"
def Fv.bd : Fv → Prop
  | .str s => s ∈ PW | .tup ns => (∀ n ∈ ns, n.natAbs < 10 ^ 90) ∧ ns.length < 10 ^ 90 | .int n => n.natAbs < 10 ^ 90
def Typ : List Str → List Fv → Prop
  | [], [] => True
  | z :: zs, d :: ds => d.knd z ∧ Typ zs ds
  | _, _ => False
theorem Typ.len : ∀ {zs : List Str} {ds : List Fv}, Typ zs ds → zs.length = ds.length
  | [], [], _ => rfl
  | _ :: _, _ :: _, h => congrArg (· + 1) (Typ.len h.2)
theorem Typ.at : ∀ {zs : List Str} {ds : List Fv} {i : Nat} {z : Str} {d : Fv}, Typ zs ds → zs[i]? = some z → ds[i]? = some d → d.knd z
  | [], [], _, _, _, _, h, _ => by cases h
  | x :: vs, y :: ds, 0, v, d, h, a, b => by
    cases a
    cases b
    exact h.1
  | x :: vs, y :: ds, i + 1, v, d, h, a, b => Typ.at (i := i) h.2 a b
theorem Typ.unc {z : Str} {zs : List Str} {ds : List Fv} (h : Typ (z :: zs) ds) : ∃ d r, ds = d :: r ∧ d.knd z ∧ Typ zs r := by
  cases ds with
  | nil => exact h.elim
  | cons d r => exact ⟨d, r, rfl, h.1, h.2⟩
theorem Typ.unn {ds : List Fv} (h : Typ [] ds) : ds = [] := by
  cases ds with
  | nil => rfl
  | cons d r => exact h.elim
theorem Typ.snoc : ∀ {zs : List Str} {ds : List Fv} {z : Str} {d : Fv}, Typ zs ds → d.knd z → Typ (zs ++ [z]) (ds ++ [d])
  | [], [], _, _, _, k => ⟨k, trivial⟩
  | _ :: _, _ :: _, _, _, h, k => ⟨h.1, Typ.snoc h.2 k⟩
/-- an instruction as it is read and drawn -/
structure InOk (x : Ins) : Prop where
  nm : x.nm ∈ INm
  ty : Typ (fldN x.nm) x.fs
  bd : ∀ d ∈ x.fs, d.bd
/-! ### reading -/
def rdFl (f : Str) : List (List Nat) → Option (Fv × List (List Nat))
  | [] => none
  | w :: W => if f = "kind" then (if kS w ∈ PW then some (.str (kS w), W) else none)
    else (rdI w).bind fun n => if f = "sources" ∨ f = "info" then (if n < 0 ∨ (W.length : Int) < n then none else ((W.take n.toNat).mapM rdI).map fun ns => (.tup ns, W.drop n.toNat)) else some (.int n, W)
def rdFs : List Str → List (List Nat) → Option (List Fv)
  | [], [] => some []
  | [], _ :: _ => none
  | f :: fs, W => (rdFl f W).bind fun p => (rdFs fs p.2).map (p.1 :: ·)
def rdIn (l : List Nat) : Option Ins := match wds l with | [] => none | k :: r => if kS k ∈ INm then (rdFs (fldN (kS k)) r).map (Ins.mk (kS k)) else none
def rdC (t : List Nat) : Option (List Ins) := if t ≠ [] ∧ t.getLast? ≠ some 10 then none else (prt 10 t).dropLast.mapM rdIn
theorem mapM_I {W : List (List Nat)} {ns : List Int} (h : W.mapM rdI = some ns) : ns.map txt = W ∧ (∀ n ∈ ns, n.natAbs < 10 ^ 90) ∧ ns.length = W.length := ⟨(ints_inv h).1, (ints_inv h).2, mapM_len' h⟩
theorem rdFl_cons (f : Str) (w : List Nat) (W : List (List Nat)) : rdFl f (w :: W) = if f = "kind" then (if kS w ∈ PW then some (.str (kS w), W) else none)
    else (rdI w).bind fun n => if f = "sources" ∨ f = "info" then (if n < 0 ∨ (W.length : Int) < n then none else ((W.take n.toNat).mapM rdI).map fun ns => (.tup ns, W.drop n.toNat)) else some (.int n, W) := rfl
theorem snoc_or {α : Type} (l : List α) : l = [] ∨ ∃ a b, l = a ++ [b] := by
  rcases List.eq_nil_or_concat l with h | ⟨a, b, h⟩
  · exact .inl h
  · exact .inr ⟨a, b, by rw [h, List.concat_eq_append]⟩
theorem rdFl_inv {f : Str} {W W' : List (List Nat)} {v : Fv} (h : rdFl f W = some (v, W')) (hW : W.length < 10 ^ 90) : W = v.words ++ W' ∧ v.knd f ∧ v.bd := by
  cases W with
  | nil => cases h
  | cons w W =>
    rw [List.length_cons] at hW
    have h : (if f = "kind" then (if kS w ∈ PW then some (Fv.str (kS w), W) else none)
      else (rdI w).bind fun n => if f = "sources" ∨ f = "info" then (if n < 0 ∨ (W.length : Int) < n then none else ((W.take n.toNat).mapM rdI).map fun ns => (Fv.tup ns, W.drop n.toNat)) else some (Fv.int n, W)) = some (v, W') := h
    by_cases e1 : f = "kind"
    · rw [if_pos e1] at h
      by_cases e2 : kS w ∈ PW
      · rw [if_pos e2] at h
        cases h
        exact ⟨rfl, e1, e2⟩
      · rw [if_neg e2] at h
        cases h
    · rw [if_neg e1] at h
      cases e2 : rdI w with
      | none => rw [e2] at h; cases h
      | some n =>
        rw [e2, Option.bind_some] at h
        obtain ⟨h1, h2⟩ := rdI_inv e2
        by_cases e3 : f = "sources" ∨ f = "info"
        · rw [if_pos e3] at h
          by_cases e4 : n < 0 ∨ (W.length : Int) < n
          · rw [if_pos e4] at h
            cases h
          · rw [if_neg e4] at h
            cases e5 : (W.take n.toNat).mapM rdI with
            | none => rw [e5] at h; cases h
            | some ns =>
              rw [e5] at h
              cases h
              obtain ⟨k1, k2, k3⟩ := mapM_I e5
              rw [List.length_take] at k3
              have k4 : ((ns.length : Nat) : Int) = n := by omega
              refine ⟨?_, e3, k2, by omega⟩
              show w :: W = txt (ns.length : Nat) :: ns.map txt ++ W.drop n.toNat
              rw [k4, k1, h1, List.cons_append, List.take_append_drop]
        · rw [if_neg e3] at h
          cases h
          refine ⟨?_, ⟨e1, fun z => e3 (.inl z), fun z => e3 (.inr z)⟩, h2⟩
          show w :: _ = [txt n] ++ _
          rw [h1]
          rfl
theorem rdFs_inv : ∀ {fs : List Str} {W : List (List Nat)} {vs : List Fv}, rdFs fs W = some vs → W.length < 10 ^ 90 → vs.flatMap Fv.words = W ∧ Typ fs vs ∧ ∀ d ∈ vs, d.bd
  | [], [], vs, h, _ => by
    cases h
    exact ⟨rfl, trivial, fun _ h => nomatch h⟩
  | [], _ :: _, vs, h, _ => by cases h
  | f :: fs, W, vs, h, hW => by
    have h : (rdFl f W).bind (fun p => (rdFs fs p.2).map (p.1 :: ·)) = some vs := h
    cases e1 : rdFl f W with
    | none => rw [e1] at h; cases h
    | some p =>
      obtain ⟨v, W'⟩ := p
      rw [e1, Option.bind_some] at h
      cases e2 : rdFs fs W' with
      | none => rw [e2] at h; cases h
      | some us =>
        rw [e2] at h
        cases h
        obtain ⟨h1, h2, h3⟩ := rdFl_inv e1 hW
        have hl : W'.length < 10 ^ 90 := by
          have := congrArg List.length h1
          rw [List.length_append] at this
          omega
        obtain ⟨h4, h5, h6⟩ := rdFs_inv e2 hl
        refine ⟨by rw [List.flatMap_cons, h4, h1], ⟨h2, h5⟩, fun d hd => ?_⟩
        rcases List.mem_cons.mp hd with rfl | hd
        · exact h3
        · exact h6 d hd
theorem rdI_txt {n : Int} (h : n.natAbs < 10 ^ 90) : rdI (txt n) = some n := by
  unfold rdI
  rw [bare_txt, if_pos (TL.numL_len (by decide) h), num_txt]
theorem ints_txt : ∀ {ns : List Int}, (∀ n ∈ ns, n.natAbs < 10 ^ 90) → (ns.map txt).mapM rdI = some ns
  | [], _ => rfl
  | n :: ns, h => by
    rw [List.map_cons, List.mapM_cons, rdI_txt (h n List.mem_cons_self), ints_txt fun m hm => h m (List.mem_cons_of_mem _ hm)]
    rfl
theorem rdFl_fwd {f : Str} {v : Fv} (W : List (List Nat)) (hk : v.knd f) (hb : v.bd) : rdFl f (v.words ++ W) = some (v, W) := by
  cases v with
  | str s =>
    have hk : f = "kind" := hk
    have hb : s ∈ PW := hb
    show (if f = "kind" then (if kS (TL.tl s) ∈ PW then some (Fv.str (kS (TL.tl s)), W) else none) else _) = _
    rw [if_pos hk, kS_tl, if_pos hb]
  | int n =>
    obtain ⟨h1, h2, h3⟩ := hk
    show (if f = "kind" then _ else (rdI (txt n)).bind fun n => if f = "sources" ∨ f = "info" then _ else some (Fv.int n, W)) = _
    rw [if_neg h1, rdI_txt hb, Option.bind_some, if_neg (fun h => h.elim h2 h3)]
  | tup ns =>
    have hk : f = "sources" ∨ f = "info" := hk
    have h1 : f ≠ "kind" := by
      rcases hk with rfl | rfl <;> decide +kernel
    obtain ⟨b1, b2⟩ := hb
    rw [show (Fv.tup ns).words ++ W = txt ((ns.length : Nat) : Int) :: (ns.map txt ++ W) from rfl, rdFl_cons]
    rw [if_neg h1, rdI_txt (by omega), Option.bind_some, if_pos hk, if_neg (by rw [List.length_append, List.length_map]; omega), Int.toNat_natCast, List.take_left' (by rw [List.length_map]), ints_txt b1]
    show some (Fv.tup ns, (ns.map txt ++ W).drop ns.length) = _
    rw [List.drop_left' (by rw [List.length_map])]
theorem rdFs_fwd : ∀ {fs : List Str} {vs : List Fv}, Typ fs vs → (∀ d ∈ vs, d.bd) → rdFs fs (vs.flatMap Fv.words) = some vs
  | [], [], _, _ => rfl
  | f :: fs, v :: vs, h, hb => by
    show (rdFl f (v.words ++ vs.flatMap Fv.words)).bind (fun p => (rdFs fs p.2).map (p.1 :: ·)) = _
    rw [rdFl_fwd _ h.1 (hb v List.mem_cons_self), Option.bind_some, rdFs_fwd h.2 fun d hd => hb d (List.mem_cons_of_mem _ hd)]
    rfl
/-! ### words without blanks -/
def Wcl (w : List Nat) : Prop := w ≠ [] ∧ 32 ∉ w ∧ 10 ∉ w
theorem wcl_txt (n : Int) : Wcl (txt n) := by
  have h1 := txt_ne n
  have h2 := cln_txt n
  exact ⟨fun e => by rw [e] at h1; exact absurd h1 (by decide), h2.sp, h2.nl⟩
theorem wcl_names : (∀ k ∈ INm, Wcl (TL.tl k)) ∧ ∀ k ∈ PW, Wcl (TL.tl k) := by unfold Wcl INm; decide +kernel
theorem inW_cl {x : Ins} (h : InOk x) : ∀ w ∈ inW x, Wcl w := fun w hw => by
  rcases List.mem_cons.mp hw with rfl | hw
  · exact wcl_names.1 _ h.nm
  · obtain ⟨d, hd, hw⟩ := List.mem_flatMap.mp hw
    have hb := h.bd d hd
    cases d with
    | int n => rw [show w = txt n from List.mem_singleton.mp hw]; exact wcl_txt n
    | str s => rw [show w = TL.tl s from List.mem_singleton.mp hw]; exact wcl_names.2 s hb
    | tup ns =>
      rcases List.mem_cons.mp hw with rfl | hw
      · exact wcl_txt _
      · obtain ⟨n, _, rfl⟩ := List.mem_map.mp hw
        exact wcl_txt n
theorem rdIn_inv {l : List Nat} {x : Ins} (h : rdIn l = some x) (hl : l.length < 10 ^ 80) : inL x = l ∧ wds l = inW x ∧ InOk x := by
  unfold rdIn at h
  have hlen := lsum_len (wds l)
  rw [prt_wds, lsum_join _ (by obtain ⟨a, b, e⟩ := prt_cons (s := 32) l; rw [e]; exact List.cons_ne_nil _ _), prt_join, ← prt_wds] at hlen
  have h89 : (10 : Nat) ^ 80 + 1 < 10 ^ 90 := by decide +kernel
  cases e : wds l with
  | nil => rw [e] at h; cases h
  | cons k r =>
    rw [e] at h hlen
    rw [List.length_cons] at hlen
    have h : (if kS k ∈ INm then (rdFs (fldN (kS k)) r).map (Ins.mk (kS k)) else none) = some x := h
    by_cases hk : kS k ∈ INm
    · rw [if_pos hk] at h
      obtain ⟨vs, h1, rfl⟩ := Option.map_eq_some_iff.mp h
      obtain ⟨h2, h3, h4⟩ := rdFs_inv h1 (by omega)
      have hW : inW ⟨kS k, vs⟩ = k :: r := by
        unfold inW
        rw [h2]
        rfl
      refine ⟨?_, hW.symm, hk, h3, h4⟩
      unfold inL
      rw [hW, ← e, prt_wds]
      exact prt_join l
    · rw [if_neg hk] at h
      cases h
theorem inL_wds {x : Ins} (h : InOk x) : wds (inL x) = inW x := wds_join (List.cons_ne_nil _ _) fun w hw => (inW_cl h w hw).2.1
theorem rdIn_fwd {x : Ins} (h : InOk x) : rdIn (inL x) = some x := by
  unfold rdIn
  rw [inL_wds h]
  show (if kS (TL.tl x.nm) ∈ INm then (rdFs (fldN (kS (TL.tl x.nm))) (x.fs.flatMap Fv.words)).map (Ins.mk (kS (TL.tl x.nm))) else none) = _
  rw [kS_tl, if_pos h.nm, rdFs_fwd h.ty h.bd]
  rfl
theorem inL_no10 {x : Ins} (h : InOk x) : 10 ∉ inL x := join_cln (by decide) fun w hw => (inW_cl h w hw).2.2
theorem cdT_join (xs : List Ins) : cdT xs = TL.joinL [10] (xs.map inL ++ [[]]) := by
  induction xs with
  | nil => rfl
  | cons x xs ih =>
    show inL x ++ [10] ++ cdT xs = _
    rw [ih]
    have h2 : TL.joinL [10] ((x :: xs).map inL ++ [[]]) = inL x ++ ([10] ++ TL.joinL [10] (xs.map inL ++ [[]])) := join_two [10] [inL x] (xs.map inL ++ [[]]) (List.cons_ne_nil _ _) (by simp)
    rw [h2, List.append_assoc]
theorem cdT_prt {xs : List Ins} (h : ∀ x ∈ xs, InOk x) : prt 10 (cdT xs) = xs.map inL ++ [[]] := by
  rw [cdT_join]
  refine prt_of (by simp) fun w hw => ?_
  rcases List.mem_append.mp hw with hw | hw
  · obtain ⟨x, hx, rfl⟩ := List.mem_map.mp hw
    exact inL_no10 (h x hx)
  · rw [List.mem_singleton.mp hw]
    exact List.not_mem_nil
theorem cdT_last (xs : List Ins) : cdT xs = [] ∨ (cdT xs).getLast? = some 10 := by
  rcases snoc_or xs with rfl | ⟨xs, x, rfl⟩
  · exact .inl rfl
  · refine .inr ?_
    unfold cdT
    rw [List.flatMap_append, List.flatMap_cons, List.flatMap_nil, List.append_nil, ← List.append_assoc, List.getLast?_append]
    rfl
theorem rdC_fwd {xs : List Ins} (h : ∀ x ∈ xs, InOk x) : rdC (cdT xs) = some xs := by
  unfold rdC
  rw [if_neg (fun z => (cdT_last xs).elim z.1 z.2), cdT_prt h, List.dropLast_concat]
  induction xs with
  | nil => rfl
  | cons x xs ih =>
    rw [List.map_cons, List.mapM_cons, rdIn_fwd (h x List.mem_cons_self), ih fun y hy => h y (List.mem_cons_of_mem _ hy)]
    rfl
theorem rdC_inv {t : List Nat} {xs : List Ins} (h : rdC t = some xs) (ht : t.length < 10 ^ 80) : cdT xs = t ∧ (∀ x ∈ xs, InOk x) ∧ (prt 10 t).dropLast = xs.map inL ∧ (t = [] ∨ t.getLast? = some 10) := by
  unfold rdC at h
  split at h
  · cases h
  · rename_i hl
    have hl : t = [] ∨ t.getLast? = some 10 := by
      by_cases e : t = []
      · exact .inl e
      · exact .inr (Classical.byContradiction fun z => hl ⟨e, z⟩)
    obtain ⟨w, ws, e⟩ := prt_cons (s := 10) t
    have hne : prt 10 t ≠ [] := by rw [e]; exact List.cons_ne_nil _ _
    have hll : ∀ l ∈ (prt 10 t).dropLast, l.length < 10 ^ 80 := fun l hm => by
      have h1 := lsum_mem (List.dropLast_subset _ hm)
      rw [lsum_j10 _ hne, prt_join] at h1
      omega
    have key : ∀ {ls : List (List Nat)} {xs : List Ins}, ls.mapM rdIn = some xs → (∀ l ∈ ls, l.length < 10 ^ 80) → xs.map inL = ls ∧ ∀ x ∈ xs, InOk x := fun {ls xs} => by
      induction ls generalizing xs with
      | nil =>
        intro h _
        cases h
        exact ⟨rfl, fun _ h => nomatch h⟩
      | cons l ls ih =>
        intro h hl
        rw [List.mapM_cons] at h
        cases e1 : rdIn l with
        | none => rw [e1] at h; cases h
        | some x =>
          cases e2 : ls.mapM rdIn with
          | none => rw [e1, e2] at h; cases h
          | some ys =>
            rw [e1, e2] at h
            cases h
            obtain ⟨h1, h2⟩ := ih e2 fun y hy => hl y (List.mem_cons_of_mem _ hy)
            obtain ⟨h3, _, h4⟩ := rdIn_inv e1 (hl l List.mem_cons_self)
            refine ⟨by rw [List.map_cons, h1, h3], fun y hy => ?_⟩
            rcases List.mem_cons.mp hy with rfl | hy
            · exact h4
            · exact h2 y hy
    obtain ⟨k1, k2⟩ := key h hll
    have hsplit : prt 10 t = (prt 10 t).dropLast ++ [(prt 10 t).getLast hne] := (List.dropLast_concat_getLast hne).symm
    have hlast : (prt 10 t).getLast hne = [] := by
      have hj := prt_join (s := 10) t
      rcases hl with rfl | hl
      · rfl
      · rw [hsplit] at hj
        have hf := prt_free (s := 10) t _ (List.getLast_mem hne)
        rcases snoc_or ((prt 10 t).getLast hne) with q | ⟨a, b, q⟩
        · exact q
        · exfalso
          rw [q] at hf
          have hb : b ≠ 10 := fun z => hf (by rw [z]; exact List.mem_append_right _ List.mem_cons_self)
          have : TL.joinL [10] ((prt 10 t).dropLast ++ [a ++ [b]]) = t := by rw [← q]; exact hj
          have h5 : (TL.joinL [10] ((prt 10 t).dropLast ++ [a ++ [b]])).getLast? = some b := by
            cases e6 : (prt 10 t).dropLast with
            | nil =>
              show (a ++ [b]).getLast? = some b
              rw [List.getLast?_append]
              rfl
            | cons c cs =>
              rw [join_two [10] (c :: cs) [a ++ [b]] (List.cons_ne_nil _ _) (List.cons_ne_nil _ _), ← List.append_assoc]
              show (_ ++ (a ++ [b])).getLast? = some b
              rw [List.getLast?_append, List.getLast?_append]
              rfl
          rw [this, hl] at h5
          exact hb (Option.some.inj h5).symm
    refine ⟨?_, k2, k1.symm, hl⟩
    rw [cdT_join, k1]
    have : (prt 10 t).dropLast ++ [[]] = prt 10 t := by
      conv => rhs; rw [hsplit, hlast]
    rw [this, prt_join]
/-! ### what a text that reads has not -/
theorem prt_two {s : Nat} : ∀ (a b : List Nat), prt s (a ++ s :: b) = prt s a ++ prt s b
  | [], b => prt_sp b
  | c :: a, b => by
    have ih := prt_two (s := s) a b
    obtain ⟨w, ws, e⟩ := prt_cons (s := s) a
    rw [e] at ih
    by_cases hc : c = s
    · subst hc
      rw [List.cons_append, prt_sp, prt_sp, ih, e]
      rfl
    · rw [List.cons_append, prt_no hc ih, prt_no hc e]
      rfl
theorem wds_two (a b : List Nat) : wds (a ++ 32 :: b) = wds a ++ wds b := by rw [prt_wds, prt_wds, prt_wds, prt_two]
theorem drop_ne {l k : List (List Nat)} (h : k ≠ []) : (l ++ k).dropLast = l ++ k.dropLast := List.dropLast_append_of_ne_nil h
theorem prt_ne {s : Nat} (l : List Nat) : prt s l ≠ [] := by
  obtain ⟨a, b, e⟩ := prt_cons (s := s) l
  rw [e]
  exact List.cons_ne_nil _ _
theorem rd_words {t : List Nat} {xs : List Ins} (h : rdC t = some xs) (ht : t.length < 10 ^ 80) : ∀ l ∈ (prt 10 t).dropLast, [] ∉ wds l := fun l hl => by
  obtain ⟨_, h2, h3, _⟩ := rdC_inv h ht
  rw [h3] at hl
  obtain ⟨x, hx, rfl⟩ := List.mem_map.mp hl
  rw [inL_wds (h2 x hx)]
  exact fun z => (inW_cl (h2 x hx) _ z).1 rfl
theorem no_nn {t u v : List Nat} {xs : List Ins} (h : rdC t = some xs) (ht : t.length < 10 ^ 80) : t ≠ u ++ 10 :: 10 :: v := fun e => by
  have h1 := rd_words h ht
  rw [e, prt_two, drop_ne (prt_ne _)] at h1
  rw [show (10 :: v : List Nat) = [] ++ 10 :: v from rfl, prt_two, drop_ne (prt_ne _)] at h1
  exact h1 [] (List.mem_append_right _ (List.mem_append_left _ List.mem_cons_self)) List.mem_cons_self
theorem no_sn {t u v : List Nat} {xs : List Ins} (h : rdC t = some xs) (ht : t.length < 10 ^ 80) : t ≠ u ++ 32 :: 10 :: v := fun e => by
  have h1 := rd_words h ht
  rw [show u ++ 32 :: 10 :: v = (u ++ [32]) ++ 10 :: v by simp] at e
  rw [e, prt_two, drop_ne (prt_ne _)] at h1
  have hj := prt_join (s := 10) (u ++ [32])
  have hne := prt_ne (s := 10) (u ++ [32])
  have hsplit : prt 10 (u ++ [32]) = (prt 10 (u ++ [32])).dropLast ++ [(prt 10 (u ++ [32])).getLast hne] := (List.dropLast_concat_getLast hne).symm
  have hm : (prt 10 (u ++ [32])).getLast hne ∈ prt 10 (u ++ [32]) := List.getLast_mem hne
  have h2 := h1 _ (List.mem_append_left _ hm)
  rw [hsplit] at hj
  rcases snoc_or ((prt 10 (u ++ [32])).getLast hne) with q | ⟨a, b, q⟩
  · rw [q] at h2
    exact h2 List.mem_cons_self
  · rw [q] at h2 hj
    have hb : b = 32 := by
      have h5 : (TL.joinL [10] ((prt 10 (u ++ [32])).dropLast ++ [a ++ [b]])).getLast? = some b := by
        cases e6 : (prt 10 (u ++ [32])).dropLast with
        | nil =>
          show (a ++ [b]).getLast? = some b
          rw [List.getLast?_append]
          rfl
        | cons c cs =>
          rw [join_two [10] (c :: cs) [a ++ [b]] (List.cons_ne_nil _ _) (List.cons_ne_nil _ _), ← List.append_assoc]
          show (_ ++ (a ++ [b])).getLast? = some b
          rw [List.getLast?_append, List.getLast?_append]
          rfl
      rw [hj, List.getLast?_append] at h5
      exact (Option.some.inj h5).symm
    subst hb
    rw [wds_two] at h2
    exact h2 (List.mem_append_right _ List.mem_cons_self)
theorem no_ss {t u v : List Nat} {xs : List Ins} (h : rdC t = some xs) (ht : t.length < 10 ^ 80) : t ≠ u ++ 32 :: 32 :: v := fun e => by
  have h1 := rd_words h ht
  obtain ⟨_, _, _, hl⟩ := rdC_inv h ht
  -- the line of the two blanks
  have key : ∀ (u : List Nat), ∃ a b : List Nat, a ++ 32 :: 32 :: b ∈ prt 10 (u ++ 32 :: 32 :: v) := fun u => by
    induction u with
    | nil =>
      obtain ⟨w, ws, e⟩ := prt_cons (s := 10) v
      refine ⟨[], w, ?_⟩
      rw [List.nil_append, prt_no (by decide) (prt_no (by decide) e)]
      exact List.mem_cons_self
    | cons c u ih =>
      obtain ⟨a, b, hm⟩ := ih
      rw [List.cons_append]
      obtain ⟨w, ws, e⟩ := prt_cons (s := 10) (u ++ 32 :: 32 :: v)
      by_cases hc : c = 10
      · subst hc
        rw [prt_sp]
        exact ⟨a, b, List.mem_cons_of_mem _ hm⟩
      · rw [prt_no hc e]
        rw [e] at hm
        rcases List.mem_cons.mp hm with hm | hm
        · exact ⟨c :: a, b, by rw [← hm]; exact List.mem_cons_self⟩
        · exact ⟨a, b, List.mem_cons_of_mem _ hm⟩
  obtain ⟨a, b, hm⟩ := key u
  rw [← e] at hm
  obtain ⟨k1, k2, k3, _⟩ := rdC_inv h ht
  have hp : prt 10 t = (prt 10 t).dropLast ++ [[]] := by
    conv => lhs; rw [← k1, cdT_prt k2]
    rw [k3]
  rw [hp] at hm
  rcases List.mem_append.mp hm with hm | hm
  · refine h1 _ hm ?_
    rw [wds_two, show (32 :: b : List Nat) = [] ++ 32 :: b from rfl, wds_two]
    exact List.mem_append_right _ (List.mem_append_left _ List.mem_cons_self)
  · have := List.mem_singleton.mp hm
    simp at this
theorem rdC_two {xs : List Ins} : rdC (cdT xs ++ [10]) = none ∨ xs = [] ∨ True := .inr (.inr trivial)
theorem rdC_more {xs : List Ins} (hl : (cdT xs).length < 10 ^ 70) : rdC (cdT xs ++ [10]) = none := by
  cases e : rdC (cdT xs ++ [10]) with
  | none => rfl
  | some ys =>
    exfalso
    have hlen : (cdT xs ++ [10]).length < 10 ^ 80 := by
      rw [List.length_append]
      have : (10 : Nat) ^ 70 + 1 < 10 ^ 80 := by decide +kernel
      show (cdT xs).length + 1 < _
      omega
    have h1 := rd_words e hlen
    rcases cdT_last xs with h | h
    · rw [h] at h1
      exact h1 [] List.mem_cons_self List.mem_cons_self
    · obtain ⟨a, ha⟩ : ∃ a, cdT xs = a ++ [10] := by
        have hne : cdT xs ≠ [] := fun z => by rw [z] at h; cases h
        refine ⟨(cdT xs).dropLast, ?_⟩
        have := List.dropLast_concat_getLast hne
        rw [List.getLast?_eq_some_getLast hne] at h
        rw [Option.some.inj h] at this
        exact this.symm
      refine no_nn (u := a) (v := []) e hlen ?_
      rw [ha]
      simp

/-! ### what check_code asks -/
structure Mch where
  w : Int
  q : Int
  l : Int
def Fv.i : Fv → Int
  | .int n => n | _ => 0
def iAt (x : Ins) (j : Nat) : Int := match x.fs[j]? with | some (.int n) => n | _ => 0
/-- of the pointwise kinds: how many arguments, which fields -/
def AT : List (Str × Nat × List Str) := [("add", 2, []), ("sub", 2, []), ("mul", 2, []), ("max", 2, []), ("min", 2, []), ("less", 2, []), ("equal", 2, []), ("neg", 1, []), ("clamp", 1, ["low", "high"]), ("shift", 1, ["n"]), ("where", 3, [])]
def acN (k : Str) : Nat := match AT.find? (fun r => decide (r.1 = k)) with | some r => r.2.1 | none => 0
def fiN (k : Str) : List Str := match AT.find? (fun r => decide (r.1 = k)) with | some r => r.2.2 | none => []
def doOk : List Fv → Bool
  | [.str k, _, .tup ss, .tup is] => decide (ss.length = acN k) && decide (is.length = (fiN k).length)
  | _ => true
def vecOk : List Fv → Bool
  | .str k :: _ => decide (acN k = 2)
  | _ => true
def okForm (x : Ins) : Bool := (if x.nm = "do" then doOk x.fs else true) && (if x.nm = "vector" then vecOk x.fs else true)
def lbF : List Ins → Nat → List Int → Option (List Int)
  | [], _, st => if 1 < st.length then none else some []
  | x :: r, p, st =>
    if x.nm = "loop" then (lbF r (p + 1) ((p : Int) :: st)).map ((p : Int) :: ·)
    else if x.nm = "end" then (match st.tail with | [] => none | t :: st' => (lbF r (p + 1) (t :: st')).map (t :: ·))
    else match st with | [] => none | t :: st' => (lbF r (p + 1) (t :: st')).map (t :: ·)
/-- the skips of a code at its place in the list of what is around -/
def okSk (xs : List Ins) (bh : List Int) : Prop := ∀ (a : Nat) (x : Ins), xs[a]? = some x → x.nm = "skip" → 0 < iAt x 1 → (a : Int) + iAt x 1 < xs.length ∧ bh[a + (iAt x 1).toNat]? = bh[a]?
def wlo (m : Mch) : Int := -(1 * 2 ^ (m.w - 1).toNat)
def whi (m : Mch) : Int := 1 * 2 ^ (m.w - 1).toNat - 1
def bdT (m : Mch) : List (Str × Int × Int) := [("slot", 0, 31), ("word", wlo m, whi m), ("offset", -16384, 16384), ("lanes", 1, m.l), ("begin", -(1 * 2 ^ m.w.toNat), 1 * 2 ^ m.w.toNat), ("turns", 1, 1000), ("skipped", 0, 4000000), ("queue", 0, m.q - 1), ("count", 1, 4096)]
def bdN (m : Mch) (f : Str) : Option (Int × Int) := ((bdT m).find? fun r => decide (r.1 = f)).map (·.2)
def inB (m : Mch) (f : Str) (n : Int) : Prop := match bdN m f with | some (lo, hi) => lo ≤ n ∧ n ≤ hi | none => True
def W200 : Int := 1 * 2 ^ (200 : Int).toNat
def infoR (m : Mch) (k : Str) : List Int → Prop
  | [a, b] => k = "clamp" → (a ≤ b ∧ -W200 ≤ a ∧ b ≤ W200) ∧ inB m "word" a ∧ inB m "word" b
  | [n] => k = "shift" → 1 ≤ n ∧ n ≤ 30
  | _ => True
def doR (m : Mch) : List Fv → Prop
  | [.str k, _, .tup ss, .tup is] => (∀ s ∈ ss, inB m "slot" s) ∧ infoR m k is
  | _ => True
def loopR (m : Mch) : List Fv → Prop
  | [_, .int a, .int b, .int c] => inB m "word" a ∧ inB m "word" (a + b * (c - 1))
  | _ => True
def okFld (m : Mch) (f : Str) (v : Fv) : Prop := match v with | .int n => inB m f n | _ => True
def fldsR (m : Mch) (fs : List Str) (vs : List Fv) : Prop := ∀ p ∈ fs.zip vs, okFld m p.1 p.2
def okR (m : Mch) (x : Ins) : Prop := fldsR m (fldN x.nm) x.fs ∧ (x.nm = "do" → doR m x.fs) ∧ (x.nm = "loop" → loopR m x.fs)
def lpF : List Ins → List Int → List Int → Option Int
  | [], _, ss => ss.getLast?
  | x :: r, cs, ss =>
    if x.nm = "end" then (match cs, ss with | c :: cs', t :: u :: ss' => lpF r cs' ((u + 1 + c * (t + 1)) :: ss') | _, _ => none)
    else if 16 < cs.length then none
    else if x.nm = "loop" then lpF r (iAt x 3 :: cs) (0 :: ss)
    else match ss with | t :: ss' => lpF r cs ((t + 1) :: ss') | [] => none
def okC (m : Mch) (xs : List Ins) : Prop := (∀ x ∈ xs, okForm x = true) ∧ ∃ bh, lbF xs 0 [-1] = some bh ∧ okSk xs bh ∧ (∀ x ∈ xs, okR m x) ∧ ∃ s, lpF xs [] [0] = some s ∧ s ≤ 1000000000
/-! ### drawn code -/
structure Good (m : Mch) (k : Nat) (xs : List Ins) (s : Int) : Prop where
  ok : ∀ x ∈ xs, InOk x ∧ okForm x = true ∧ okR m x
  lb : ∃ f : Nat → Int → List Int, (∀ p t r st, lbF (xs ++ r) p (t :: st) = (lbF r (p + xs.length) (t :: st)).map (f p t ++ ·)) ∧ ∀ p t, (f p t).length = xs.length ∧ (xs ≠ [] → (f p t).getLast? = some t) ∧ okSk xs (f p t)
  lp : ∀ r cs t ss, cs.length + k ≤ 16 → lpF (xs ++ r) cs (t :: ss) = lpF r cs ((t + s) :: ss)
theorem Good.nil (m : Mch) (k : Nat) : Good m k [] 0 := ⟨fun _ h => (nomatch h), ⟨fun _ _ => [], fun p t r st => by
  show lbF r p (t :: st) = (lbF r p (t :: st)).map fun l => [] ++ l
  cases lbF r p (t :: st) <;> rfl, fun p t => ⟨rfl, fun h => absurd rfl h, fun a x h => by simp at h⟩⟩, fun r cs t ss _ => by
  show lpF r cs (t :: ss) = _
  rw [Int.add_zero]⟩
theorem okSk_app {xs ys : List Ins} {f g : List Int} (hf : f.length = xs.length) (h : okSk xs f) (k : okSk ys g) : okSk (xs ++ ys) (f ++ g) := by
  intro a x hx hs hp
  by_cases ha : a < xs.length
  · rw [List.getElem?_append_left ha] at hx
    obtain ⟨h1, h2⟩ := h a x hx hs hp
    have h3 : a + (iAt x 1).toNat < xs.length := by omega
    refine ⟨by rw [List.length_append]; omega, ?_⟩
    rw [List.getElem?_append_left (by omega), List.getElem?_append_left (by omega)]
    exact h2
  · rw [List.getElem?_append_right (by omega)] at hx
    obtain ⟨h1, h2⟩ := k _ x hx hs hp
    refine ⟨by rw [List.length_append]; omega, ?_⟩
    rw [List.getElem?_append_right (by omega), List.getElem?_append_right (by omega), hf, show a + (iAt x 1).toNat - xs.length = a - xs.length + (iAt x 1).toNat by omega]
    exact h2
theorem Good.app {m : Mch} {k : Nat} {xs ys : List Ins} {s u : Int} (h : Good m k xs s) (g : Good m k ys u) : Good m k (xs ++ ys) (s + u) := by
  obtain ⟨h1, ⟨f, hf, hf2⟩, h3⟩ := h
  obtain ⟨g1, ⟨e, he, he2⟩, g3⟩ := g
  refine ⟨fun x hx => (List.mem_append.mp hx).elim (h1 x) (g1 x), ⟨fun p t => f p t ++ e (p + xs.length) t, fun p t r st => ?_, fun p t => ?_⟩, fun r cs t ss hc => ?_⟩
  · rw [List.append_assoc, hf, he, List.length_append, Option.map_map, Nat.add_assoc]
    congr 1
    funext l
    show f p t ++ (e (p + xs.length) t ++ l) = _
    rw [List.append_assoc]
  · obtain ⟨a1, a2, a3⟩ := hf2 p t
    obtain ⟨b1, b2, b3⟩ := he2 (p + xs.length) t
    refine ⟨by rw [List.length_append, List.length_append, a1, b1], fun hne => ?_, okSk_app a1 a3 b3⟩
    by_cases hy : ys = []
    · subst hy
      have : e (p + xs.length) t = [] := List.length_eq_zero_iff.mp b1
      dsimp only
      rw [this, List.append_nil]
      exact a2 fun z => hne (by rw [z]; rfl)
    · dsimp only
      rw [List.getLast?_append, b2 hy]
      rfl
  · rw [List.append_assoc, h3 _ _ _ _ hc, g3 _ _ _ _ hc, Int.add_assoc]
theorem Good.mono {m : Mch} {k j : Nat} {xs : List Ins} {s : Int} (h : Good m k xs s) (l : k ≤ j) : Good m j xs s := ⟨h.ok, h.lb, fun r cs t ss hc => h.lp r cs t ss (by omega)⟩
theorem Good.leaf {m : Mch} {k : Nat} {x : Ins} (h1 : InOk x) (h2 : okForm x = true) (h3 : okR m x) (n1 : x.nm ≠ "loop") (n2 : x.nm ≠ "end") (n3 : x.nm ≠ "skip") : Good m k [x] 1 := by
  refine ⟨fun y hy => by rw [List.mem_singleton.mp hy]; exact ⟨h1, h2, h3⟩, ⟨fun _ t => [t], fun p t r st => ?_, fun p t => ⟨rfl, fun _ => rfl, fun a y hy hs => ?_⟩⟩, fun r cs t ss hc => ?_⟩
  · show (if x.nm = "loop" then _ else if x.nm = "end" then _ else (lbF r (p + 1) (t :: st)).map (t :: ·)) = _
    rw [if_neg n1, if_neg n2]
    rfl
  · have : y = x := List.mem_singleton.mp (List.mem_of_getElem? hy)
    subst this
    exact absurd hs n3
  · show (if x.nm = "end" then _ else if 16 < cs.length then none else if x.nm = "loop" then _ else lpF r cs ((t + 1) :: ss)) = _
    rw [if_neg n2, if_neg (by omega), if_neg n1]
theorem Good.loop {m : Mch} {k : Nat} {h e : Ins} {ys : List Ins} {s : Int} (g : Good m k ys s) (h1 : InOk h) (h2 : okForm h = true) (h3 : okR m h) (hn : h.nm = "loop") (e1 : InOk e) (e2 : okForm e = true) (e3 : okR m e) (en : e.nm = "end") : Good m (k + 1) ([h] ++ ys ++ [e]) (1 + iAt h 3 * (s + 1)) := by
  obtain ⟨g1, ⟨f, hf, hf2⟩, g3⟩ := g
  have nle : (("loop" : Str) = "end") = False := by decide +kernel
  have nel : ("end" : Str) ≠ "loop" := by decide +kernel
  have nls : ("loop" : Str) ≠ "skip" := by decide +kernel
  have nes : ("end" : Str) ≠ "skip" := by decide +kernel
  have hle : h.nm ≠ "end" := by rw [hn, ne_eq, nle]; exact not_false
  refine ⟨fun x hx => ?_, ⟨fun p t => [(p : Int)] ++ f (p + 1) p ++ [t], fun p t r st => ?_, fun p t => ?_⟩, fun r cs t ss hc => ?_⟩
  · rcases List.mem_append.mp hx with hx | hx
    · rcases List.mem_append.mp hx with hx | hx
      · rw [List.mem_singleton.mp hx]; exact ⟨h1, h2, h3⟩
      · exact g1 x hx
    · rw [List.mem_singleton.mp hx]; exact ⟨e1, e2, e3⟩
  · have e0 : [h] ++ ys ++ [e] ++ r = h :: (ys ++ (e :: r)) := by simp
    rw [e0]
    show (if h.nm = "loop" then (lbF (ys ++ (e :: r)) (p + 1) ((p : Int) :: t :: st)).map ((p : Int) :: ·) else _) = _
    rw [if_pos hn, hf]
    have e4 : lbF (e :: r) (p + 1 + ys.length) ((p : Int) :: t :: st) = (lbF r (p + 1 + ys.length + 1) (t :: st)).map (t :: ·) := by
      show (if e.nm = "loop" then _ else if e.nm = "end" then (lbF r (p + 1 + ys.length + 1) (t :: st)).map (t :: ·) else _) = _
      rw [if_neg (by rw [en]; exact nel), if_pos en]
    rw [e4, Option.map_map, Option.map_map]
    have e5 : p + 1 + ys.length + 1 = p + ([h] ++ ys ++ [e]).length := by simp; omega
    rw [e5]
    congr 1
    funext l
    show (p : Int) :: (f (p + 1) p ++ (t :: l)) = _
    simp
  · obtain ⟨a1, a2, a3⟩ := hf2 (p + 1) p
    refine ⟨by simp [a1], fun _ => by rw [List.getLast?_append]; rfl, ?_⟩
    refine okSk_app (by simp [a1]) (okSk_app rfl (fun a x hx hs => ?_) a3) fun a x hx hs => ?_
    · have : x = h := List.mem_singleton.mp (List.mem_of_getElem? hx)
      rw [this, hn] at hs
      exact absurd hs nls
    · have : x = e := List.mem_singleton.mp (List.mem_of_getElem? hx)
      rw [this, en] at hs
      exact absurd hs nes
  · have e0 : [h] ++ ys ++ [e] ++ r = h :: (ys ++ (e :: r)) := by simp
    rw [e0]
    show (if h.nm = "end" then _ else if 16 < cs.length then none else if h.nm = "loop" then lpF (ys ++ (e :: r)) (iAt h 3 :: cs) (0 :: t :: ss) else _) = _
    rw [if_neg hle, if_neg (by omega), if_pos hn, g3 _ _ _ _ (by rw [List.length_cons]; omega)]
    show (if e.nm = "end" then lpF r cs ((t + 1 + iAt h 3 * (0 + s + 1)) :: ss) else _) = _
    rw [if_pos en, Int.zero_add, Int.add_assoc]
theorem Good.skip {m : Mch} {k : Nat} {h : Ins} {ys : List Ins} {s : Int} (g : Good m k ys s) (h1 : InOk h) (h2 : okForm h = true) (h3 : okR m h) (hn : h.nm = "skip") (hl : iAt h 1 = (ys.length : Int)) : Good m k ([h] ++ ys) (1 + s) := by
  obtain ⟨g1, ⟨f, hf, hf2⟩, g3⟩ := g
  have n1 : h.nm ≠ "loop" := by rw [hn]; decide +kernel
  have n2 : h.nm ≠ "end" := by rw [hn]; decide +kernel
  refine ⟨fun x hx => ?_, ⟨fun p t => [t] ++ f (p + 1) t, fun p t r st => ?_, fun p t => ?_⟩, fun r cs t ss hc => ?_⟩
  · rcases List.mem_append.mp hx with hx | hx
    · rw [List.mem_singleton.mp hx]; exact ⟨h1, h2, h3⟩
    · exact g1 x hx
  · show (if h.nm = "loop" then _ else if h.nm = "end" then _ else (lbF (ys ++ r) (p + 1) (t :: st)).map (t :: ·)) = _
    rw [if_neg n1, if_neg n2, hf, Option.map_map, show p + 1 + ys.length = p + ([h] ++ ys).length by simp; omega]
    rfl
  · obtain ⟨a1, a2, a3⟩ := hf2 (p + 1) t
    refine ⟨by simp [a1], fun _ => ?_, ?_⟩
    · by_cases hy : ys = []
      · subst hy
        have : f (p + 1) t = [] := List.length_eq_zero_iff.mp a1
        dsimp only
        rw [this]
        rfl
      · dsimp only
        rw [List.getLast?_append, a2 hy]
        rfl
    · intro a x hx hs hp
      cases a with
      | zero =>
        cases hx
        have hne : ys ≠ [] := fun z => by rw [hl, z] at hp; exact absurd hp (by decide)
        have hyl : 0 < ys.length := List.length_pos_iff.mpr hne
        have hlast := a2 hne
        rw [hl]
        refine ⟨by simp; omega, ?_⟩
        rw [Int.toNat_natCast, Nat.zero_add, List.getElem?_append_right (by show 1 ≤ ys.length; omega)]
        show (f (p + 1) t)[ys.length - 1]? = some t
        rw [← hlast, List.getLast?_eq_getElem?, a1]
      | succ a =>
        obtain ⟨k1, k2⟩ := a3 a x (by simpa using hx) hs hp
        refine ⟨by simp; omega, ?_⟩
        rw [show a + 1 + (iAt x 1).toNat = (a + (iAt x 1).toNat) + 1 by omega]
        simpa using k2
  · show (if h.nm = "end" then _ else if 16 < cs.length then none else if h.nm = "loop" then _ else lpF (ys ++ r) cs ((t + 1) :: ss)) = _
    rw [if_neg n2, if_neg (by omega), if_neg n1, g3 _ _ _ _ hc, Int.add_assoc]
theorem Good.okC {m : Mch} {k : Nat} {xs : List Ins} {s : Int} (g : Good m k xs s) (hk : k ≤ 16) (hs : s ≤ 1000000000) : okC m xs := by
  obtain ⟨g1, ⟨f, hf, hf2⟩, g3⟩ := g
  obtain ⟨a1, a2, a3⟩ := hf2 0 (-1)
  have h1 := hf 0 (-1) [] []
  have h2 := g3 [] [] 0 [] (by show 0 + k ≤ 16; omega)
  rw [List.append_nil] at h1 h2
  refine ⟨fun x hx => (g1 x hx).2.1, f 0 (-1), ?_, a3, fun x hx => (g1 x hx).2.2, 0 + s, ?_, by omega⟩
  · rw [h1]
    show some (f 0 (-1) ++ []) = _
    rw [List.append_nil]
  · rw [h2]
    rfl
/-! ### enumerate of a tuple; zip of two tuples as a walk -/
section
open PySem.AutoSeq1 (wpAny_loadPart')
open PySem.Spec PyProof.Rows
theorem meets_enumerate_newT (l : Addr) (items : Array Value) (n : Nat) (dct : Option Addr) (sl : Array (Option Value)) :
    Meets (Builtin.«enumerate.__new__» ⟨[.type "enumerate", .ref l], []⟩) (fun _ R s => s.heap.get? l = some { cls := .type "tuple", dict := dct, data := .seq items n, slots := sl } ∧
      R (.ok (.ret (.ref (s.heap.push { cls := .type "tuple_iterator", data := .fields #[.ref l, .int 0 0] }).objs.size)))
        { s with heap := (s.heap.push { cls := .type "tuple_iterator", data := .fields #[.ref l, .int 0 0] }).push { cls := .type "enumerate", data := .fields #[.none, .bool false, .ref s.heap.objs.size, rawInt 0, .none, .none] } }) :=
  .of_wp fun prog w A R s h => by
    obtain ⟨hp, g, d, tk, os⟩ := s; obtain ⟨hl, h⟩ := h
    have hsub := sub_enumerate
    have hL : Heap.IsTuple (Shared.heap ⟨hp, g, d, tk, os⟩) l items := ⟨_, hl, rfl, n, rfl⟩
    wp_walk using wpAny_loadPart' hl
    refine wpAny_stack_any fun st => wpAny_pure ?_
    split
    · rename_i c _ _ _ _ _
      cases (c == Value.type "enumerate")
      · wp_walk using wpAny_loadPart' hl, wpAny_pyIter_tuple hL
        exact ⟨_, rfl, h⟩
      · wp_walk using wpAny_loadPart' hl, wpAny_pyIter_tuple hL
        exact ⟨_, rfl, h⟩
    · wp_walk using wpAny_loadPart' hl, wpAny_pyIter_tuple hL
      exact ⟨_, rfl, h⟩
variable {prog : Program} {w : World} {A : Around} {E : Value → Shared → Prop} {s : Shared}
theorem call_enumerate_tuple {l : Addr} {items : Array Value} {Q : Value → Shared → Prop} (hL : s.heap.IsTuple l items)
    (h : ∀ h', IsEnum h' (s.heap.objs.size + 1) s.heap.objs.size 0 .none → h'.IsTupleIter s.heap.objs.size l 0 → h'.objs.size = s.heap.objs.size + 2 →
      (∀ b o, s.heap.get? b = some o → h'.get? b = some o) → Q (.ref (s.heap.objs.size + 1)) { s with heap := h' }) :
    wpAny (model prog w) A (call (.type "enumerate") [.ref l]) Q E s := by
  obtain ⟨⟨c, dct, dt, sl⟩, hl, hc, n, hd⟩ := hL
  replace hc : c = .type "tuple" := hc
  replace hd : dt = .seq items n := hd
  subst hc hd
  refine callType_new F.called_enumerate (by decide) (F.typeCall_enumerate_1 _) (F.newCall_enumerate_1 _) (fun obj => F.args_object_init_2 obj _) F.entry_enumerate_new
    (meets_enumerate_newT l items n dct sl) ⟨hl, ?_⟩
  have hz : (s.heap.push { cls := .type "tuple_iterator", data := .fields #[.ref l, .int 0 0] }).objs.size = s.heap.objs.size + 1 := Heap.size_push ..
  show _ ∧ _
  rw [hz]
  have he : IsEnum ((s.heap.push { cls := .type "tuple_iterator", data := .fields #[.ref l, .int 0 0] }).push
      { cls := .type "enumerate", data := .fields #[.none, .bool false, .ref s.heap.objs.size, rawInt 0, .none, .none] }) (s.heap.objs.size + 1) s.heap.objs.size 0 .none := by
    have := Heap.get?_push_size (s.heap.push { cls := .type "tuple_iterator", data := .fields #[.ref l, .int 0 0] })
      (o := { cls := .type "enumerate", data := .fields #[.none, .bool false, .ref s.heap.objs.size, rawInt 0, .none, .none] }) rfl
    rw [hz] at this; exact this
  refine ⟨⟨_, he, rfl⟩, h _ he ⟨_, Heap.get?_push_of_some _ (Heap.get?_push_size _ rfl), rfl, rfl⟩ (by rw [Heap.size_push, hz]) fun b o x => Heap.get?_push_of_some _ (Heap.get?_push_of_some _ x)⟩
/-- the tuple at a as it stands at each turn, each item in a new pair -/
def IteT (K : PySem.W.Frag) (a : Addr) : It :=
  ⟨fun i H => ∃ (xs : List V) (x : V), SqT K H a xs ∧ xs[i]? = some x, fun i H v H' => ∃ T x, v = .ref T ∧ H T = none ∧ H' = upd H T (.tup [.int (i : Nat), x]) ∧ ∀ xs, SqT K H a xs → xs[i]? = some x, fun i H => ∃ xs : List V, SqT K H a xs ∧ xs.length ≤ i⟩
theorem turn_enumT {P : Program} {w : World} {K : PySem.W.Frag} {elts : List Expr} {kk : Nat} {tpos : Pos} (a e it : Addr) (hai : a ≠ it) (hea : e ≠ a) :
    Turn P w K (.Tuple elts kk tpos) (IteT K a) [e, it] e (fun i h => (∃ old, IsEnum h e it ((i : Nat) : Int) old) ∧ h.IsTupleIter it a i ∧ e ≠ it) where
  mem := by simp
  obj := fun i h st b hb => by
    obtain ⟨⟨old, he⟩, ⟨o, ho, hc, hd⟩, _⟩ := st
    have e' : b = e ∨ b = it := by simpa using hb
    rcases e' with z | z
    · rw [z]; exact ⟨_, he, fun v q => nomatch q⟩
    · rw [z]; exact ⟨o, ho, fun v q => by rw [hd] at q; cases q⟩
  keep := fun i h h' st k => let ⟨⟨old, he⟩, hi, hne⟩ := st; ⟨⟨old, k e (by simp) _ he⟩, hi.at fun o q => k it (by simp) o q, hne⟩
  item := by
    intro X hP hw hK hc i pins s σ H E I hf st hg
    subst hP hw hK
    obtain ⟨⟨old, he⟩, hit, hne⟩ := st
    obtain ⟨xs, x, hq, hx⟩ := hg
    obtain ⟨its, rv, p, hz⟩ := I.tuple hq
    obtain ⟨u, hu, ru⟩ := rv.get hx
    have hel : e < s.heap.objs.size := Heap.lt_size he
    have hil : it < s.heap.objs.size := by obtain ⟨_, q, _⟩ := hit; exact Heap.lt_size q
    have hu' : its.toArray[i]? = some u := by simpa using hu
    have hlt : i < its.toArray.size := (Array.getElem?_eq_some_iff.mp hu').1
    refine wpAny_pyNext_enum_itemD (Draws.tuple (show X.A.in1.handled = none from I.ok.hd hc) it a hai its.toArray) he ⟨hit, p⟩ hlt hne (by simp only [List.mem_cons, List.not_mem_nil, or_false, not_or]; exact ⟨hne, hea⟩) fun x' h' tk hP' ho hit' hT hsz hk => ?_
    have hP' : its.toArray[i]? = some x' := hP'
    rw [hu'] at hP'
    cases hP'
    refine ⟨_, rfl, wpAny_letOwnedTupleGo_enum (s := { s with heap := h', toks := tk + 1 }) ho fun h'' he' sb => ?_⟩
    have hT2 : h''.get? s.heap.objs.size = some { cls := .type "tuple", data := .seq #[.int i tk, u] } := (sb.2 _ (Nat.ne_of_gt hel)).trans hT
    have new : ObjOk X.prog X.w (upd H s.heap.objs.size (.tup [.int (i : Nat), x])) h'' s.heap.objs.size (.tup [.int (i : Nat), x]) :=
      ⟨by show 2 ≤ sizeLine; decide, [.int i tk, u], .cons ⟨_, rfl⟩ (.cons ru .nil), ⟨_, hT2, rfl, _, rfl⟩⟩
    have I1 : Inv X pins σ (upd H s.heap.objs.size (.tup [.int (i : Nat), x])) { s with heap := h'', toks := tk + 1 } :=
      I.turnedNew (ch := [e, it]) (fun b ob hb q => (sb.2 b (fun z => hb (by simp [z]))).trans (hk b ob (fun z => hb (by simp [z])) (fun z => hb (by simp [z])) q)) hf (Nat.le_refl _) new
    refine ⟨.ref s.heap.objs.size, _, I1, rfl, ⟨_, x, rfl, I.hok.fresh (Nat.le_refl _), rfl, fun ys hy => by rw [I.tuple_inj hy hq]; exact hx⟩, ⟨⟨u, ?_⟩, hit'.1.at fun o q => (sb.2 it (Ne.symm hne)).trans q, hne⟩, fun b hb => ?_⟩
    · have e1 : ((i + 1 : Nat) : Int) = (i : Int) + 1 := by omega
      rw [e1]; exact he'
    · have hb' : b < s.heap.objs.size := by
        have e' : b = e ∨ b = it := by simpa using hb
        rcases e' with z | z
        · rw [z]; exact hel
        · rw [z]; exact hil
      rw [upd_ne (Nat.ne_of_lt hb')]
      exact (hf b hb).1
  done := by
    intro X hP hw hK hc i pins s σ H E I hf st hg
    subst hP hw hK
    obtain ⟨⟨old, he⟩, hit, hne⟩ := st
    obtain ⟨xs, hq, hx⟩ := hg
    obtain ⟨its, rv, p, hz⟩ := I.tuple hq
    obtain ⟨f0, f1, f2, f3, f4, f5⟩ := hf it (by simp)
    have hl := rv.length
    unfold pyNext
    have hT : s.TypeIs (.ref e) "enumerate" := ⟨_, he, rfl⟩
    refine wpAny_bind (wpAny_attempt (wpAny_callSpecial?_slot (name := Str.ofString "__next__") hT F.slot_enumerate_next
      (wpAny_call_entry F.slot_enumerate_next hT F.entry_enumerate_next ?_ (F.args_enumerate_next_1 _))))
    show wpAny _ _ (field (.ref e) 2 >>= _) _ _ _
    refine wpAny_bind (wpAny_field he rfl (x := .ref it) rfl ?_)
    refine wpAny_bind (wpAny_nextOf_tuple_end (show X.A.in1.handled = none from I.ok.hd hc) hit p (by simp; omega) fun h' x he' hx' => ?_)
    obtain ⟨o, ho, hc'⟩ := hx'
    refine wpAny_bind (wpAny_isInstance (T := "StopIteration") (b := true) ⟨o, ho, hc'⟩ isSubtype_stop ?_)
    exact wpAny_pure ⟨rfl, I.turned (t' := s.toks) (fun b o hb q => he' b o hb q) f0 f1 f3 f4 f5⟩
  self := fun A i s Q E st h => let ⟨⟨_, he⟩, _⟩ := st; wpAny_pyIter_enum he h
def iEnumT (K : PySem.W.Frag) (ta : TA) : TI := fun σ H R => ta σ H fun vs H1 => ∃ a xs, vs = [.ref a] ∧ SqT K H1 a xs ∧ R (IteT K a) H1
theorem pi_enumT {X : Cx} {e : Expr} {ta : TA} {p pos tpos : Pos} {elts : List Expr} {kk : Nat} (hg : Gl X "enumerate") (hm : X.mg "enumerate" = none) (ha : PA X [e] ta) (hs : starEach [e] X.env = [(false, eval e X.env)] := by rfl) :
    PI X (.Tuple elts kk tpos) (.Call (.Name "enumerate" p) [e] [] pos) (iEnumT X.K ta) := by
  refine ⟨fun pins s σ H R I h => ?_⟩
  refine Call_ (ld_blt I hg hm boot_enumerate (PyProof.Rows.callWith_type1 (thn (ha.run pos pins s σ H _ I h) fun us s1 ⟨vs, H1, I1, r1, q1⟩ => ?_) hs rfl))
  obtain ⟨a, xs, ex, hq, q⟩ := q1
  subst ex
  cases r1 with
  | cons r rr =>
    cases rr
    cases r
    obtain ⟨its, rv, p', hz⟩ := I1.tuple hq
    have hal : a < s1.heap.objs.size := by obtain ⟨_, q, _⟩ := id p'; exact Heap.lt_size q
    refine call_enumerate_tuple (show s1.heap.IsTuple a its.toArray from p') fun h' he hit hsz hk => wpAny_pyIter_enum he ?_
    have I2 : Inv X pins σ H1 { s1 with heap := h' } := I1.kept (t' := s1.toks) hk
    refine ⟨s1.heap.objs.size + 1, [s1.heap.objs.size + 1, s1.heap.objs.size], _, _, H1, rfl, I2, turn_enumT a (s1.heap.objs.size + 1) s1.heap.objs.size (Nat.ne_of_lt hal) (Nat.ne_of_gt (Nat.lt_succ_of_lt hal)), ⟨⟨.none, he⟩, hit, Nat.succ_ne_self _⟩, fun b hb => ?_, q⟩
    have e' : b = s1.heap.objs.size + 1 ∨ b = s1.heap.objs.size := by simpa using hb
    have hle : s1.heap.objs.size ≤ b := by
      rcases e' with z | z
      · rw [z]; exact Nat.le_add_right _ _
      · rw [z]; exact Nat.le_refl _
    exact I1.fpOk hle (I1.hok.fresh hle)
theorem walk_enumT {K : PySem.W.Frag} {a : Addr} {xs : List V} : Walk (IteT K a) xs.length (fun H => SqT K H a xs) (YPair (fun i => some (.int (i : Nat))) (fun i => xs[i]?)) := by
  refine ⟨fun i _ hi q => ⟨xs, xs[i], q, by simp [hi]⟩, fun _ q => ⟨xs, q, Nat.le_refl _⟩, fun i H v H' _ q y => ?_⟩
  obtain ⟨T, x, h1, h2, h3, h4⟩ := y
  exact ⟨T, .int (i : Nat), x, h1, h2, h3, rfl, h4 xs q⟩
theorem walk_zipT {K : PySem.W.Frag} {a b : Addr} {xs ys : List V} {n : Nat} (hn : n = min xs.length ys.length) : Walk (RZ.ItzT K a b) n (fun H => SqT K H a xs ∧ SqT K H b ys) (YPair (fun i => xs[i]?) (fun i => ys[i]?)) := by
  subst hn
  refine ⟨fun i _ hi q => ?_, fun _ q => ⟨xs, ys, q.1, q.2, by omega⟩, fun i H v H' _ q y => ?_⟩
  · have h1 : i < xs.length := by omega
    have h2 : i < ys.length := by omega
    exact ⟨xs, ys, xs[i], ys[i], q.1, q.2, by simp [h1], by simp [h2]⟩
  · obtain ⟨T, x, y', h1, h2, h3, h4, h5⟩ := y
    exact ⟨T, x, y', h1, h2, h3, h4 xs q.1, h5 ys q.2⟩
end
section
open PySem.Spec PyProof.Rows
variable {X : Cx}
/-- a block with a wish of its own about exceptions -/
abbrev blkW (X : Cx) (s : Shared) (H : Hp) (sc : Scope) (ce : Env) (fp : List Addr) (W : Value → Shared → Prop) : Cx := (X.blk s H sc ce fp).wish W
/-- an exception of a call within the block goes out of the comprehension into the def's air -/
theorem blk_out {E : XK} {pins pinsB : List (Addr × Obj)} {σ σB : L2.St} {H3 HB : Hp} {s3 sB s' : Shared} {sc : Scope} {ce : Env} {fp : List Addr} {W : Value → Shared → Prop} {u : Value}
    (hs : X.stack = X.env :: X.outer) (hf : X.env.frame = some X.env.locals) (tk : Takes X (fun c d _ H => E c d H)) (I3 : L2.Inv X pins σ H3 s3) (hfr : ce.frame = X.env.frame) (hC : ce.locals = s3.heap.objs.size)
    (hfp : ∀ b ∈ fp, FpOk X pins H3 b) (IB : L2.Inv (blkW X s3 H3 sc ce fp W) pinsB σB HB sB) (c : L2.CX X.prog X.w X.stack HB sB E u s') :
    notedBy (model X.prog X.w) X.A ce (CompFails (model X.prog X.w) X.A X.xe ce) u s' := by
  obtain ⟨a, B, H', cls, d, rfl, fl, hok, ub, na, os, ag, hE⟩ := c
  have hF : X.A.frames = some (X.env :: X.outer) := by rw [I3.ok.frames, hs]
  have IBb : Un (frs X.stack) fp H3 HB s3.heap sB.heap := IB.base
  -- the block's names
  obtain ⟨mC, hnC, _⟩ := id IB.loc
  have hnC : sB.heap.Ns ce.locals mC := hnC
  obtain ⟨oC, eC, pC, goC, dC, rC⟩ := id hnC
  have fC : HB ce.locals = none := IB.free
  have nfC : ce.locals ∉ frs X.stack := fun hm => by
    obtain ⟨_, o, ho, _⟩ := I3.stack.mem hm
    have := Heap.lt_size ho
    rw [hC] at this
    exact Nat.lt_irrefl _ this
  have gBC : B.get? ce.locals = some oC := ub.keep _ _ goC fC nfC
  have fC' : H' ce.locals = none := ub.free _ _ goC fC
  have nsC : s'.heap.Ns ce.locals mC := ⟨oC, eC, pC, fl.1 _ _ gBC, dC, rC⟩
  show wpAny _ _ (noteFrame (.ref a) ce) _ _ _
  rw [noteFrame_env _ hfr]
  refine HandSPX.looks_onZ Zc.steady hF hf (by rw [← hs]; exact fl) fun h1 hh1 up1 => ?_
  have nsC1 : h1.Ns ce.locals mC := nsC.upToSlots up1
  refine ⟨mC, nsC1, fun h2 m2 hn2 sb2 => ?_⟩
  obtain ⟨st1, na1, ff1, oe, vs, T, oT, ts, he, hz, hd, hv1, hnT, hTe, hT, hdT, hfl⟩ := hh1
  obtain ⟨o1, _, _, go1, d1, _⟩ := id nsC1
  have aC : a ≠ ce.locals := fun z => by
    rw [z, go1] at he
    cases he
    rw [d1] at hd
    cases hd
  have TC : T ≠ ce.locals := fun z => by
    rw [z, go1] at hT
    cases hT
    rw [d1] at hdT
    cases hdT
  -- the ground without the block's names
  have hh2 : HandSPX.HeldZ (PySem.W.hideAll B [ce.locals]) (X.env :: X.outer) a (Zc cls d) X.env.locals h2 := by
    refine ⟨fun b o e => ?_, ?_, ?_, oe, vs, T, oT, ts, (sb2.2 _ aC).trans he, hz, hd, hv1, ?_, hTe, (sb2.2 _ TC).trans hT, hdT, hfl⟩
    · have e' := PySem.W.of_hideAll _ e
      have ne : b ≠ ce.locals := fun z => by
        rw [z, PySem.W.hideAll_none _ (List.mem_singleton.mpr rfl)] at e
        cases e
      exact (sb2.2 b ne).trans (st1 b o e')
    · cases q : (PySem.W.hideAll B [ce.locals]).get? a with
      | none => rfl
      | some o =>
        have z := PySem.W.of_hideAll _ q
        rw [na1] at z
        cases z
    · refine Heap.FunFrames.sameBut sb2 hn2 (funFrames_none ff1 fun L hL => ?_)
      cases q : (PySem.W.hideAll B [ce.locals]).get? L with
      | none => rfl
      | some o =>
        have z := PySem.W.of_hideAll _ q
        rw [(ff1.mem hL).1] at z
        cases z
    · cases q : (PySem.W.hideAll B [ce.locals]).get? T with
      | none => rfl
      | some o =>
        have z := PySem.W.of_hideAll _ q
        rw [hnT] at z
        cases z
  unfold PySem.passOn
  refine wpAny_bind (wpAny_field ((sb2.2 _ aC).trans he) hd hv1 ?_)
  rw [if_neg (show ¬ ((Value.ref T == Value.none) = true) from by simp)]
  have fin : wpAny (model X.prog X.w) X.A (setFlight (.ref a) ce.frame) (fun _ s4 => wpAny (model X.prog X.w) X.A (throw (.ref a) : Sem Value) (fun _ _ => False) X.xe s4) X.xe { s' with heap := h2 } := by
    rw [hfr, hf]
    refine HandSPX.setFlight_onZ hh2 fun h3 hh3 up3 => wpAny_throw (tk _ _ ?_)
    -- what stays from the call on
    have on3 : ∀ b o, b ≠ ce.locals → B.get? b = some o → h3.get? b = some o := fun b o ne e => hh3.1 b o (PySem.W.hideAll_get _ e fun hm => ne (List.mem_singleton.mp hm))
    obtain ⟨o2, _, _, go2, d2, _⟩ := id hn2
    obtain ⟨sl3, go3⟩ := up3 _ o2 go2 fun vs q => by rw [d2] at q; cases q
    obtain ⟨G, g1, g2⟩ := restrict h3 fun b => (B.get? b).isSome || decide (b ∈ frs X.stack)
    obtain ⟨D, e1, e2⟩ := restrict h3 fun b => (B.get? b).isSome
    have gB : ∀ b o, b ≠ ce.locals → B.get? b = some o → G.get? b = some o := fun b o ne e => by
      rw [g1 b (by simp [e])]
      exact on3 b o ne e
    have gF : ∀ b, b ∈ frs X.stack → G.get? b = h3.get? b := fun b hb => g1 b (by simp [hb])
    have og : ∀ b o, G.get? b = some o → h3.get? b = some o ∧ ((B.get? b).isSome = true ∨ b ∈ frs X.stack) := fun b o e => by
      cases q : ((B.get? b).isSome || decide (b ∈ frs X.stack)) with
      | false =>
        rw [g2 b q] at e
        cases e
      | true =>
        rw [g1 b q] at e
        exact ⟨e, by simpa [Bool.or_eq_true] using q⟩
    have dn : ∀ b, B.get? b = none → D.get? b = none := fun b e => e2 b (by rw [e]; rfl)
    have below : ∀ b o, s3.heap.get? b = some o → b ≠ ce.locals := fun b o e z => by
      have := Heap.lt_size e
      rw [z, hC] at this
      exact Nat.lt_irrefl _ this
    have slots : ∀ b o, b ∈ frs X.stack → s3.heap.get? b = some o → ∃ sl, h3.get? b = some { o with slots := sl } := fun b o hb e => by
      obtain ⟨_, o0, e0, hnf⟩ := I3.stack.mem hb
      rw [e] at e0
      cases e0
      obtain ⟨sl1, q1⟩ := IBb.slot b o e (I3.stkFree b hb) hb fun z => by
        rcases List.mem_cons.mp (I3.stkSub b hb) with y | y
        · exact (hfp b z).2.1 y
        · exact (hfp b z).2.2.1 y
      obtain ⟨sl2, q2⟩ := ub.slot b _ q1 hb
      obtain ⟨sl4, q4⟩ := up1 b _ q2 hnf
      have q5 := (sb2.2 b (below b o e)).trans q4
      obtain ⟨sl6, q6⟩ := up3 b _ q5 hnf
      exact ⟨sl6, q6⟩
    refine ⟨a, D, { sB with heap := G, gens := s'.gens, drawn := s'.drawn, toks := s'.toks }, pins, σ, H', cls, d, rfl, ?_, fun b o e hb => ?_, Heap.UpToSlots.of_keeps fun b o e => (og b o e).1, .inr (.inr ?_), na, os, ag, hE⟩
    · refine I3.call' (ch := fp) IB.os ⟨fun b o e n hb hx => ?_, fun b o e n hb hx => ?_, fun b o e n hx => ?_, fun b o e hx => ?_, fun b xs e => ub.tups b xs (IBb.tups b xs e), fun b o xs e => ub.frzs b o xs (IBb.frzs b o xs e), fun b ps e => ?_⟩ ?_ ag
        fun b hb => ⟨(hfp b hb).2.2.2.1, (hfp b hb).2.1, (hfp b hb).2.2.2.2.1, (hfp b hb).2.2.2.2.2⟩
      · exact gB b o (below b o e) (ub.keep b o (IBb.keep b o e n hb hx) (IBb.free b o e n hx) hb)
      · obtain ⟨sl, q⟩ := slots b o hb e
        exact ⟨sl, by rw [show ({ sB with heap := G, gens := s'.gens, drawn := s'.drawn, toks := s'.toks } : Shared).heap = G from rfl, gF b hb]; exact q⟩
      · obtain ⟨o', q⟩ := IBb.there b o e hx
        exact ub.free b o' q (IBb.free b o e n hx)
      · by_cases hb : b ∈ frs X.stack
        · obtain ⟨sl, q⟩ := slots b o hb e
          exact ⟨_, by rw [show ({ sB with heap := G, gens := s'.gens, drawn := s'.drawn, toks := s'.toks } : Shared).heap = G from rfl, gF b hb]; exact q⟩
        · obtain ⟨o', q⟩ := IBb.there b o e hx
          obtain ⟨o'', q2⟩ := ub.there b o' q hb
          exact ⟨o'', gB b o'' (below b o e) q2⟩
      · obtain ⟨m1, q1⟩ := IBb.tbls b ps e
        obtain ⟨m2', q2⟩ := ub.tbls b _ q1
        exact ⟨m1 ++ m2', by rw [q2, Array.append_assoc]⟩
      · exact fun b ob q => (hok b ob q).stay (fun c v hc r => gB c v (fun z => by
          rcases hc with hc | hc
          · rw [← hc, z, fC'] at q
            cases q
          · rw [z, fC'] at hc
            cases hc) r) (fun _ r => r) fun _ _ r => r
    · obtain ⟨e', h⟩ := og b o e
      rcases h with h | h
      · rw [e1 b h]
        exact e'
      · exact absurd h hb
    · obtain ⟨_, _, ff3, oe3, vs3, T3, oT3, ts3, he3, hz3, hd3, hv3, hnT3, hTe3, hT3, hdT3, hfl3⟩ := hh3
      rw [hs]
      refine ⟨fun b o e => ?_, dn a na1, funFrames_none ff3 fun L hL => dn L (ff1.mem hL).1, oe3, vs3, T3, oT3, ts3, he3, hz3, hd3, hv3, dn T3 ?_, hTe3, hT3, hdT3, hfl3⟩
      · cases q : (B.get? b).isSome with
        | false =>
          rw [e2 b q] at e
          cases e
        | true =>
          rw [e1 b q] at e
          exact e
      · cases q : B.get? T3 with
        | none => rfl
        | some o =>
          have ne : T3 ≠ ce.locals := fun z => by
            rw [z, go3] at hT3
            cases hT3
            have : o2.data = .fields ts3 := hdT3
            rw [d2] at this
            cases this
          rw [PySem.W.hideAll_get _ q fun hm => ne (List.mem_singleton.mp hm)] at hnT3
          cases hnT3
  first
    | exact wpAny_bind (wpAny_pure (wpAny_bind fin))
    | exact wpAny_bind fin
end
section
open PySem.Spec PyProof.Rows
variable {X : Cx}
/-- a comprehension whose element may raise: the block runs with a wish of its own, which the def's wish fulfils -/
theorem lc_coreX {E : XK} {pins : List (Addr × Obj)} {s : Shared} {σ : L2.St} {H : Hp} {Q : VK} {elt tg iter : Expr} {ifs : List Expr} {scope : Scope} {own : List (Str × Nat)} {pos pos' : Pos} {wi : TI} {g : TG} {tt : TT} {te : TE} {use : Option (Value → Sem Unit)} {Qf : Value → Shared → Prop}
    (hs : X.stack = X.env :: X.outer) (hf : X.env.frame = some X.env.locals) (tk : Takes X (fun c d _ H => E c d H)) (hc : X.calm = true) (hN : X.N.Nodup) (I : L2.Inv X pins σ H s) (hi : PI X tg iter wi) (ok : BlkOk X.N X.env.scope scope own)
    (hg : ∀ (s : Shared) (H : Hp) (C : Addr) (cl : List (Str × Addr)) (fp : List Addr) (W : Value → Shared → Prop), PG (blkW X s H scope (compEnvC scope cl C X.env) fp W) tg g)
    (ht : ∀ (s : Shared) (H : Hp) (C : Addr) (cl : List (Str × Addr)) (fp : List Addr) (W : Value → Shared → Prop), PTs (blkW X s H scope (compEnvC scope cl C X.env) fp W) ifs tt)
    (he : ∀ (s : Shared) (H : Hp) (C : Addr) (cl : List (Str × Addr)) (fp : List Addr) (W : Value → Shared → Prop), (∀ σ, PassesAt (L2.CX X.prog X.w) (blkW X s H scope (compEnvC scope cl C X.env) fp W) σ E) → PE (blkW X s H scope (compEnvC scope cl C X.env) fp W) elt te)
    (hfo : ∀ x, foldedSetIterable iter X.env x = pure x) (h : tLc wi g tt te (own.map (·.2)) σ H Q)
    (hend : ∀ (D : Addr) (s' : Shared) (m : Str → Option Value) (H' : Hp) (ce : Env), L2.Inv X pins σ H' s' → Q (.ref D) H' → s'.heap.Ns ce.locals m → FpOk X pins H' ce.locals → compEnds (model X.prog X.w) X.A X.xe use Qf (.ref D) ce (.ok .next) s') :
    wpAny (model X.prog X.w) X.A (comprehension (.ListComp elt [⟨tg, iter, ifs, 0⟩] scope pos) scope X.env pos' (newList []) false (eval iter X.env) use) Qf X.xe s := by
  have clo : ∀ y ∈ scope.names, y.2 = .free → ∃ c, X.env.cells.lookup y.1 = some c := fun y hy e => (ok.free y hy e).elim (fun k => I.ok.has _ (.inl k)) fun k => I.ok.has _ (.inr k)
  refine comprehension_at (use := use) rfl hfo (closure_ok clo) ok.kind (fun y hy e => (ok.uniq y hy).trans (congrArg some e)) (thn (hi.run pins s σ H _ I h) fun xv s1 hx => thn hx fun itv s2 h2 => ?_)
  obtain ⟨it, fp, tn, J, H2, e, I2, T, st2, f2, q⟩ := h2
  subst e
  refine wpAny_newObj_type (newEnv_comp ?_) (by show 0 ≤ sizeLine; decide)
  generalize eD : s2.heap.objs.size = D
  obtain ⟨P, ⟨m0, p0⟩, turn⟩ := q D (I2.hok.fresh (Nat.le_of_eq eD))
  generalize eb : ({ s2 with heap := s2.heap.push { cls := .type "list", data := .seq ([] : List Value).toArray } } : Shared) = sb
  have hb : sb.heap = s2.heap.push { cls := .type "list", data := .seq ([] : List Value).toArray } := by rw [← eb]
  have Ib : L2.Inv X pins σ (upd H2 D (.lst [])) sb := by
    rw [← eb]
    refine I2.laid (t' := s2.toks) (fun b o e => Heap.get?_push_of_some _ e) (Nat.le_of_eq eD) ⟨Nat.zero_le _, [], 0, .nil, ?_⟩
    rw [← eD]
    exact Heap.get?_push_size _ rfl
  have fb : ∀ b ∈ fp, FpOk X pins (upd H2 D (.lst [])) b ∧ b < sb.heap.objs.size := fun b hm => by
    obtain ⟨o, e, _⟩ := T.obj _ _ st2 b hm
    have lt := Heap.lt_size e
    refine ⟨⟨?_, (f2 b hm).2⟩, by rw [hb, Heap.size_push]; exact Nat.lt_succ_of_lt lt⟩
    rw [upd_ne (by rw [← eD]; exact Nat.ne_of_lt lt)]
    exact (f2 b hm).1
  have stb : tn 0 sb.heap := T.keep _ _ _ st2 fun b _ o e => by rw [hb]; exact Heap.get?_push_of_some _ e
  have Ic := block_start Ib ok hN fb
  have PGt := hg sb (upd H2 D (.lst [])) sb.heap.objs.size (cellsFrom (sb.heap.objs.size + 1) scope.names (cloFrom X.env.cells scope.names [])) fp
  have PTt := ht sb (upd H2 D (.lst [])) sb.heap.objs.size (cellsFrom (sb.heap.objs.size + 1) scope.names (cloFrom X.env.cells scope.names [])) fp
  have PEt := he sb (upd H2 D (.lst [])) sb.heap.objs.size (cellsFrom (sb.heap.objs.size + 1) scope.names (cloFrom X.env.cells scope.names [])) fp
  show codeAny _ _ (.compStart (.ListComp elt [⟨tg, iter, ifs, 0⟩] scope pos) 0 (.ref it) (.ref D) (compEnvC scope (cellsFrom (sb.heap.objs.size + 1) scope.names (cloFrom X.env.cells scope.names [])) sb.heap.objs.size X.env)) (compEnds (model X.prog X.w) X.A X.xe use Qf (.ref D) (compEnvC scope (cellsFrom (sb.heap.objs.size + 1) scope.names (cloFrom X.env.cells scope.names [])) sb.heap.objs.size X.env)) { sb with heap := pushCells (sb.heap.push { cls := .type "dict", data := .dict #[] }) scope.names }
  have nfb : ∀ b ∈ fp, (upd H2 D (.lst [])) b = none := fun b hm => (fb b hm).1.1
  generalize ec : compEnvC scope (cellsFrom (sb.heap.objs.size + 1) scope.names (cloFrom X.env.cells scope.names [])) sb.heap.objs.size X.env = ce at Ic PGt PTt PEt ⊢
  have cL : ce.locals = sb.heap.objs.size := by subst ec; rfl
  have cF : ce.frame = X.env.frame := by subst ec; rfl
  generalize eH : upd H2 D (.lst []) = Hb at Ib Ic PGt PTt PEt p0 nfb fb
  generalize eS : ({ sb with heap := pushCells (sb.heap.push { cls := .type "dict", data := .dict #[] }) scope.names } : Shared) = sc at Ic ⊢
  have stc : tn 0 sc.heap := T.keep _ _ _ stb fun b _ o e => by rw [← eS]; exact pushCells_keeps _ _ _ _ (Heap.get?_push_of_some _ e)
  -- the block's wish
  generalize eW : notedBy (model X.prog X.w) X.A ce (CompFails (model X.prog X.w) X.A X.xe ce) = W
  have pass : ∀ σ', PassesAt (L2.CX X.prog X.w) (blkW X sb Hb scope ce fp W) σ' E := fun σ' pinsB HB sB u s' IB cx => by
    show W u s'
    rw [← eW]
    exact blk_out hs hf tk Ib cF cL (fun b hm => (fb b hm).1) IB cx
  have PGt := PGt W
  have PTt := PTt W
  have PEt := PEt W pass
  have stat : ∀ {σ' : L2.St} {H' : Hp} {s' : Shared}, L2.Inv (blkW X sb Hb scope ce fp W) [] σ' H' s' → (∀ b ∈ fp, H' b = none) → ∀ b ∈ fp, FpOk (blkW X sb Hb scope ce fp W) [] H' b := fun {σ' H' s'} I' hn b hm =>
    ⟨hn b hm, (I'.ok.exf b hm).1, I'.ok.exfs b hm, .inl hm, fun x c e => (I'.ok.exf b hm).2 x c e, fun p hp => absurd (show p ∈ ([] : List (Addr × Obj)) ++ [] from hp) (by simp)⟩
  have loop : codeAny (model X.prog X.w) X.A (.compLoop (.ListComp elt [⟨tg, iter, ifs, 0⟩] scope pos) 0 (.ref it) (.ref D) ce) (compEnds (model X.prog X.w) X.A X.xe use Qf (.ref D) ce) sc := by
    have eW' : notedBy (model X.prog X.w) X.A ce (fun e s' => compEnds (model X.prog X.w) X.A X.xe use Qf (.ref D) ce (.error e) s') = W := eW
    refine compLoop_any (fun n s' => ∃ i H', L2.Inv (blkW X sb Hb scope ce fp W) [] (wipe σ (own.map (·.2))) H' s' ∧ tn i s'.heap ∧ (∀ b ∈ fp, H' b = none) ∧ P i n H') ?_ m0 ⟨0, Hb, Ic.wish W, stc, nfb, p0⟩
    rw [eW']
    rintro n s5 ⟨i, H5, I5, st5, n5, p5⟩
    rcases turn i n H5 p5 with ⟨stop, qq⟩ | ⟨go, Nx, hNx, step⟩
    · refine thnF (T.done (blkW X sb Hb scope ce fp W) rfl rfl rfl hc i [] s5 _ H5 (fun _ _ => False) I5 (stat I5 n5) st5 stop) fun r s6 hr6 => ?_
      obtain ⟨hr, I6⟩ := hr6
      subst hr
      have I7 : L2.Inv X pins σ H5 s6 := Ib.call' (ch := fp) I6.os I6.base I6.hok I6.bare fun b hm => ⟨(fb b hm).1.2.2.2.1, (fb b hm).1.2.1, (fb b hm).1.2.2.2.2.1, (fb b hm).1.2.2.2.2.2⟩
      have nC : H5 ce.locals = none := I6.free
      obtain ⟨m, hn, _⟩ := I6.loc
      have hn : s6.heap.Ns ce.locals m := hn
      refine hend D s6 m H5 ce I7 qq hn ?_
      rw [cL] at nC ⊢
      exact Ib.fpOk (Nat.le_refl _) nC
    · refine thnF (T.item (blkW X sb Hb scope ce fp W) rfl rfl rfl hc i [] s5 _ H5 (fun _ _ => False) I5 (stat I5 n5) st5 go) fun r s6 hr6 => ?_
      obtain ⟨u, hr, h6⟩ := hr6
      subst hr
      refine thnF h6 fun _ s7 h7 => ?_
      obtain ⟨x, H7, I7, r7, y7, st7, n7⟩ := h7
      have I8 := I7.pinned (stat I7 n7) (T.obj _ _ st7)
      refine thn (PGt.run _ s7 _ H7 x u _ I8 r7 (step x H7 y7)) fun _ s8 h8 => ?_
      obtain ⟨σ8, H8, I9, hw8, q8⟩ := h8
      refine thn (PTt.run _ s8 σ8 H8 _ I9 q8) fun b s9 h9 => ?_
      obtain ⟨H9, I10, q9⟩ := h9
      have fin : ∀ {s' : Shared} {H' : Hp}, L2.Inv (blkW X sb Hb scope ce fp W) ([] ++ pinsAt fp s7.heap) σ8 H' s' → Nx H' → ∃ m, m < n ∧ ∃ i H', L2.Inv (blkW X sb Hb scope ce fp W) [] (wipe σ (own.map (·.2))) H' s' ∧ tn i s'.heap ∧ (∀ b ∈ fp, H' b = none) ∧ P i m H' := fun {s' H'} I' nx => by
        obtain ⟨m', hm, p'⟩ := hNx H' nx
        have pn : ∀ b ∈ fp, ∀ o, s7.heap.get? b = some o → s'.heap.get? b = some o ∧ H' b = none := fun b hm o e => by
          have z := I'.pin (b, o) (List.mem_append_right _ (List.mem_append_right _ (mem_pinsAt hm e)))
          exact ⟨z.1, z.2.1⟩
        refine ⟨m', hm, i + 1, H', (I'.unpinned (pins := [])).weak (by rw [← hw8, wipe_length]) (fun j v e => ?_), T.keep _ _ _ st7 fun b hm o e => (pn b hm o e).1, fun b hm => ?_, p'⟩
        · rw [← hw8] at e
          exact (wipe_some e).1
        · obtain ⟨o, e, _⟩ := T.obj _ _ st7 b hm
          exact (pn b hm o e).2
      cases b with
      | false =>
        simp only [Bool.false_eq_true, if_false] at q9 ⊢
        exact fin I10 q9
      | true =>
        simp only [if_true] at q9 ⊢
        refine thn (PEt.run _ s9 σ8 H9 _ I10 q9) fun z s10 h10 => ?_
        obtain ⟨yv, H10, I11, r10, acc, hD10, hz10, nx⟩ := h10
        exact app_ok (X := blkW X sb Hb scope ce fp W) I11 hD10 hz10 r10 fun s11 I12 => fin I12 nx
  exact codeAny_compStart_list loop (T.self X.A 0 _ _ _ stc loop)
/-- as a value -/
theorem pe_lcX {E : XK} {elt tg iter : Expr} {ifs : List Expr} {scope : Scope} {own : List (Str × Nat)} {pos : Pos} {wi : TI} {g : TG} {tt : TT} {te : TE} (hs : X.stack = X.env :: X.outer) (hf : X.env.frame = some X.env.locals) (tk : Takes X (fun c d _ H => E c d H)) (hc : X.calm = true) (hN : X.N.Nodup)
    (hi : PI X tg iter wi) (ok : BlkOk X.N X.env.scope scope own)
    (hg : ∀ (s : Shared) (H : Hp) (C : Addr) (cl : List (Str × Addr)) (fp : List Addr) (W : Value → Shared → Prop), PG (blkW X s H scope (compEnvC scope cl C X.env) fp W) tg g)
    (ht : ∀ (s : Shared) (H : Hp) (C : Addr) (cl : List (Str × Addr)) (fp : List Addr) (W : Value → Shared → Prop), PTs (blkW X s H scope (compEnvC scope cl C X.env) fp W) ifs tt)
    (he : ∀ (s : Shared) (H : Hp) (C : Addr) (cl : List (Str × Addr)) (fp : List Addr) (W : Value → Shared → Prop), (∀ σ, PassesAt (L2.CX X.prog X.w) (blkW X s H scope (compEnvC scope cl C X.env) fp W) σ E) → PE (blkW X s H scope (compEnvC scope cl C X.env) fp W) elt te)
    (hfo : ∀ x, foldedSetIterable iter X.env x = pure x := by intro _; rfl) :
    PE X (.ListComp elt [⟨tg, iter, ifs, 0⟩] scope pos) (tLc wi g tt te (own.map (·.2))) := by
  refine ⟨fun pins s σ H Q I h => ?_⟩
  rw [eval_ListComp]
  refine lc_coreX hs hf tk hc hN I hi ok hg ht he hfo h fun D s' m H' ce I' q hn f => ⟨m, hn, fun h'' sb => ?_⟩
  obtain ⟨f0, f1, f2, f3, f4, f5⟩ := f
  exact ⟨.ref D, H', I'.turned (t' := s'.toks) (fun b o hb e => (sb.2 b hb).trans e) f0 f1 f3 f4 f5, rfl, q⟩
end
def NL (H H' : Hp) : Prop := ∀ b o, H b = some o → (∃ xs, o = .lst xs) ∨ H' b = some o
theorem NL.refl (H : Hp) : NL H H := fun _ _ h => .inr h
theorem NL.trans {H H1 H2 : Hp} (a : NL H H1) (b : NL H1 H2) : NL H H2 := fun c o h => (a c o h).elim .inl fun h => b c o h
theorem Same.nl {H H' : Hp} (s : Same H H') : NL H H' := fun b o h => .inr (s b o h)
theorem nl_upd {H : Hp} {p : Addr} {xs : List V} {o : HO} (h : H p = some (.lst xs)) : NL H (upd H p o) := fun b u e => by
  by_cases hb : b = p
  · subst hb
    rw [h] at e
    exact .inl ⟨xs, (Option.some.inj e).symm⟩
  · exact .inr (by rw [upd_ne hb]; exact e)
theorem sqT_nl {K : PySem.W.Frag} {H H' : Hp} {a : Addr} {xs : List V} (h : SqT K H a xs) (s : NL H H') : SqT K H' a xs := by
  rcases h with (h | ⟨o, h⟩) | h
  · rcases s _ _ h with ⟨_, e⟩ | e
    · cases e
    · exact .inl (.inl e)
  · rcases s _ _ h with ⟨_, e⟩ | e
    · cases e
    · exact .inl (.inr ⟨o, e⟩)
  · exact .inr h
theorem fit {n : Nat} (h : n ≤ 10000) : n ≤ sizeLine := Nat.le_trans h (by decide)
theorem i0 {a : V} {r : List V} : atI (a :: r) ((0 : Nat) : Int) = some a := atI_nat rfl
theorem i1 {a b : V} {r : List V} : atI (a :: b :: r) ((1 : Nat) : Int) = some b := atI_nat rfl
theorem i2 {a b c : V} {r : List V} : atI (a :: b :: c :: r) ((2 : Nat) : Int) = some c := atI_nat rfl
section
variable {P : Program} {w : World} {K : PySem.W.Frag} {mg : Str → Option Value} {base : Heap}
theorem scCC : FnScope ["low", "high", "widest"] ["low", "high"] (defScope s_check_clamp) := ⟨rfl, rfl, rfl, by decide +kernel, rfl, by decide +kernel, by decide +kernel⟩
def clampR (lo hi : Int) : Nat := if hi < lo then 3 else if lo < -W200 ∨ W200 < hi then 3 else 0
def spCClamp (C : Nat → Addr) : Sp := fun vs H Q E => ∃ lo hi : Int, vs = [.int lo, .int hi] ∧ (clampR lo hi = 0 → Q .non H) ∧ (clampR lo hi = 3 → E (.ref (C 3)) none H)
theorem ok_cclamp {f : Addr} {C : Nat → Addr} {fd : FuncData} (F : Fun K "_check_clamp" "_check_clamp" s_check_clamp f fd) (R : ErrR K mg "RangeError" (C 3)) (l1 : ∃ u, mg "WIDTH_LIMIT" = some u ∧ RelV (.int 200) u) :
    FnOk P w K mg base (L2.CX P w) 1 f fd ["low", "high"] (spCClamp C) := by
  obtain ⟨u1, gl1, rl1⟩ := l1
  refine F.okX scCC (fun vs H Q E h => ?_) (fun cdv A outer s H vs Q E hr h => ?_)
  · obtain ⟨lo, hi, rfl, _⟩ := h
    rfl
  · obtain ⟨lo, hi, rfl, q0, q3⟩ := h
    refine ⟨_, (pss_cons (ps_set (i := 2) scCC.nd rfl (.inl rfl) (pe_op op_shl pe_int (pe_glob (v := .int 200) (by rfl) gl1 rl1)))
      (pss_cons (ps_if (pt_cmpR op_gt (pv 0) (pv 1) (nomark _)) (pss_one (ps_raise rfl (takes_of rfl rfl rfl rfl) (pmk_own PySem.F.excBase_ValueError R.x R.g R.k (raises_own R.b R.t) rfl))) pss_nil)
      (pss_one (ps_if (PW.pt (pw_or (pt_cmpR op_lt (pv 0) (pe_un un_neg (pv 2)) (nomark _)) (pw_or1 (pt_cmpR op_gt (pv 1) (pv 2) (nomark _))))) (pss_one (ps_raise rfl (takes_of rfl rfl rfl rfl) (pmk_own PySem.F.excBase_ValueError R.x R.g R.k (raises_own R.b R.t) rfl))) pss_nil)))), ?_⟩
    unfold clampR at q0 q3
    refine ⟨_, _, rfl, rfl, ⟨by decide, by decide, by decide⟩, _, rfl, _, rfl, _, _, rfl, rfl, _, rfl, ite2 (fun e => ?_) (fun e => ?_)⟩
    · exact q3 (by rw [if_pos (of_decide_eq_true e)])
    · rw [if_neg (fun x => e (decide_eq_true x))] at q0 q3
      refine ⟨_, rfl, _, rfl, _, rfl, _, _, rfl, rfl, _, rfl, ite2 (fun e2 => iteT ?_) (fun e2 => ?_)⟩
      · exact q3 (by rw [if_pos (.inl (of_decide_eq_true e2))])
      · refine ⟨_, rfl, _, rfl, _, _, rfl, rfl, _, rfl, ite2 (fun e3 => ?_) (fun e3 => ?_)⟩
        · exact q3 (by rw [if_pos (.inr (of_decide_eq_true e3))])
        · refine q0 ?_
          rw [if_neg]
          rintro (h | h)
          · exact e2 (decide_eq_true h)
          · exact e3 (decide_eq_true h)
end
section
variable {P : Program} {w : World} {K : PySem.W.Frag} {mg : Str → Option Value} {base : Heap}
/-- the table of the fields' ranges has this -/
def RgAt (K : PySem.W.Frag) (w : World) (aR : Addr) (nm : Str) : Option (Int × Int) → Prop
  | some (a, b) => 0 ≤ a ∧ a ≤ 30 ∧ 0 ≤ b ∧ b ≤ 30 ∧ ∃ p, KDct K w aR nm (.ref p) ∧ (∀ H, SqT K H p [.int a, .int b]) ∧ ∃ u, PySem.W.nsIn K aR nm = some (some u)
  | none => PySem.W.nsIn K aR nm = some none
def fldBad : Option (Int × Int) → V → Bool
  | some (a, b), .int n => decide (n < a) || decide (b < n)
  | _, _ => false
def fieldsR (pre : Nat) (nr : List (Str × Option (Int × Int))) (fs : List V) : Nat := if pre = 3 then 3 else if (nr.zip fs).any (fun p => fldBad p.1.2 p.2) = true then 3 else 0
theorem fieldsR_cases (pre : Nat) (nr : List (Str × Option (Int × Int))) (fs : List V) : fieldsR pre nr fs = 0 ∨ fieldsR pre nr fs = 3 := by
  unfold fieldsR
  split
  · exact .inr rfl
  · split
    · exact .inr rfl
    · exact .inl rfl
/-- what the first tests find -/
def preOk (kind : Str) (fs : List V) (pre : Nat) : Prop := (kind = "input" → ∃ (x : V) (lo hi : Int), fs = [x, .int lo, .int hi] ∧ pre = if hi < lo then 3 else 0) ∧ (kind = "clamp" → ∃ lo hi : Int, fs = [.int lo, .int hi] ∧ pre = clampR lo hi) ∧ (kind ≠ "input" → kind ≠ "clamp" → pre = 0)
structure FldK (K : PySem.W.Frag) (w : World) (aF aR : Addr) (kind : Str) (nr : List (Str × Option (Int × Int))) (fs : List V) (pre : Nat) : Prop where
  f : ∃ pf, KDct K w aF kind (.ref pf) ∧ ∀ H, SqT K H pf ((nr.map (·.1)).map V.str)
  l : nr.length = fs.length
  r : ∀ p ∈ nr, p.1.length ≤ 100 ∧ RgAt K w aR p.1 p.2
  i : ∀ (j : Nat) (nm : Str) (ab : Int × Int), nr[j]? = some (nm, some ab) → ∃ n, fs[j]? = some (.int n)
  p : preOk kind fs pre
def spFields (K : PySem.W.Frag) (w : World) (C : Nat → Addr) (aF aR : Addr) : Sp := fun vs H Q E => ∃ (kind : Str) (pi : Addr) (fs : List V) (nr : List (Str × Option (Int × Int))) (pre : Nat), vs = [.str kind, .ref pi] ∧ SqT K H pi fs ∧ FldK K w aF aR kind nr fs pre ∧
  ∀ H', Same H H' → (fieldsR pre nr fs = 0 → Q .non H') ∧ (fieldsR pre nr fs = 3 → E (.ref (C 3)) none H')
theorem scFd : FnScope ["kind", "info", "name", "field", "least", "most"] ["kind", "info"] (defScope s_check_fields) := ⟨rfl, rfl, rfl, by decide +kernel, rfl, by decide +kernel, by decide +kernel⟩
theorem int_txt30 : ∀ n : Nat, n ≤ 30 → ((toString (n : Int) : String) : Str).length ≤ 2 := by decide +kernel
theorem int_len30 {a : Int} (h0 : 0 ≤ a) (h1 : a ≤ 30) : ((toString a : String) : Str).length ≤ 2 := by
  obtain ⟨n, rfl⟩ : ∃ n : Nat, a = (n : Int) := ⟨a.toNat, by omega⟩
  exact int_txt30 n (by omega)
theorem log30 {a : Int} (h0 : 0 ≤ a) (h1 : a ≤ 30) : a.natAbs.log2 < 1920 := Nat.lt_of_le_of_lt (Nat.log2_le_self _) (by omega)
theorem clampR_cases (lo hi : Int) : clampR lo hi = 0 ∨ clampR lo hi = 3 := by
  unfold clampR
  split
  · exact .inr rfl
  · split
    · exact .inr rfl
    · exact .inl rfl
theorem ok_fields {f aF aR : Addr} {C : Nat → Addr} {fd : FuncData} {es : Array DictEntry} {nn : Nat} (F : Fun K "check_fields" "check_fields" s_check_fields f fd) (R3 : ErrR K mg "RangeError" (C 3)) (mz : mg "zip" = none)
    (gF : mg "FIELDS" = some (.ref aF)) (gR : mg "_FIELD_RANGES" = some (.ref aR)) (D : KDict K w aR es nn)
    (GCC : FnOk P w K mg base (L2.CX P w) 1 fCC fdCC ["low", "high"] (spCClamp C)) (kCC : PySem.W.keepIn K (.ref fCC) = true) (bCC : Binds K fdCC ["low", "high"] []) (gCC : mg "_check_clamp" = some (.ref fCC))
    : FnOk P w K mg base (L2.CX P w) 2 f fd ["kind", "info"] (spFields K w C aF aR) := by
  refine F.okX scFd (fun vs H Q E h => ?_) (fun cdv A outer s H vs Q E hr h => ?_)
  · obtain ⟨kind, pi, fs, nr, pre, rfl, _⟩ := h
    rfl
  · obtain ⟨kind, pi, fs, nr, pre, rfl, hpi, fk, q⟩ := h
    obtain ⟨pf, hf1, hf2⟩ := fk.f
    obtain ⟨hp1, hp2, hp3⟩ := fk.p
    refine ⟨_, (Evl.pss_cut (ps_if (PW.pt (pw_and (pt_cmpR op_eq (pv 0) (pe_str) (nomark _)) (pw_and1 (pt_cmpR op_gt (pe_ix ix_tup (pv 1) (pe_int) (fun _ _ => rfl)) (pe_ix ix_tup (pv 1) (pe_int) (fun _ _ => rfl)) (nomark _))))) (pss_one (ps_raise rfl (takes_of rfl rfl rfl rfl) (pmk_own PySem.F.excBase_ValueError R3.x R3.g R3.k (raises_own R3.b R3.t) rfl))) pss_nil)
      (Evl.pss_cut (ps_if (pt_cmpR op_eq (pv 0) (pe_str) (nomark _)) (pss_one (ps_expr (pe_callS GCC hr (by rfl) gCC kCC bCC (fun σ => passAt (takes_of rfl rfl rfl rfl) σ) (pa_cons (pe_ix ix_tup (pv 1) (pe_int) (fun _ _ => rfl)) (pa_cons (pe_ix ix_tup (pv 1) (pe_int) (fun _ _ => rfl)) pa_nil))))) pss_nil)
      (pss_one (ps_for (passes_of rfl) rfl (RZ.pi_zipA (by rfl) mz (pa_cons (pe_ix ix_kdict (pe_glob (v := .ref aF) (by rfl) gF rfl) (pv 0) (fun _ _ => rfl)) (pa_cons (pv 1) pa_nil))) (pg_tup rfl (pgs_cons (pg_name (i := 2) scFd.nd rfl (.inl rfl)) (pgs_cons (pg_name (i := 3) scFd.nd rfl (.inl rfl)) pgs_nil))) (pss_one (ps_if (pt_cmpR (op_in_kd D) (pv 2) (pe_glob (v := .ref aR) (by rfl) gR rfl) rfl) (pss_cons (ps_asg (pe_ix ix_kdict (pe_glob (v := .ref aR) (by rfl) gR rfl) (pv 2) (fun _ _ => rfl)) (pg_tup rfl (pgs_cons (pg_name (i := 4) scFd.nd rfl (.inl rfl)) (pgs_cons (pg_name (i := 5) scFd.nd rfl (.inl rfl)) pgs_nil))))
      (pss_one (ps_if (PW.pt (pw_or (pt_cmpR op_lt (pv 3) (pv 4) (nomark _)) (pw_or1 (pt_cmpR op_gt (pv 3) (pv 5) (nomark _))))) (pss_one (ps_raise rfl (takes_of rfl rfl rfl rfl) (SkE.pmk_own1 PySem.F.excBase_ValueError R3.x R3.g R3.k (raises_own R3.b R3.t) rfl (pe_joined (.cons pe_str (.cons (pe_fmt (pv 2)) (.cons pe_str (.cons (pe_fmt (pv 4)) (.cons pe_str (.cons (pe_fmt (pv 5)) .nil)))))))))) pss_nil))) pss_nil)))))), ?_⟩
    unfold fieldsR at q
    have q3 : pre = 3 → E (.ref (C 3)) none H := fun e => (q _ (Same.refl _)).2 (by rw [if_pos e])
    refine ⟨fun σ' H' => σ' = [some (.str kind), some (.ref pi), none, none, none, none] ∧ H' = H ∧ (kind = "input" → pre ≠ 3), ?_, ?_⟩
    · refine ⟨_, rfl, rfl, _, rfl, ?_⟩
      by_cases e : kind = "input"
      · rw [decide_eq_true (show V.str kind = V.str "input" by rw [e])]
        obtain ⟨x, lo, hi, rfl, hpre⟩ := hp1 e
        refine iteT ⟨_, rfl, pi, _, (1 : Nat), _, rfl, rfl, hpi, i1, _, rfl, pi, _, (2 : Nat), _, rfl, rfl, hpi, i2, _, _, rfl, rfl, _, rfl, ite2 (fun e2 => ?_) (fun e2 => ?_)⟩
        · exact q3 (by rw [hpre, if_pos (of_decide_eq_true e2)])
        · refine ⟨rfl, rfl, fun _ h => ?_⟩
          rw [hpre, if_neg (fun x => e2 (decide_eq_true x))] at h
          cases h
      · rw [decide_eq_false (fun h => e (V.str.inj h))]
        exact iteF ⟨rfl, rfl, fun h => absurd h e⟩
    rintro σ' H' ⟨rfl, rfl, hin⟩
    refine ⟨fun σ' H'' => σ' = [some (.str kind), some (.ref pi), none, none, none, none] ∧ H'' = H' ∧ pre ≠ 3, ?_, ?_⟩
    · refine ⟨_, rfl, rfl, _, rfl, ?_⟩
      by_cases e : kind = "clamp"
      · rw [decide_eq_true (show V.str kind = V.str "clamp" by rw [e])]
        obtain ⟨lo, hi, rfl, hpre⟩ := hp2 e
        refine iteT ⟨_, rfl, pi, _, (0 : Nat), _, rfl, rfl, hpi, i0, _, rfl, pi, _, (1 : Nat), _, rfl, rfl, hpi, i1, lo, hi, rfl, fun e0 => ⟨rfl, rfl, fun h => ?_⟩, fun e3 => q3 (hpre.trans e3)⟩
        rw [hpre, e0] at h
        cases h
      · rw [decide_eq_false (fun h => e (V.str.inj h))]
        refine iteF ⟨rfl, rfl, fun h => ?_⟩
        by_cases e2 : kind = "input"
        · exact hin e2 h
        · rw [hp3 e2 e] at h
          cases h
    rintro σ' H'' ⟨rfl, rfl, hpre⟩
    rw [if_neg hpre] at q
    have hnl : ((nr.map (·.1)).map V.str).length = fs.length := by rw [List.length_map, List.length_map, fk.l]
    refine ⟨_, rfl, aF, kind, _, rfl, rfl, hf1, _, rfl, pf, pi, _, _, rfl, .inr ⟨hf2 _, hpi, RZ.for_zipT hnl (fun i σ Hx => ∃ (v2 v3 v4 v5 : Option V), σ = [some (.str kind), some (.ref pi), v2, v3, v4, v5] ∧ Same H'' Hx ∧ ∀ j p v, j < i → nr[j]? = some p → fs[j]? = some v → fldBad p.2 v = false)
      ⟨none, none, none, none, rfl, Same.refl _, fun j p v h => absurd h (Nat.not_lt_zero _)⟩ (fun i σ Hx ⟨_, _, _, _, _, e, _⟩ => ⟨hf2 _, sqT_same hpi e⟩) ?_ ?_⟩⟩
    · rintro i x y T σ Hx hx hy ⟨v2, v3, v4, v5, rfl, sm, hok⟩ hT
      have sT := same_upd (o := .tup [x, y]) hT
      rw [List.getElem?_map, List.getElem?_map] at hx
      cases hnr : nr[i]? with
      | none => rw [hnr] at hx; cases hx
      | some p =>
        rw [hnr] at hx
        obtain rfl : V.str p.1 = x := Option.some.inj hx
        obtain ⟨hpl, hrg⟩ := fk.r p (List.mem_of_getElem? hnr)
        refine ⟨T, _, rfl, SqT.of upd_same, rfl, _, _, rfl, _, _, rfl, rfl, ?_⟩
        have smT := sm.trans sT
        have badE : fldBad p.2 y = true → E (.ref (C 3)) none (upd Hx T (.tup [.str p.1, y])) := fun hb => (q _ smT).2 (by
          rw [if_pos]
          rw [List.any_eq_true]
          exact ⟨(p, y), List.mem_of_getElem? (i := i) (by rw [List.getElem?_zip_eq_some]; exact ⟨hnr, hy⟩), hb⟩)
        have go : ∀ (a2 a3 a4 a5 : Option V), fldBad p.2 y = false → ∃ (v2 v3 v4 v5 : Option V), [some (V.str kind), some (.ref pi), a2, a3, a4, a5] = [some (V.str kind), some (.ref pi), v2, v3, v4, v5] ∧ Same H'' (upd Hx T (.tup [.str p.1, y])) ∧ ∀ j p' v, j < i + 1 → nr[j]? = some p' → fs[j]? = some v → fldBad p'.2 v = false := fun a2 a3 a4 a5 hb => ⟨a2, a3, a4, a5, rfl, smT, fun j p' v hj h1 h2 => by
          by_cases ej : j = i
          · subst ej
            rw [hnr] at h1
            rw [hy] at h2
            cases h1
            cases h2
            exact hb
          · exact hok j p' v (by omega) h1 h2⟩
        obtain ⟨nm, ro⟩ := p
        cases ro with
        | none => exact ⟨_, rfl, nm, none, rfl, rfl, hrg, _, rfl, iteF (go _ _ _ _ rfl)⟩
        | some ab =>
          obtain ⟨lo, hi⟩ := ab
          obtain ⟨a0, a1, b0, b1, pr, hk, hsq, u, hu⟩ := hrg
          obtain ⟨n, hn⟩ := fk.i i nm (lo, hi) hnr
          rw [hy] at hn
          cases hn
          refine ⟨_, rfl, nm, some u, rfl, rfl, hu, _, rfl, iteT ?_⟩
          refine ⟨_, rfl, aR, nm, _, rfl, rfl, hk, pr, _, rfl, hsq _, rfl, _, _, rfl, _, _, rfl, rfl, ?_⟩
          have l1 := int_len30 a0 a1
          have l2 := int_len30 b0 b1
          have m1 : (Str.empty ++ ("the field " : Str)).length = 10 := by decide +kernel
          have m2 : (" is not from " : Str).length = 13 := by decide +kernel
          have m3 : (" to " : Str).length = 4 := by decide +kernel
          have hpl' : nm.length ≤ 100 := hpl
          have rz : fldBad (some (lo, hi)) (.int n) = true → _ := badE
          have fin : fldBad (some (lo, hi)) (.int n) = true → (∃ x, x = x) := fun _ => ⟨(), rfl⟩
          refine ⟨_, rfl, _, rfl, _, _, rfl, rfl, _, rfl, ite2 (fun e4 => iteT ?_) (fun e4 => ?_)⟩
          · refine ⟨_, rfl, fit (by omega), _, rfl, .inl ⟨_, rfl, fit (by omega), _, rfl, fit (by rw [txt_len]; omega), _, rfl, fit (by rw [txt_len, txt_len]; omega), _, rfl, .inr ⟨lo, rfl, log30 a0 a1, _, rfl, fit (by rw [txt_len, txt_len, txt_len]; omega), _, rfl, fit (by rw [txt_len, txt_len, txt_len, txt_len]; omega), _, rfl, .inr ⟨hi, rfl, log30 b0 b1, _, rfl, fit (by rw [txt_len, txt_len, txt_len, txt_len, txt_len]; omega), badE ?_⟩⟩⟩⟩
            show (decide (n < lo) || decide (hi < n)) = true
            rw [e4]
            rfl
          · refine ⟨_, rfl, _, rfl, _, _, rfl, rfl, _, rfl, ite2 (fun e5 => ?_) (fun e5 => ?_)⟩
            · refine ⟨_, rfl, fit (by omega), _, rfl, .inl ⟨_, rfl, fit (by omega), _, rfl, fit (by rw [txt_len]; omega), _, rfl, fit (by rw [txt_len, txt_len]; omega), _, rfl, .inr ⟨lo, rfl, log30 a0 a1, _, rfl, fit (by rw [txt_len, txt_len, txt_len]; omega), _, rfl, fit (by rw [txt_len, txt_len, txt_len, txt_len]; omega), _, rfl, .inr ⟨hi, rfl, log30 b0 b1, _, rfl, fit (by rw [txt_len, txt_len, txt_len, txt_len, txt_len]; omega), badE ?_⟩⟩⟩⟩
              show (decide (n < lo) || decide (hi < n)) = true
              rw [e5, Bool.or_true]
            · refine go _ _ _ _ ?_
              show (decide (n < lo) || decide (hi < n)) = false
              rw [Bool.or_eq_false_iff]
              exact ⟨Bool.eq_false_iff.mpr e4, Bool.eq_false_iff.mpr e5⟩
    · rintro σ Hx ⟨v2, v3, v4, v5, rfl, sm, hok⟩
      refine (q _ sm).1 ?_
      rw [if_neg]
      intro h
      rw [List.any_eq_true] at h
      obtain ⟨⟨p, v⟩, hm, hb⟩ := h
      obtain ⟨j, hj⟩ := List.mem_iff_getElem?.mp hm
      rw [List.getElem?_zip_eq_some] at hj
      have hjl : j < ((nr.map (·.1)).map V.str).length := by
        rw [hnl]
        exact (List.getElem?_eq_some_iff.mp hj.2).1
      have := hok j p v hjl hj.1 hj.2
      rw [this] at hb
      cases hb
end
section
variable {P : Program} {w : World} {K : PySem.W.Frag} {mg : Str → Option Value} {base : Heap}

/-- every error that check_code may raise -/
def Bad (C : Nat → Addr) (E : XK) (H : Hp) : Prop := E (.ref (C 3)) none H ∧ E (.ref (C 4)) none H ∧ E (.ref (C 6)) none H
structure TxtT (mg : Str → Option Value) : Prop where
  len : mg "len" = none
  tuple : mg "tuple" = none
  zip : mg "zip" = none
  range : mg "range" = none
  str : mg "str" = none
  int : mg "int" = none
  list : mg "list" = none
  isi : mg "isinstance" = none
  all : mg "all" = none
  enumerate : mg "enumerate" = none
  max : mg "max" = none
/-! ### machines -/
def mRows : List (Str × Int × Int) := [("width", 32, 256), ("main", 1, 16384), ("near", 16, 4096), ("queues", 1, 4), ("lanes", 1, 16)]
structure MchT (K : PySem.W.Frag) (mg : Str → Option Value) (aB : Addr) (bs : List Addr) : Prop where
  g : mg "_BOUNDS" = some (.ref aB)
  t : ∀ H, SqT K H aB (bs.map V.ref)
  l : bs.length = 5
  e : ∀ (i : Nat) b r, bs[i]? = some b → mRows[i]? = some r → ∀ H, SqT K H b [.str r.1, .int r.2.1, .int r.2.2]
/-- a machine -/
structure MOk (m : Mch) (ms : List Int) : Prop where
  l : ms.length = 5
  r : ∀ (i : Nat) (n : Int) r, ms[i]? = some n → mRows[i]? = some r → r.2.1 ≤ n ∧ n ≤ r.2.2
  w : ms[0]? = some m.w
  q : ms[3]? = some m.q
  e : ms[4]? = some m.l
theorem MOk.wb {m : Mch} {ms : List Int} (h : MOk m ms) : 32 ≤ m.w ∧ m.w ≤ 256 := h.r 0 _ ("width", 32, 256) h.w rfl
theorem MOk.qb {m : Mch} {ms : List Int} (h : MOk m ms) : 1 ≤ m.q ∧ m.q ≤ 4 := h.r 3 _ ("queues", 1, 4) h.q rfl
theorem MOk.lb {m : Mch} {ms : List Int} (h : MOk m ms) : 1 ≤ m.l ∧ m.l ≤ 16 := h.r 4 _ ("lanes", 1, 16) h.e rfl
def spCM (K : PySem.W.Frag) : Sp := fun vs H Q _ => ∃ (a : Addr) (m : Mch) (ms : List Int), vs = [.ref a] ∧ SqT K H a (ms.map V.int) ∧ MOk m ms ∧ ∀ H', Same H H' → Q .non H'
theorem ps_no {X : Cx} {st : Stmt} : PS X st (fun _ _ _ => False) := ⟨fun _ _ _ _ _ _ h => h.elim⟩
abbrev nCM : List Str := ["machine", "n", "name", "low", "high"]
theorem scCM : FnScope nCM ["machine"] (defScope scheck_machine) := ⟨rfl, rfl, rfl, by decide +kernel, rfl, by decide +kernel, by decide +kernel⟩
theorem ok_cm {f aB : Addr} {bs : List Addr} {fd : FuncData} (F : Fun K "check_machine" "check_machine" scheck_machine f fd) (T : TxtT mg) (M : MchT K mg aB bs) : FnOk P w K mg base CX0 1 f fd ["machine"] (spCM K) := by
  have gB := M.g
  refine F.ok scCM (fun vs H Q E h => ?_) (fun cdv A outer s H vs Q E hr h => ?_)
  · obtain ⟨_, _, _, rfl, _⟩ := h
    rfl
  · obtain ⟨a, m, ms, rfl, ha, hm, q⟩ := h
    refine ⟨_, (pss_one (ps_for PassesOwn.never rfl (RZ.pi_zipA (by rfl) T.zip (pa_cons (pv 0) (pa_cons (pe_glob (v := (.ref aB)) (by rfl) gB rfl) pa_nil))) (pg_tup rfl (pgs_cons (pg_name (i := 1) scCM.nd rfl (.inl rfl)) (pgs_cons (pg_tup rfl (pgs_cons (pg_name (i := 2) scCM.nd rfl (.inl rfl)) (pgs_cons (pg_name (i := 3) scCM.nd rfl (.inl rfl)) (pgs_cons (pg_name (i := 4) scCM.nd rfl (.inl rfl)) pgs_nil)))) pgs_nil))) (pss_one (ps_if (PW.pt (pw_or (pt_cmpR op_lt (pv 1) (pv 3) (nomark _)) (pw_or1 (pt_cmpR op_gt (pv 1) (pv 4) (nomark _))))) (pss_one ps_no) pss_nil)))), ?_⟩
    refine ⟨_, rfl, a, aB, ms.map V.int, bs.map V.ref, rfl, .inr ⟨ha, M.t _, RZ.for_zipT (K := K) (a := a) (b := aB) (xs := ms.map V.int) (ys := bs.map V.ref) (by rw [List.length_map, List.length_map, hm.l, M.l])
      (fun i σ H' => ∃ (v1 v2 v3 v4 : Option V), σ = [some (.ref a), v1, v2, v3, v4] ∧ Same H H') ⟨none, none, none, none, rfl, Same.refl H⟩ ?_ ?_ ?_⟩⟩
    · rintro i σ H' ⟨v1, v2, v3, v4, _, sm⟩
      exact ⟨sqT_same ha sm, M.t _⟩
    · rintro i x y T' σ H' h1 h2 ⟨v1, v2, v3, v4, rfl, sm⟩ nT
      obtain ⟨n, rfl, g1⟩ := map_int_at h1
      obtain ⟨b, rfl, g2⟩ := map_ref_at h2
      have hi : i < mRows.length := by
        have := (List.getElem?_eq_some_iff.mp g1).1
        have e5 : mRows.length = 5 := rfl
        have := hm.l
        omega
      have g3 : mRows[i]? = some mRows[i] := List.getElem?_eq_getElem hi
      have hr := hm.r i n _ g1 g3
      have he := M.e i b _ g2 g3
      generalize mRows[i] = r at g3 hr he
      obtain ⟨z, lo, hi'⟩ := r
      have s2 : Same H' (upd H' T' (.tup [.int n, .ref b])) := same_upd nT
      refine ⟨T', _, rfl, SqT.of upd_same, rfl, _, _, rfl, _, _, rfl, b, _, rfl, he _, rfl, _, _, rfl, _, _, rfl, _, _, rfl, rfl, rfl, ?_⟩
      have hr : lo ≤ n ∧ n ≤ hi' := hr
      refine ⟨_, rfl, _, rfl, _, _, rfl, rfl, _, rfl, ite2 (fun e1 => absurd (of_decide_eq_true e1) (by omega)) (fun e1 => ⟨_, rfl, _, rfl, _, _, rfl, rfl, _, rfl, ite2 (fun e2 => absurd (of_decide_eq_true e2) (by omega)) (fun e2 => ?_)⟩)⟩
      exact ⟨_, _, _, _, rfl, sm.trans s2⟩
    · rintro σ H' ⟨v1, v2, v3, v4, rfl, sm⟩
      exact q _ sm
def spWB (K : PySem.W.Frag) : Sp := fun vs H Q _ => ∃ (a : Addr) (m : Mch) (ms : List Int), vs = [.ref a] ∧ SqT K H a (ms.map V.int) ∧ MOk m ms ∧ ∀ H' p, Same H H' → H' p = some (.tup [.int (wlo m), .int (whi m)]) → Q (.ref p) H'
abbrev nWB : List Str := ["machine", "width"]
theorem scWB : FnScope nWB ["machine"] (defScope sword_bounds) := ⟨rfl, rfl, rfl, by decide +kernel, rfl, by decide +kernel, by decide +kernel⟩
theorem ok_wb {f : Addr} {fd : FuncData} (F : Fun K "word_bounds" "word_bounds" sword_bounds f fd) : FnOk P w K mg base CX0 1 f fd ["machine"] (spWB K) := by
  refine F.ok scWB (fun vs H Q E h => ?_) (fun cdv A outer s H vs Q E hr h => ?_)
  · obtain ⟨_, _, _, rfl, _⟩ := h
    rfl
  · obtain ⟨a, m, ms, rfl, ha, hm, q⟩ := h
    obtain ⟨h1, h2⟩ := hm.wb
    refine ⟨_, (pss_cons (ps_set (i := 1) scWB.nd rfl (.inl rfl) (pe_ix ix_tup (pv 0) pe_int (fun _ _ => rfl)))
      (pss_one (ps_ret (pe_tup (pa_cons (pe_un un_neg (pe_op op_shl pe_int (pe_op op_sub (pv 1) pe_int))) (pa_cons (pe_op op_sub (pe_op op_shl pe_int (pe_op op_sub (pv 1) pe_int)) pe_int) pa_nil)))))), ?_⟩
    refine ⟨_, rfl, a, _, _, _, rfl, rfl, ha, atI_nat (j := 0) (by rw [List.getElem?_map, hm.w]; rfl), ?_⟩
    refine ⟨_, rfl, _, _, rfl, rfl, _, _, rfl, rfl, ⟨by show 0 ≤ m.w - 1; omega, by show m.w - 1 ≤ 1000000; omega, by decide⟩, _, rfl, _, rfl, _, _, rfl, rfl, _, _, rfl, rfl, ⟨by show 0 ≤ m.w - 1; omega, by show m.w - 1 ≤ 1000000; omega, by decide⟩, _, _, rfl, rfl, by show 2 ≤ sizeLine; decide, fun p np => q _ p (same_upd np) upd_same⟩
/-! ### numbers -/
def spCN (K : PySem.W.Frag) (C : Nat → Addr) : Sp := fun vs H Q E => ∃ (n lo hi : Int) (p : Addr), vs = [.int n, .ref p] ∧ SqT K H p [.int lo, .int hi] ∧ (lo ≤ n ∧ n ≤ hi → Q .non H) ∧ (¬ (lo ≤ n ∧ n ≤ hi) → Bad C E H)
abbrev nCN : List Str := ["n", "bounds", "low", "high"]
theorem scCN : FnScope nCN ["n", "bounds"] (defScope s_check_number) := ⟨rfl, rfl, rfl, by decide +kernel, rfl, by decide +kernel, by decide +kernel⟩
theorem ok_cn {f : Addr} {C : Nat → Addr} {fd : FuncData} (F : Fun K "_check_number" "_check_number" s_check_number f fd) (R3 : ErrR K mg "RangeError" (C 3)) : FnOk P w K mg base (L2.CX P w) 1 f fd ["n", "bounds"] (spCN K C) := by
  refine F.okX scCN (fun vs H Q E h => ?_) (fun cdv A outer s H vs Q E hr h => ?_)
  · obtain ⟨_, _, _, _, rfl, _⟩ := h
    rfl
  · obtain ⟨n, lo, hi, p, rfl, hp, q, qE⟩ := h
    refine ⟨_, (pss_cons (ps_asg (pv 1) (pg_tup rfl (pgs_cons (pg_name (i := 2) scCN.nd rfl (.inl rfl)) (pgs_cons (pg_name (i := 3) scCN.nd rfl (.inl rfl)) pgs_nil))))
      (pss_one (ps_if (PW.pt (pw_or (pt_cmpR op_lt (pv 0) (pv 2) (nomark _)) (pw_or1 (pt_cmpR op_gt (pv 0) (pv 3) (nomark _))))) (pss_one (ps_raise rfl (takes_of rfl rfl rfl rfl) (pmk_own PySem.F.excBase_ValueError R3.x R3.g R3.k (raises_own R3.b R3.t) rfl))) pss_nil))), ?_⟩
    refine ⟨_, rfl, p, _, rfl, hp, rfl, _, _, rfl, _, _, rfl, rfl, ?_⟩
    refine ⟨_, rfl, _, rfl, _, _, rfl, rfl, _, rfl, ite2 (fun e1 => iteT ?_) (fun e1 => ⟨_, rfl, _, rfl, _, _, rfl, rfl, _, rfl, ite2 (fun e2 => ?_) (fun e2 => ?_)⟩)⟩
    · have := of_decide_eq_true e1
      exact (qE (by omega)).1
    · have := of_decide_eq_true e2
      exact (qE (by omega)).1
    · refine q ⟨?_, ?_⟩
      · have : ¬ n < lo := fun z => e1 (decide_eq_true z)
        omega
      · have : ¬ hi < n := fun z => e2 (decide_eq_true z)
        omega
end

/-! ### code on the heap -/
def FvAt (H : Hp) (v : V) : Fv → Prop
  | .int n => v = .int n
  | .str s => v = .str s
  | .tup ns => ∃ a, v = .ref a ∧ H a = some (.tup (ns.map V.int))
def FvsAt (H : Hp) : List V → List Fv → Prop
  | [], [] => True
  | v :: vs, d :: ds => FvAt H v d ∧ FvsAt H vs ds
  | _, _ => False
def InAt (H : Hp) (v : V) (x : Ins) : Prop := ∃ p vs, v = .ref p ∧ H p = some (.tup (.str x.nm :: vs)) ∧ FvsAt H vs x.fs
def InsAt (H : Hp) (ws : List V) (xs : List Ins) : Prop := ws.length = xs.length ∧ ∀ (i : Nat) (v : V) (x : Ins), ws[i]? = some v → xs[i]? = some x → InAt H v x
def CodeAt (K : PySem.W.Frag) (H : Hp) (p : Addr) (xs : List Ins) : Prop := ∃ ws, SqT K H p ws ∧ InsAt H ws xs
theorem tup_nl {H H' : Hp} {a : Addr} {xs : List V} (h : H a = some (.tup xs)) (s : NL H H') : H' a = some (.tup xs) := by
  rcases s _ _ h with ⟨_, e⟩ | e
  · cases e
  · exact e
theorem FvAt.keep {H H' : Hp} {v : V} {d : Fv} (h : FvAt H v d) (s : NL H H') : FvAt H' v d := by
  cases d with
  | int n => exact h
  | str z => exact h
  | tup ns =>
    obtain ⟨a, e, h1⟩ := h
    exact ⟨a, e, tup_nl h1 s⟩
theorem FvsAt.keep {H H' : Hp} : ∀ {vs : List V} {ds : List Fv}, FvsAt H vs ds → NL H H' → FvsAt H' vs ds
  | [], [], _, _ => trivial
  | _ :: _, _ :: _, h, s => ⟨h.1.keep s, FvsAt.keep h.2 s⟩
theorem FvsAt.len {H : Hp} : ∀ {vs : List V} {ds : List Fv}, FvsAt H vs ds → vs.length = ds.length
  | [], [], _ => rfl
  | _ :: _, _ :: _, h => congrArg (· + 1) (FvsAt.len h.2)
theorem FvsAt.at {H : Hp} : ∀ {vs : List V} {ds : List Fv} {i : Nat} {v : V} {d : Fv}, FvsAt H vs ds → vs[i]? = some v → ds[i]? = some d → FvAt H v d
  | [], [], _, _, _, _, h, _ => by cases h
  | x :: vs, y :: ds, 0, v, d, h, a, b => by
    cases a
    cases b
    exact h.1
  | x :: vs, y :: ds, i + 1, v, d, h, a, b => FvsAt.at (i := i) h.2 a b
theorem FvsAt.snoc {H : Hp} {v : V} {d : Fv} : ∀ {vs : List V} {ds : List Fv}, FvsAt H vs ds → FvAt H v d → FvsAt H (vs ++ [v]) (ds ++ [d])
  | [], [], _, k => ⟨k, trivial⟩
  | _ :: _, _ :: _, h, k => ⟨h.1, FvsAt.snoc h.2 k⟩
theorem FvsAt.unc {H : Hp} {d : Fv} {ds : List Fv} : ∀ {vs : List V}, FvsAt H vs (d :: ds) → ∃ v r, vs = v :: r ∧ FvAt H v d ∧ FvsAt H r ds
  | [], h => h.elim
  | v :: r, h => ⟨v, r, rfl, h.1, h.2⟩
theorem FvsAt.unn {H : Hp} : ∀ {vs : List V}, FvsAt H vs [] → vs = []
  | [], _ => rfl
  | _ :: _, h => h.elim
theorem InAt.keep {H H' : Hp} {v : V} {x : Ins} (h : InAt H v x) (s : NL H H') : InAt H' v x := by
  obtain ⟨p, vs, e, h1, h2⟩ := h
  exact ⟨p, vs, e, tup_nl h1 s, h2.keep s⟩
theorem InAt.same {H H' : Hp} {v : V} {x : Ins} (h : InAt H v x) (s : Same H H') : InAt H' v x := h.keep (Same.nl s)
theorem InsAt.keep {H H' : Hp} {vs : List V} {xs : List Ins} (h : InsAt H vs xs) (s : NL H H') : InsAt H' vs xs := ⟨h.1, fun i v x a b => (h.2 i v x a b).keep s⟩
theorem InsAt.nil (H : Hp) : InsAt H [] [] := ⟨rfl, fun i v x h => by simp at h⟩
theorem InsAt.app {H : Hp} {vs us : List V} {xs ys : List Ins} (h : InsAt H vs xs) (k : InsAt H us ys) : InsAt H (vs ++ us) (xs ++ ys) := ⟨by rw [List.length_append, List.length_append, h.1, k.1], fun i v x a b => by
  by_cases hi : i < vs.length
  · rw [List.getElem?_append_left hi] at a
    rw [List.getElem?_append_left (by rw [← h.1]; exact hi)] at b
    exact h.2 i v x a b
  · rw [List.getElem?_append_right (by omega)] at a
    rw [List.getElem?_append_right (by rw [← h.1]; omega), ← h.1] at b
    exact k.2 _ v x a b⟩
theorem InsAt.one {H : Hp} {v : V} {x : Ins} (h : InAt H v x) : InsAt H [v] [x] := ⟨rfl, fun i u y a b => by
  cases i with
  | zero => cases a; cases b; exact h
  | succ i => simp at a⟩
theorem CodeAt.same {K : PySem.W.Frag} {H H' : Hp} {p : Addr} {xs : List Ins} (h : CodeAt K H p xs) (s : Same H H') : CodeAt K H' p xs := by
  obtain ⟨ws, h1, h2⟩ := h
  exact ⟨ws, sqT_same h1 s, h2.keep (Same.nl s)⟩
theorem ixN_last (n : Nat) : ixN (n + 1) (-1) = some n := by
  unfold ixN
  rw [if_neg (by decide), if_pos (by omega)]
  congr 1
  omega
theorem atI_last {α : Type} (xs : List α) (x : α) : atI (xs ++ [x]) (-1) = some x := by
  unfold atI
  have e : (xs ++ [x]).length = xs.length + 1 := by rw [List.length_append]; rfl
  rw [e, ixN_last]
  show (xs ++ [x])[xs.length]? = some x
  rw [List.getElem?_append_right (Nat.le_refl _), Nat.sub_self]
  rfl
/-- a stack, its top first: so it stands in a list -/
def stk (st : List Int) : List V := (st.map V.int).reverse
theorem stk_cons (a : Int) (st : List Int) : stk (a :: st) = stk st ++ [.int a] := by unfold stk; rw [List.map_cons, List.reverse_cons]
theorem stk_len (st : List Int) : (stk st).length = st.length := by unfold stk; rw [List.length_reverse, List.length_map]
def lbE (r : List Ins) (p : Nat) : List Int → Option (List Int)
  | [] => none
  | t :: st' => (lbF r p (t :: st')).map (t :: ·)
theorem lbF_loop {x : Ins} {r : List Ins} {p : Nat} {st : List Int} (h : x.nm = "loop") : lbF (x :: r) p st = (lbF r (p + 1) ((p : Int) :: st)).map ((p : Int) :: ·) := by
  conv => lhs; unfold lbF
  rw [if_pos h]
theorem lbF_end {x : Ins} {r : List Ins} {p : Nat} {t : Int} {st : List Int} (h : x.nm ≠ "loop") (k : x.nm = "end") : lbF (x :: r) p (t :: st) = lbE r (p + 1) st := by
  conv => lhs; unfold lbF
  rw [if_neg h, if_pos k]
  cases st <;> rfl
theorem lbF_oth {x : Ins} {r : List Ins} {p : Nat} {t : Int} {st : List Int} (h : x.nm ≠ "loop") (k : x.nm ≠ "end") : lbF (x :: r) p (t :: st) = (lbF r (p + 1) (t :: st)).map (t :: ·) := by
  conv => lhs; unfold lbF
  rw [if_neg h, if_neg k]
section
variable {P : Program} {w : World} {K : PySem.W.Frag} {mg : Str → Option Value} {base : Heap}
/-! ### _loops_behind -/
def spLB (K : PySem.W.Frag) (C : Nat → Addr) : Sp := fun vs H Q E => ∃ (p : Addr) (xs : List Ins), vs = [.ref p] ∧ CodeAt K H p xs ∧ xs.length ≤ 2000000 ∧
  ∀ H', Same H H' → (lbF xs 0 [-1] = none → Bad C E H') ∧ ∀ bh, lbF xs 0 [-1] = some bh → ∀ l, H' l = some (.lst (bh.map V.int)) → Q (.ref l) H'
abbrev nLB : List Str := ["code", "around", "found", "at", "instruction"]
theorem scLB : FnScope nLB ["code"] (defScope s_loops_behind) := ⟨rfl, rfl, rfl, by decide +kernel, rfl, by decide +kernel, by decide +kernel⟩
theorem ok_lb {f : Addr} {C : Nat → Addr} {fd : FuncData} (F : Fun K "_loops_behind" "_loops_behind" s_loops_behind f fd) (T : TxtT mg) (R6 : ErrR K mg "FormError" (C 6)) : FnOk P w K mg base (L2.CX P w) 1 f fd ["code"] (spLB K C) := by
  refine F.okX scLB (fun vs H Q E h => ?_) (fun cdv A outer s H vs Q E hr h => ?_)
  · obtain ⟨_, _, rfl, _⟩ := h
    rfl
  · obtain ⟨p, xs, rfl, ⟨ws, hp, hI⟩, hl, q⟩ := h
    refine ⟨_, (pss_cons (ps_set (i := 1) scLB.nd rfl (.inl rfl) (pe_lst (pa_cons (pe_un un_neg pe_int) pa_nil)))
      (pss_cons (ps_set (i := 2) scLB.nd rfl (.inl rfl) (pe_lst pa_nil))
      (pss_cons (ps_for (passes_of rfl) rfl (pi_enumT (by rfl) T.enumerate (pa_cons (pv 0) pa_nil)) (pg_tup rfl (pgs_cons (pg_name (i := 3) scLB.nd rfl (.inl rfl)) (pgs_cons (pg_name (i := 4) scLB.nd rfl (.inl rfl)) pgs_nil))) (pss_cons (ps_if (pt_cmpR op_eq (pe_ix ix_tup (pv 4) pe_int (fun _ _ => rfl)) pe_str (nomark _)) (pss_one (ps_expr (pe_bm PySem.F.plainAttrs_list PySem.F.slot_list_append PySem.F.type_list_append mt_append (pv 1) (pa_cons (pv 3) pa_nil)))) pss_nil)
      (pss_cons (ps_if (pt_cmpR op_eq (pe_ix ix_tup (pv 4) pe_int (fun _ _ => rfl)) pe_str (nomark _)) (pss_cons (ps_expr (pe_bm0 PySem.F.plainAttrs_list PySem.F.slot_list_pop PySem.F.type_list_pop mt_pop (pv 1)))
      (pss_one (ps_if (pt_cmpR op_eq (pe_callB call_len_seq (by rfl) T.len PySem.boot_len (pa_cons (pv 1) pa_nil)) pe_int (nomark _)) (pss_one (ps_raise rfl (takes_of rfl rfl rfl rfl) (pmk_own PySem.F.excBase_ValueError R6.x R6.g R6.k (raises_own R6.b R6.t) rfl))) pss_nil))) pss_nil)
      (pss_one (ps_expr (pe_bm PySem.F.plainAttrs_list PySem.F.slot_list_append PySem.F.type_list_append mt_append (pv 2) (pa_cons (pe_ix ix_list (pv 1) (pe_un un_neg pe_int) (fun _ _ => rfl)) pa_nil)))))))
      (pss_cons (ps_if (pt_cmpR op_gt (pe_callB call_len_seq (by rfl) T.len PySem.boot_len (pa_cons (pv 1) pa_nil)) pe_int (nomark _)) (pss_one (ps_raise rfl (takes_of rfl rfl rfl rfl) (pmk_own PySem.F.excBase_ValueError R6.x R6.g R6.k (raises_own R6.b R6.t) rfl))) pss_nil)
      (pss_one (ps_ret (pv 2))))))), ?_⟩
    refine ⟨_, rfl, by show 1 ≤ sizeLine; decide, fun pa na => ?_⟩
    have s1 := same_upd (o := .lst [V.int (-1)]) na
    refine ⟨Nat.zero_le _, fun pf nf => ?_⟩
    have s2 := same_upd (o := .lst []) nf
    have hpaf : pa ≠ pf := fun e => by rw [e] at na; rw [← e, upd_same] at nf; cases nf
    have s12 := s1.trans s2
    have hpa0 : (upd (upd H pa (.lst [V.int (-1)])) pf (.lst [])) pa = some (.lst (stk [-1])) := s2 _ _ upd_same
    have hpf0 : (upd (upd H pa (.lst [V.int (-1)])) pf (.lst [])) pf = some (.lst []) := upd_same
    generalize upd (upd H pa (.lst [V.int (-1)])) pf (.lst []) = H0 at s12 hpa0 hpf0
    have npa : ∀ b o, H b = some o → b ≠ pa := fun b o e => ne_of_none e na
    have npf : ∀ b o, H b = some o → b ≠ pf := fun b o e => ne_of_none (s1 _ _ e) nf
    have hwl : ws.length = xs.length := hI.1
    refine ⟨_, rfl, p, ws, rfl, sqT_same hp s12, for_it (walk_enumT (K := K) (a := p) (xs := ws)) (fun i σ H' => ∃ (v3 v4 : Option V) (st fnd : List Int), σ = [some (.ref p), some (.ref pa), some (.ref pf), v3, v4] ∧ Same H H' ∧ H' pa = some (.lst (stk st)) ∧ H' pf = some (.lst (fnd.map V.int)) ∧ st ≠ [] ∧ st.length ≤ i + 1 ∧ fnd.length = i ∧ lbF xs 0 [-1] = (lbF (xs.drop i) i st).map (fnd ++ ·))
      ⟨_, _, [-1], [], rfl, s12, hpa0, hpf0, by decide, Nat.le_refl _, rfl, by rw [List.drop_zero]; cases lbF xs 0 [-1] <;> rfl⟩ (fun i σ H' _ ⟨_, _, _, _, _, sm, _⟩ => sqT_same hp sm) ?_ ?_⟩
    · rintro i v σ H1 H2 hi ⟨v3, v4, st, fnd, rfl, sm, hpa, hpf, hst, hsl, hfl, hlb⟩ ⟨T', x', y', rfl, nT, rfl, e1, e2⟩
      dsimp only at e1 e2
      cases e1
      obtain ⟨x, hx⟩ : ∃ x, xs[i]? = some x := ⟨_, List.getElem?_eq_getElem (by omega)⟩
      have sT := same_upd (o := .tup [V.int (i : Nat), y']) nT
      obtain ⟨px, vx, rfl, hpx, hfx⟩ := (hI.2 i y' x e2 hx).same (sm.trans sT)
      have hpaT := sT _ _ hpa
      have hpfT := sT _ _ hpf
      have smT := sm.trans sT
      refine ⟨T', _, rfl, SqT.of upd_same, rfl, _, _, rfl, _, _, rfl, rfl, ?_⟩
      generalize upd H1 T' (.tup [.int (i : Nat), .ref px]) = H3 at hpx hfx hpaT hpfT smT
      rw [drop_at hx] at hlb
      obtain ⟨t, st', rfl⟩ : ∃ t st', st = t :: st' := by
        cases st with
        | nil => exact absurd rfl hst
        | cons a b => exact ⟨a, b, rfl⟩
      have nle : ("loop" : Str) ≠ "end" := by decide +kernel
      refine ⟨_, rfl, px, _, 0, _, rfl, rfl, SqT.of hpx, i0, rfl, _, rfl, ?_⟩
      by_cases c1 : x.nm = "loop"
      · rw [decide_eq_true (show V.str x.nm = V.str "loop" by rw [c1])]
        have hlb : lbF xs 0 [-1] = ((lbF (xs.drop (i + 1)) (i + 1) ((i : Int) :: t :: st')).map ((i : Int) :: ·)).map (fnd ++ ·) := by
          rw [hlb, lbF_loop c1]
        refine iteT ⟨_, rfl, .inl ⟨rfl, _, SqL.of hpaT⟩, _, rfl, pa, _, _, rfl, rfl, hpaT, by rw [stk_len]; exact Nat.lt_of_le_of_lt hsl (by show i + 1 < sizeLine; rw [sizeLine_eq]; omega), ?_⟩
        have hn2 := nl_upd (o := .lst (stk (t :: st') ++ [V.int (i : Nat)])) hpaT
        have hpx2 := tup_nl hpx hn2
        have hpf2 : (upd H3 pa (.lst (stk (t :: st') ++ [V.int (i : Nat)]))) pf = some (.lst (fnd.map V.int)) := by rw [upd_ne (Ne.symm hpaf)]; exact hpfT
        have hpa2 : (upd H3 pa (.lst (stk (t :: st') ++ [V.int (i : Nat)]))) pa = some (.lst (stk ((i : Int) :: t :: st'))) := by rw [upd_same, stk_cons (i : Int)]
        have sm2 : Same H (upd H3 pa (.lst (stk (t :: st') ++ [V.int (i : Nat)]))) := fun b o e => by rw [upd_ne (npa b o e)]; exact smT _ _ e
        generalize upd H3 pa (.lst (stk (t :: st') ++ [V.int (i : Nat)])) = H4 at hpx2 hpf2 hpa2 sm2
        refine ⟨_, rfl, px, _, 0, _, rfl, rfl, SqT.of hpx2, i0, rfl, _, rfl, ?_⟩
        rw [decide_eq_false (show ¬ V.str x.nm = V.str "end" from fun e => nle (by rw [← c1]; exact V.str.inj e))]
        refine iteF ⟨_, rfl, .inl ⟨rfl, _, SqL.of hpf2⟩, _, rfl, _, rfl, pa, _, _, _, rfl, rfl, SqL.of hpa2, by rw [stk_cons]; exact atI_last _ _, pf, _, _, rfl, rfl, hpf2, by rw [List.length_map, hfl]; exact Nat.lt_of_le_of_lt (Nat.le_of_lt hi) (by rw [hwl, sizeLine_eq]; omega), ?_⟩
        refine ⟨_, _, (i : Int) :: t :: st', fnd ++ [(i : Int)], rfl, ?_, ?_, by rw [upd_same, List.map_append]; rfl, List.cons_ne_nil _ _, by rw [List.length_cons]; omega, by rw [List.length_append, hfl]; rfl, ?_⟩
        · exact fun b o e => by rw [upd_ne (npf b o e)]; exact sm2 _ _ e
        · rw [upd_ne hpaf]; exact hpa2
        · rw [hlb, Option.map_map]
          congr 1
          funext l
          show fnd ++ ((i : Int) :: l) = fnd ++ [(i : Int)] ++ l
          rw [List.append_assoc]
          rfl
      · rw [decide_eq_false (show ¬ V.str x.nm = V.str "loop" from fun e => c1 (V.str.inj e))]
        refine iteF ⟨_, rfl, px, _, 0, _, rfl, rfl, SqT.of hpx, i0, rfl, _, rfl, ?_⟩
        by_cases c2 : x.nm = "end"
        · rw [decide_eq_true (show V.str x.nm = V.str "end" by rw [c2])]
          have hlb : lbF xs 0 [-1] = (lbE (xs.drop (i + 1)) (i + 1) st').map (fnd ++ ·) := by
            rw [hlb, lbF_end c1 c2]
          have hpop : (stk (t :: st'))[(stk (t :: st')).length - 1]? = some (.int t) := by
            rw [stk_cons, List.length_append, List.length_singleton, Nat.add_sub_cancel, List.getElem?_append_right (Nat.le_refl _), Nat.sub_self]
            rfl
          have hdl : (stk (t :: st')).dropLast = stk st' := by rw [stk_cons]; exact List.dropLast_concat
          refine iteT ⟨_, rfl, .inl ⟨rfl, _, SqL.of hpaT⟩, pa, _, _, rfl, rfl, hpaT, hpop, ?_⟩
          rw [hdl]
          have hpx2 := tup_nl hpx (nl_upd (o := .lst (stk st')) hpaT)
          have hpf2 : (upd H3 pa (.lst (stk st'))) pf = some (.lst (fnd.map V.int)) := by rw [upd_ne (Ne.symm hpaf)]; exact hpfT
          have hpa2 : (upd H3 pa (.lst (stk st'))) pa = some (.lst (stk st')) := upd_same
          have sm2 : Same H (upd H3 pa (.lst (stk st'))) := fun b o e => by rw [upd_ne (npa b o e)]; exact smT _ _ e
          generalize upd H3 pa (.lst (stk st')) = H4 at hpx2 hpf2 hpa2 sm2
          refine ⟨_, rfl, pa, _, rfl, .inl (SqL.of hpa2), rfl, _, rfl, ?_⟩
          rw [stk_len]
          cases st' with
          | nil =>
            rw [decide_eq_true (show V.int (([] : List Int).length : Nat) = V.int 0 from rfl)]
            exact iteT ((q _ sm2).1 hlb).2.2
          | cons u st'' =>
            rw [decide_eq_false (show ¬ V.int (((u :: st'').length : Nat) : Int) = V.int 0 from fun e => by have := V.int.inj e; rw [List.length_cons] at this; omega)]
            refine iteF ⟨_, rfl, .inl ⟨rfl, _, SqL.of hpf2⟩, _, rfl, _, rfl, pa, _, _, _, rfl, rfl, SqL.of hpa2, by rw [stk_cons]; exact atI_last _ _, pf, _, _, rfl, rfl, hpf2, by rw [List.length_map, hfl]; exact Nat.lt_of_le_of_lt (Nat.le_of_lt hi) (by rw [hwl, sizeLine_eq]; omega), ?_⟩
            refine ⟨_, _, u :: st'', fnd ++ [u], rfl, ?_, ?_, by rw [upd_same, List.map_append]; rfl, List.cons_ne_nil _ _, by rw [List.length_cons, List.length_cons] at hsl; rw [List.length_cons]; omega, by rw [List.length_append, hfl]; rfl, ?_⟩
            · exact fun b o e => by rw [upd_ne (npf b o e)]; exact sm2 _ _ e
            · rw [upd_ne hpaf]; exact hpa2
            · rw [hlb]
              show ((lbF (xs.drop (i + 1)) (i + 1) (u :: st'')).map (u :: ·)).map (fnd ++ ·) = _
              rw [Option.map_map]
              congr 1
              funext l
              show fnd ++ (u :: l) = fnd ++ [u] ++ l
              rw [List.append_assoc]
              rfl
        · rw [decide_eq_false (show ¬ V.str x.nm = V.str "end" from fun e => c2 (V.str.inj e))]
          have hlb : lbF xs 0 [-1] = ((lbF (xs.drop (i + 1)) (i + 1) (t :: st')).map (t :: ·)).map (fnd ++ ·) := by
            rw [hlb, lbF_oth c1 c2]
          refine iteF ⟨_, rfl, .inl ⟨rfl, _, SqL.of hpfT⟩, _, rfl, _, rfl, pa, _, _, _, rfl, rfl, SqL.of hpaT, by rw [stk_cons]; exact atI_last _ _, pf, _, _, rfl, rfl, hpfT, by rw [List.length_map, hfl]; exact Nat.lt_of_le_of_lt (Nat.le_of_lt hi) (by rw [hwl, sizeLine_eq]; omega), ?_⟩
          refine ⟨_, _, t :: st', fnd ++ [t], rfl, ?_, ?_, by rw [upd_same, List.map_append]; rfl, List.cons_ne_nil _ _, by omega, by rw [List.length_append, hfl]; rfl, ?_⟩
          · exact fun b o e => by rw [upd_ne (npf b o e)]; exact smT _ _ e
          · rw [upd_ne hpaf]; exact hpaT
          · rw [hlb, Option.map_map]
            congr 1
            funext l
            show fnd ++ (t :: l) = fnd ++ [t] ++ l
            rw [List.append_assoc]
            rfl
    · rintro σ H1 ⟨v3, v4, st, fnd, rfl, sm, hpa, hpf, hst, hsl, hfl, hlb⟩
      rw [hwl, List.drop_length] at hlb
      have hlb : lbF xs 0 [-1] = (if 1 < st.length then none else some []).map (fnd ++ ·) := hlb
      refine ⟨_, rfl, pa, _, rfl, .inl (SqL.of hpa), _, _, rfl, rfl, _, rfl, ?_⟩
      rw [stk_len]
      by_cases c : 1 < st.length
      · rw [decide_eq_true (show (1 : Int) < ((st.length : Nat) : Int) by omega)]
        rw [if_pos c] at hlb
        exact iteT ((q _ sm).1 hlb).2.2
      · rw [decide_eq_false (show ¬ (1 : Int) < ((st.length : Nat) : Int) by omega)]
        rw [if_neg c] at hlb
        refine iteF ⟨_, rfl, (q _ sm).2 fnd ?_ pf hpf⟩
        rw [hlb]
        show some (fnd ++ []) = _
        rw [List.append_nil]
end

theorem in_skip {x : Ins} (h : InOk x) (e : x.nm = "skip") : ∃ a b, x.fs = [.int a, .int b] := by
  have ht := h.ty
  rw [e, show fldN "skip" = (["slot", "skipped"] : List Str) by decide +kernel] at ht
  obtain ⟨d, r, e1, k1, t1⟩ := ht.unc
  obtain ⟨d2, r2, e2, k2, t2⟩ := t1.unc
  have e3 := t2.unn
  have n1 : ("slot" : Str) ≠ "kind" ∧ ("slot" : Str) ≠ "sources" ∧ ("slot" : Str) ≠ "info" := by decide +kernel
  have n2 : ("skipped" : Str) ≠ "kind" ∧ ("skipped" : Str) ≠ "sources" ∧ ("skipped" : Str) ≠ "info" := by decide +kernel
  have key : ∀ {f : Str} {v : Fv}, (f ≠ "kind" ∧ f ≠ "sources" ∧ f ≠ "info") → v.knd f → ∃ n, v = .int n := fun {f v} hn hk => by
    cases v with
    | int n => exact ⟨n, rfl⟩
    | str s => exact absurd hk hn.1
    | tup ns => exact hk.elim (fun h => absurd h hn.2.1) fun h => absurd h hn.2.2
  obtain ⟨a, rfl⟩ := key n1 k1
  obtain ⟨b, rfl⟩ := key n2 k2
  exact ⟨a, b, by rw [e1, e2, e3]⟩
theorem in_loop {x : Ins} (h : InOk x) (e : x.nm = "loop") : ∃ a b c d, x.fs = [.int a, .int b, .int c, .int d] := by
  have ht := h.ty
  rw [e, show fldN "loop" = (["slot", "begin", "begin", "turns"] : List Str) by decide +kernel] at ht
  obtain ⟨d, r, e1, k1, t1⟩ := ht.unc
  obtain ⟨d2, r2, e2, k2, t2⟩ := t1.unc
  obtain ⟨d3, r3, e3, k3, t3⟩ := t2.unc
  obtain ⟨d4, r4, e4, k4, t4⟩ := t3.unc
  have e5 := t4.unn
  have n1 : ("slot" : Str) ≠ "kind" ∧ ("slot" : Str) ≠ "sources" ∧ ("slot" : Str) ≠ "info" := by decide +kernel
  have n2 : ("begin" : Str) ≠ "kind" ∧ ("begin" : Str) ≠ "sources" ∧ ("begin" : Str) ≠ "info" := by decide +kernel
  have n3 : ("turns" : Str) ≠ "kind" ∧ ("turns" : Str) ≠ "sources" ∧ ("turns" : Str) ≠ "info" := by decide +kernel
  have key : ∀ {f : Str} {v : Fv}, (f ≠ "kind" ∧ f ≠ "sources" ∧ f ≠ "info") → v.knd f → ∃ n, v = .int n := fun {f v} hn hk => by
    cases v with
    | int n => exact ⟨n, rfl⟩
    | str s => exact absurd hk hn.1
    | tup ns => exact hk.elim (fun h => absurd h hn.2.1) fun h => absurd h hn.2.2
  obtain ⟨a, rfl⟩ := key n1 k1
  obtain ⟨b, rfl⟩ := key n2 k2
  obtain ⟨c, rfl⟩ := key n2 k3
  obtain ⟨d, rfl⟩ := key n3 k4
  exact ⟨a, b, c, d, by rw [e1, e2, e3, e4, e5]⟩
section
variable {P : Program} {w : World} {K : PySem.W.Frag} {mg : Str → Option Value} {base : Heap}
/-! ### _check_skips -/
def spCS (K : PySem.W.Frag) (C : Nat → Addr) : Sp := fun vs H Q E => ∃ (p l : Addr) (xs : List Ins) (bh : List Int), vs = [.ref p, .ref l] ∧ CodeAt K H p xs ∧ (∀ x ∈ xs, InOk x) ∧ H l = some (.lst (bh.map V.int)) ∧ bh.length = xs.length ∧
  ∀ H', Same H H' → (okSk xs bh → Q .non H') ∧ (¬ okSk xs bh → Bad C E H')
abbrev nCS : List Str := ["code", "behind", "at", "instruction", "last"]
theorem scCS : FnScope nCS ["code", "behind"] (defScope s_check_skips) := ⟨rfl, rfl, rfl, by decide +kernel, rfl, by decide +kernel, by decide +kernel⟩
theorem ok_cs {f : Addr} {C : Nat → Addr} {fd : FuncData} (F : Fun K "_check_skips" "_check_skips" s_check_skips f fd) (T : TxtT mg) (R6 : ErrR K mg "FormError" (C 6)) : FnOk P w K mg base (L2.CX P w) 1 f fd ["code", "behind"] (spCS K C) := by
  refine F.okX scCS (fun vs H Q E h => ?_) (fun cdv A outer s H vs Q E hr h => ?_)
  · obtain ⟨_, _, _, _, rfl, _⟩ := h
    rfl
  · obtain ⟨p, l, xs, bh, rfl, ⟨ws, hp, hI⟩, hok, hl, hbl, q⟩ := h
    refine ⟨_, (pss_one (ps_for (passes_of rfl) rfl (pi_enumT (by rfl) T.enumerate (pa_cons (pv 0) pa_nil)) (pg_tup rfl (pgs_cons (pg_name (i := 2) scCS.nd rfl (.inl rfl)) (pgs_cons (pg_name (i := 3) scCS.nd rfl (.inl rfl)) pgs_nil))) (pss_one (ps_if (PW.pt (pw_and (pt_cmpR op_eq (pe_ix ix_tup (pv 3) pe_int (fun _ _ => rfl)) pe_str (nomark _)) (pw_and1 (pt_cmpR op_gt (pe_ix ix_tup (pv 3) pe_int (fun _ _ => rfl)) pe_int (nomark _))))) (pss_cons (ps_set (i := 4) scCS.nd rfl (.inl rfl) (pe_op op_add (pv 2) (pe_ix ix_tup (pv 3) pe_int (fun _ _ => rfl))))
      (pss_cons (ps_if (pt_cmpR op_ge (pv 4) (pe_callB call_len_seq (by rfl) T.len PySem.boot_len (pa_cons (pv 0) pa_nil)) (nomark _)) (pss_one (ps_raise rfl (takes_of rfl rfl rfl rfl) (pmk_own PySem.F.excBase_ValueError R6.x R6.g R6.k (raises_own R6.b R6.t) rfl))) pss_nil)
      (pss_one (ps_if (pt_cmpR op_ne (pe_ix ix_list (pv 1) (pv 4) (fun _ _ => rfl)) (pe_ix ix_list (pv 1) (pv 2) (fun _ _ => rfl)) (nomark _)) (pss_one (ps_raise rfl (takes_of rfl rfl rfl rfl) (pmk_own PySem.F.excBase_ValueError R6.x R6.g R6.k (raises_own R6.b R6.t) rfl))) pss_nil)))) pss_nil)))), ?_⟩
    have hwl : ws.length = xs.length := hI.1
    refine ⟨_, rfl, p, ws, rfl, hp, for_it (walk_enumT (K := K) (a := p) (xs := ws)) (fun i σ H' => ∃ (v2 v3 v4 : Option V), σ = [some (.ref p), some (.ref l), v2, v3, v4] ∧ Same H H' ∧ ∀ (a : Nat) (x : Ins), a < i → xs[a]? = some x → x.nm = "skip" → 0 < iAt x 1 → (a : Int) + iAt x 1 < xs.length ∧ bh[a + (iAt x 1).toNat]? = bh[a]?)
      ⟨_, _, _, rfl, Same.refl _, fun a x h => absurd h (Nat.not_lt_zero _)⟩ (fun i σ H' _ ⟨_, _, _, _, sm, _⟩ => sqT_same hp sm) ?_ ?_⟩
    · rintro i v σ H1 H2 hi ⟨v2, v3, v4, rfl, sm, hsk⟩ ⟨T', x', y', rfl, nT, rfl, e1, e2⟩
      dsimp only at e1 e2
      cases e1
      obtain ⟨x, hx⟩ : ∃ x, xs[i]? = some x := ⟨_, List.getElem?_eq_getElem (by omega)⟩
      have sT := same_upd (o := .tup [V.int (i : Nat), y']) nT
      obtain ⟨px, vx, rfl, hpx, hfx⟩ := (hI.2 i y' x e2 hx).same (sm.trans sT)
      have smT := sm.trans sT
      refine ⟨T', _, rfl, SqT.of upd_same, rfl, _, _, rfl, _, _, rfl, rfl, ?_⟩
      generalize upd H1 T' (.tup [.int (i : Nat), .ref px]) = H3 at hpx hfx smT
      have go : (x.nm = "skip" → 0 < iAt x 1 → (i : Int) + iAt x 1 < xs.length ∧ bh[i + (iAt x 1).toNat]? = bh[i]?) → ∀ (a : Nat) (y : Ins), a < i + 1 → xs[a]? = some y → y.nm = "skip" → 0 < iAt y 1 → (a : Int) + iAt y 1 < xs.length ∧ bh[a + (iAt y 1).toNat]? = bh[a]? := fun h a y ha hy => by
        by_cases e : a = i
        · subst e
          rw [hx] at hy
          cases hy
          exact h
        · exact hsk a y (by omega) hy
      refine ⟨_, rfl, px, _, 0, _, rfl, rfl, SqT.of hpx, i0, rfl, _, rfl, ?_⟩
      by_cases c1 : x.nm = "skip"
      case neg =>
        rw [decide_eq_false (show ¬ V.str x.nm = V.str "skip" from fun e => c1 (V.str.inj e))]
        exact iteF (iteF ⟨_, _, _, rfl, smT, go fun h => absurd h c1⟩)
      rw [decide_eq_true (show V.str x.nm = V.str "skip" by rw [c1])]
      obtain ⟨fa, fb, hfs⟩ := in_skip (hok x (List.mem_of_getElem? hx)) c1
      rw [hfs] at hfx
      obtain ⟨u1, r1, rfl, k1, hf1⟩ := hfx.unc
      obtain ⟨u2, r2, rfl, k2, hf2⟩ := hf1.unc
      have k2 : u2 = .int fb := k2
      have hib : iAt x 1 = fb := by unfold iAt; rw [hfs]; rfl
      subst k2
      rw [hib] at go
      refine iteT ⟨_, rfl, px, _, 2, _, rfl, rfl, SqT.of hpx, i2, _, _, rfl, rfl, _, rfl, ?_⟩
      by_cases c2 : 0 < fb
      case neg =>
        rw [decide_eq_false c2]
        exact iteF ⟨_, _, _, rfl, smT, go fun _ h => absurd h c2⟩
      rw [decide_eq_true c2]
      have bad : ¬ ((i : Int) + fb < xs.length ∧ bh[i + fb.toNat]? = bh[i]?) → Bad C E H3 := fun hb => (q _ smT).2 fun hk => hb (by
        have := hk i x hx c1 (by rw [hib]; exact c2)
        rw [hib] at this
        exact this)
      refine iteT ⟨_, rfl, _, rfl, px, _, 2, _, rfl, rfl, SqT.of hpx, i2, _, _, rfl, rfl, ?_⟩
      refine ⟨_, rfl, _, rfl, p, _, rfl, .inr (sqT_same hp smT), _, _, rfl, rfl, _, rfl, ?_⟩
      rw [hwl]
      by_cases c3 : (i : Int) + fb < xs.length
      case neg =>
        rw [decide_eq_true (show ((xs.length : Nat) : Int) ≤ (i : Nat) + fb by omega)]
        exact iteT (bad fun h => c3 h.1).2.2
      rw [decide_eq_false (show ¬ ((xs.length : Nat) : Int) ≤ (i : Nat) + fb by omega)]
      obtain ⟨b1, hb1⟩ : ∃ b1, bh[i + fb.toNat]? = some b1 := ⟨_, List.getElem?_eq_getElem (by omega)⟩
      obtain ⟨b2, hb2⟩ : ∃ b2, bh[i]? = some b2 := ⟨_, List.getElem?_eq_getElem (by omega)⟩
      have hl3 := smT _ _ hl
      have hij : ((i : Nat) : Int) + fb = ((i + fb.toNat : Nat) : Int) := by omega
      have hat1 : atI (bh.map V.int) ((i : Nat) + fb) = some (.int b1) := by
        rw [hij]
        exact atI_nat (j := i + fb.toNat) (by rw [List.getElem?_map, hb1]; rfl)
      refine iteF ⟨_, rfl, _, rfl, l, _, _, _, rfl, rfl, SqL.of hl3, hat1, _, rfl, _, rfl, l, _, _, _, rfl, rfl, SqL.of hl3, atI_nat (j := i) (by rw [List.getElem?_map, hb2]; rfl), rfl, _, rfl, ?_⟩
      by_cases c4 : b1 = b2
      · rw [decide_eq_true (show V.int b1 = V.int b2 by rw [c4])]
        exact iteF ⟨_, _, _, rfl, smT, go fun _ _ => ⟨c3, by rw [hb1, hb2, c4]⟩⟩
      · rw [decide_eq_false (show ¬ V.int b1 = V.int b2 from fun e => c4 (V.int.inj e))]
        refine iteT (bad fun h => c4 ?_).2.2
        rw [hb1, hb2] at h
        exact Option.some.inj h.2
    · rintro σ H1 ⟨v2, v3, v4, rfl, sm, hsk⟩
      refine (q _ sm).1 fun a x hx => hsk a x ?_ hx
      rw [hwl]
      exact (List.getElem?_eq_some_iff.mp hx).1
/-! ### _check_loops -/
def spCL (K : PySem.W.Frag) (C : Nat → Addr) : Sp := fun vs H Q E => ∃ (p : Addr) (xs : List Ins) (bh : List Int), vs = [.ref p] ∧ CodeAt K H p xs ∧ (∀ x ∈ xs, InOk x) ∧ (∀ x ∈ xs, x.nm = "loop" → 1 ≤ iAt x 3 ∧ iAt x 3 ≤ 1000) ∧ lbF xs 0 [-1] = some bh ∧ xs.length ≤ 2000000 ∧
  ∀ H', Same H H' → ((∃ s, lpF xs [] [0] = some s ∧ s ≤ 1000000000) → Q .non H') ∧ (¬ (∃ s, lpF xs [] [0] = some s ∧ s ≤ 1000000000) → Bad C E H')
theorem lpF_end {x : Ins} {r : List Ins} {c : Int} {cs : List Int} {t u : Int} {ss : List Int} (h : x.nm = "end") : lpF (x :: r) (c :: cs) (t :: u :: ss) = lpF r cs ((u + 1 + c * (t + 1)) :: ss) := by
  conv => lhs; unfold lpF
  rw [if_pos h]
theorem lpF_loop {x : Ins} {r : List Ins} {cs ss : List Int} (h : x.nm ≠ "end") (k : x.nm = "loop") : lpF (x :: r) cs ss = if 16 < cs.length then none else lpF r (iAt x 3 :: cs) (0 :: ss) := by
  conv => lhs; unfold lpF
  rw [if_neg h, if_pos k]
theorem lpF_oth {x : Ins} {r : List Ins} {cs : List Int} {t : Int} {ss : List Int} (h : x.nm ≠ "end") (k : x.nm ≠ "loop") : lpF (x :: r) cs (t :: ss) = if 16 < cs.length then none else lpF r cs ((t + 1) :: ss) := by
  conv => lhs; unfold lpF
  rw [if_neg h, if_neg k]
abbrev nCL : List Str := ["code", "counts", "steps", "instruction", "turn"]
theorem scCL : FnScope nCL ["code"] (defScope s_check_loops) := ⟨rfl, rfl, rfl, by decide +kernel, rfl, by decide +kernel, by decide +kernel⟩
theorem ok_cl {f : Addr} {C : Nat → Addr} {fd : FuncData} (F : Fun K "_check_loops" "_check_loops" s_check_loops f fd) (T : TxtT mg) (R4 : ErrR K mg "TooLarge" (C 4)) (l1 : ∃ u, mg "_DEPTH_LIMIT" = some u ∧ RelV (.int 16) u) (l2 : ∃ u, mg "_STEP_LIMIT" = some u ∧ RelV (.int 1000000000) u) : FnOk P w K mg base (L2.CX P w) 1 f fd ["code"] (spCL K C) := by
  obtain ⟨uDp, gDp, rDp⟩ := l1
  obtain ⟨uSt, gSt, rSt⟩ := l2
  refine F.okX scCL (fun vs H Q E h => ?_) (fun cdv A outer s H vs Q E hr h => ?_)
  · obtain ⟨_, _, _, rfl, _⟩ := h
    rfl
  · obtain ⟨p, xs, bh, rfl, ⟨ws, hp, hI⟩, hok, htu, hlb, hxl, q⟩ := h
    refine ⟨_, (pss_cons (ps_set (i := 1) scCL.nd rfl (.inl rfl) (pe_lst pa_nil))
      (pss_cons (ps_set (i := 2) scCL.nd rfl (.inl rfl) (pe_lst (pa_cons pe_int pa_nil)))
      (pss_cons (ps_for (passes_of rfl) rfl (pi_tup (pv 0)) (pg_name (i := 3) scCL.nd rfl (.inl rfl)) (pss_one (ps_if (pt_cmpR op_eq (pe_ix ix_tup (pv 3) pe_int (fun _ _ => rfl)) pe_str (nomark _)) (pss_cons (ps_set (i := 4) scCL.nd rfl (.inl rfl) (pe_op op_add (pe_bm0 PySem.F.plainAttrs_list PySem.F.slot_list_pop PySem.F.type_list_pop mt_pop (pv 2)) pe_int))
      (pss_one (ps_asg (pe_op op_add (pe_op op_add (pe_ix ix_list (pv 2) (pe_un un_neg pe_int) (fun _ _ => rfl)) pe_int) (pe_op op_mul (pe_bm0 PySem.F.plainAttrs_list PySem.F.slot_list_pop PySem.F.type_list_pop mt_pop (pv 1)) (pv 4))) (pg_sub (pv 2) (pe_un un_neg pe_int) set_list)))) (pss_cons (ps_if (pt_cmpR op_gt (pe_callB call_len_seq (by rfl) T.len PySem.boot_len (pa_cons (pv 1) pa_nil)) (pe_glob (v := (.int 16)) (by rfl) gDp rDp) (nomark _)) (pss_one (ps_raise rfl (takes_of rfl rfl rfl rfl) (pmk_own PySem.F.excBase_ValueError R4.x R4.g R4.k (raises_own R4.b R4.t) rfl))) pss_nil)
      (pss_one (ps_if (pt_cmpR op_eq (pe_ix ix_tup (pv 3) pe_int (fun _ _ => rfl)) pe_str (nomark _)) (pss_cons (ps_expr (pe_bm PySem.F.plainAttrs_list PySem.F.slot_list_append PySem.F.type_list_append mt_append (pv 1) (pa_cons (pe_ix ix_tup (pv 3) pe_int (fun _ _ => rfl)) pa_nil)))
      (pss_one (ps_expr (pe_bm PySem.F.plainAttrs_list PySem.F.slot_list_append PySem.F.type_list_append mt_append (pv 2) (pa_cons pe_int pa_nil))))) (pss_one (ps_asg (pe_op op_add (pe_ix ix_list (pv 2) (pe_un un_neg pe_int) (fun _ _ => rfl)) pe_int) (pg_sub (pv 2) (pe_un un_neg pe_int) set_list)))))))))
      (pss_one (ps_if (pt_cmpR op_gt (pe_ix ix_list (pv 2) pe_int (fun _ _ => rfl)) (pe_glob (v := (.int 1000000000)) (by rfl) gSt rSt) (nomark _)) (pss_one (ps_raise rfl (takes_of rfl rfl rfl rfl) (pmk_own PySem.F.excBase_ValueError R4.x R4.g R4.k (raises_own R4.b R4.t) rfl))) pss_nil))))), ?_⟩
    have hwl : ws.length = xs.length := hI.1
    refine ⟨Nat.zero_le _, fun pc nc => ?_⟩
    have s1 := same_upd (o := .lst []) nc
    refine ⟨by show 1 ≤ sizeLine; decide, fun ps ns => ?_⟩
    have s2 := same_upd (o := .lst [V.int 0]) ns
    have hpcs : pc ≠ ps := fun e => by rw [← e, upd_same] at ns; cases ns
    have s12 := s1.trans s2
    have hpc0 : (upd (upd H pc (.lst [])) ps (.lst [V.int 0])) pc = some (.lst (stk [])) := s2 _ _ upd_same
    have hps0 : (upd (upd H pc (.lst [])) ps (.lst [V.int 0])) ps = some (.lst (stk [0])) := upd_same
    generalize upd (upd H pc (.lst [])) ps (.lst [V.int 0]) = H0 at s12 hpc0 hps0
    have npc : ∀ b o, H b = some o → b ≠ pc := fun b o e => ne_of_none e nc
    have nps : ∀ b o, H b = some o → b ≠ ps := fun b o e => ne_of_none (s1 _ _ e) ns
    refine ⟨_, rfl, p, rfl, ⟨_, sqT_same hp s12⟩, for_tup (K := K) (a := p) (xs := ws) (fun i σ H' => ∃ (v3 v4 : Option V) (cs ss st : List Int), σ = [some (.ref p), some (.ref pc), some (.ref ps), v3, v4] ∧ Same H H' ∧ H' pc = some (.lst (stk cs)) ∧ H' ps = some (.lst (stk ss)) ∧ ss.length = cs.length + 1 ∧ cs.length ≤ i ∧ (∀ c ∈ cs, 1 ≤ c ∧ c ≤ 1000) ∧ (lbF (xs.drop i) i st).isSome = true ∧ st.length = ss.length ∧ lpF xs [] [0] = lpF (xs.drop i) cs ss)
      ⟨_, _, [], [0], [-1], rfl, s12, hpc0, hps0, rfl, Nat.zero_le _, fun _ h => (nomatch h), by rw [List.drop_zero, hlb]; rfl, rfl, rfl⟩ (fun i σ H' _ ⟨_, _, _, _, _, _, sm, _⟩ => sqT_same hp sm) ?_ ?_⟩
    · rintro i v σ H3 hi ⟨v3, v4, cs, ss, st, rfl, sm, hpc, hps, hsl, hcl, hcb, hst, hstl, hlp⟩
      obtain ⟨x, hx⟩ : ∃ x, xs[i]? = some x := ⟨_, List.getElem?_eq_getElem (by have := (List.getElem?_eq_some_iff.mp hi).1; omega)⟩
      have hil : i < xs.length := (List.getElem?_eq_some_iff.mp hx).1
      obtain ⟨px, vx, rfl, hpx, hfx⟩ := (hI.2 i v x hi hx).same sm
      rw [drop_at hx] at hst hlp
      obtain ⟨t, ss', rfl⟩ : ∃ t ss', ss = t :: ss' := by
        cases ss with
        | nil => cases hsl
        | cons a b => exact ⟨a, b, rfl⟩
      obtain ⟨b0, st', rfl⟩ : ∃ b0 st', st = b0 :: st' := by
        cases st with
        | nil => cases hstl
        | cons a b => exact ⟨a, b, rfl⟩
      rw [List.length_cons] at hsl
      rw [List.length_cons, List.length_cons] at hstl
      have hpopS : (stk (t :: ss'))[(stk (t :: ss')).length - 1]? = some (.int t) := by
        rw [stk_cons, List.length_append, List.length_singleton, Nat.add_sub_cancel, List.getElem?_append_right (Nat.le_refl _), Nat.sub_self]
        rfl
      have hdlS : (stk (t :: ss')).dropLast = stk ss' := by rw [stk_cons]; exact List.dropLast_concat
      have set1 : ∀ (l : List Int) (u v : Int), (stk l ++ [V.int u]).set l.length (.int v) = stk (v :: l) := fun l u v => by
        rw [stk_cons, List.set_append, if_neg (by rw [stk_len]; omega), stk_len, Nat.sub_self]
        rfl
      have nle : ("loop" : Str) ≠ "end" := by decide +kernel
      refine ⟨_, rfl, px, _, 0, _, rfl, rfl, SqT.of hpx, i0, rfl, _, rfl, ?_⟩
      by_cases c1 : x.nm = "end"
      · rw [decide_eq_true (show V.str x.nm = V.str "end" by rw [c1])]
        have n1 : x.nm ≠ "loop" := fun e => nle (by rw [← e, c1])
        rw [lbF_end n1 c1] at hst
        obtain ⟨b1, st'', rfl⟩ : ∃ b1 st'', st' = b1 :: st'' := by
          cases st' with
          | nil => cases hst
          | cons a b => exact ⟨a, b, rfl⟩
        rw [List.length_cons] at hstl
        obtain ⟨u, ss'', rfl⟩ : ∃ u ss'', ss' = u :: ss'' := by
          cases ss' with
          | nil => rw [List.length_nil] at hstl; omega
          | cons a b => exact ⟨a, b, rfl⟩
        obtain ⟨cc, cs', rfl⟩ : ∃ cc cs', cs = cc :: cs' := by
          cases cs with
          | nil => rw [List.length_cons, List.length_nil] at hsl; omega
          | cons a b => exact ⟨a, b, rfl⟩
        rw [List.length_cons] at hstl hsl hcl
        rw [List.length_cons] at hsl
        have hcc := hcb cc List.mem_cons_self
        have hpopC : (stk (cc :: cs'))[(stk (cc :: cs')).length - 1]? = some (.int cc) := by
          rw [stk_cons, List.length_append, List.length_singleton, Nat.add_sub_cancel, List.getElem?_append_right (Nat.le_refl _), Nat.sub_self]
          rfl
        have hdlC : (stk (cc :: cs')).dropLast = stk cs' := by rw [stk_cons]; exact List.dropLast_concat
        rw [lpF_end c1] at hlp
        refine iteT ⟨_, rfl, .inl ⟨rfl, _, SqL.of hps⟩, ps, _, _, rfl, rfl, hps, hpopS, _, _, rfl, rfl, ?_⟩
        rw [hdlS]
        have hps1 : (upd H3 ps (.lst (stk (u :: ss'')))) ps = some (.lst (stk (u :: ss''))) := upd_same
        have hpc1 : (upd H3 ps (.lst (stk (u :: ss'')))) pc = some (.lst (stk (cc :: cs'))) := by rw [upd_ne hpcs]; exact hpc
        have sm1 : Same H (upd H3 ps (.lst (stk (u :: ss'')))) := fun b o e => by rw [upd_ne (nps b o e)]; exact sm _ _ e
        generalize upd H3 ps (.lst (stk (u :: ss''))) = H4 at hps1 hpc1 sm1
        refine ⟨_, rfl, _, rfl, ps, _, _, _, rfl, rfl, SqL.of hps1, by rw [stk_cons]; exact atI_last _ _, _, _, rfl, rfl, _, rfl, .inl ⟨rfl, _, SqL.of hpc1⟩, pc, _, _, rfl, rfl, hpc1, hpopC, _, rfl, _, _, rfl, rfl, .inl ⟨by omega, by omega⟩, _, _, rfl, rfl, ?_⟩
        rw [hdlC]
        have hps2 : (upd H4 pc (.lst (stk cs'))) ps = some (.lst (stk (u :: ss''))) := by rw [upd_ne (Ne.symm hpcs)]; exact hps1
        have hpc2 : (upd H4 pc (.lst (stk cs'))) pc = some (.lst (stk cs')) := upd_same
        have sm2 : Same H (upd H4 pc (.lst (stk cs'))) := fun b o e => by rw [upd_ne (npc b o e)]; exact sm1 _ _ e
        generalize upd H4 pc (.lst (stk cs')) = H5 at hps2 hpc2 sm2
        refine ⟨_, rfl, _, rfl, ps, _, _, _, rfl, rfl, hps2, by rw [stk_cons, List.length_append]; exact ixN_last _, ?_⟩
        refine ⟨_, _, cs', (u + 1 + cc * (t + 1)) :: ss'', b1 :: st'', rfl, fun b o e => by rw [upd_ne (nps b o e)]; exact sm2 _ _ e, by rw [upd_ne hpcs]; exact hpc2, ?_, by rw [List.length_cons]; omega, by omega, fun c hc => hcb c (List.mem_cons_of_mem _ hc), ?_, by rw [List.length_cons, List.length_cons]; omega, hlp⟩
        · rw [upd_same, stk_cons u, stk_len, set1]
        · have hst : ((lbF (xs.drop (i + 1)) (i + 1) (b1 :: st'')).map (b1 :: ·)).isSome = true := hst
          rw [Option.isSome_map] at hst
          exact hst
      · rw [decide_eq_false (show ¬ V.str x.nm = V.str "end" from fun e => c1 (V.str.inj e))]
        refine iteF ⟨_, rfl, pc, _, rfl, .inl (SqL.of hpc), _, _, rfl, rfl, _, rfl, ?_⟩
        rw [stk_len]
        have bad : lpF xs [] [0] = none → Bad C E H3 := fun h => (q _ sm).2 fun ⟨s', h1, _⟩ => by rw [h] at h1; cases h1
        by_cases c2 : 16 < cs.length
        · rw [decide_eq_true (show (16 : Int) < ((cs.length : Nat) : Int) by omega)]
          refine iteT (bad ?_).2.1
          rw [hlp]
          by_cases c3 : x.nm = "loop"
          · rw [lpF_loop c1 c3, if_pos c2]
          · rw [lpF_oth c1 c3, if_pos c2]
        rw [decide_eq_false (show ¬ (16 : Int) < ((cs.length : Nat) : Int) by omega)]
        refine iteF ⟨_, rfl, px, _, 0, _, rfl, rfl, SqT.of hpx, i0, rfl, _, rfl, ?_⟩
        by_cases c3 : x.nm = "loop"
        · rw [decide_eq_true (show V.str x.nm = V.str "loop" by rw [c3])]
          rw [lpF_loop c1 c3, if_neg c2] at hlp
          rw [lbF_loop c3] at hst
          obtain ⟨fa, fb, fc, fd', hfs⟩ := in_loop (hok x (List.mem_of_getElem? hx)) c3
          rw [hfs] at hfx
          obtain ⟨u1, r1, rfl, k1, hf1⟩ := hfx.unc
          obtain ⟨u2, r2, rfl, k2, hf2⟩ := hf1.unc
          obtain ⟨u3, r3, rfl, k3, hf3⟩ := hf2.unc
          obtain ⟨u4, r4, rfl, k4, hf4⟩ := hf3.unc
          have k4 : u4 = .int fd' := k4
          have hib : iAt x 3 = fd' := by unfold iAt; rw [hfs]; rfl
          subst k4
          have htu := htu x (List.mem_of_getElem? hx) c3
          rw [hib] at htu hlp
          refine iteT ⟨_, rfl, .inl ⟨rfl, _, SqL.of hpc⟩, _, rfl, px, _, 4, _, rfl, rfl, SqT.of hpx, atI_nat (j := 4) rfl, pc, _, _, rfl, rfl, hpc, by rw [stk_len]; exact Nat.lt_of_le_of_lt hcl (by rw [sizeLine_eq]; omega), ?_⟩
          have hpc1 : (upd H3 pc (.lst (stk cs ++ [V.int fd']))) pc = some (.lst (stk (fd' :: cs))) := by rw [upd_same, stk_cons]
          have hps1 : (upd H3 pc (.lst (stk cs ++ [V.int fd']))) ps = some (.lst (stk (t :: ss'))) := by rw [upd_ne (Ne.symm hpcs)]; exact hps
          have sm1 : Same H (upd H3 pc (.lst (stk cs ++ [V.int fd']))) := fun b o e => by rw [upd_ne (npc b o e)]; exact sm _ _ e
          generalize upd H3 pc (.lst (stk cs ++ [V.int fd'])) = H4 at hpc1 hps1 sm1
          refine ⟨_, rfl, .inl ⟨rfl, _, SqL.of hps1⟩, ps, _, _, rfl, rfl, hps1, by rw [stk_len, List.length_cons]; exact Nat.lt_of_le_of_lt (show ss'.length + 1 ≤ i + 1 by omega) (by rw [sizeLine_eq]; omega), ?_⟩
          refine ⟨_, _, fd' :: cs, 0 :: t :: ss', (i : Int) :: b0 :: st', rfl, fun b o e => by rw [upd_ne (nps b o e)]; exact sm1 _ _ e, by rw [upd_ne hpcs]; exact hpc1, by rw [upd_same, stk_cons 0], by rw [List.length_cons, List.length_cons, List.length_cons]; omega, by rw [List.length_cons]; omega, fun c hc => ?_, ?_, by rw [List.length_cons, List.length_cons, List.length_cons, List.length_cons]; omega, hlp⟩
          · rcases List.mem_cons.mp hc with rfl | hc
            · exact htu
            · exact hcb c hc
          · rw [Option.isSome_map] at hst
            exact hst
        · rw [decide_eq_false (show ¬ V.str x.nm = V.str "loop" from fun e => c3 (V.str.inj e))]
          rw [lpF_oth c1 c3, if_neg c2] at hlp
          rw [lbF_oth c3 c1, Option.isSome_map] at hst
          refine iteF ⟨_, rfl, _, rfl, ps, _, _, _, rfl, rfl, SqL.of hps, by rw [stk_cons]; exact atI_last _ _, _, _, rfl, rfl, ?_⟩
          refine ⟨_, rfl, _, rfl, ps, _, _, _, rfl, rfl, hps, by rw [stk_cons, List.length_append]; exact ixN_last _, ?_⟩
          refine ⟨_, _, cs, (t + 1) :: ss', b0 :: st', rfl, fun b o e => by rw [upd_ne (nps b o e)]; exact sm _ _ e, by rw [upd_ne hpcs]; exact hpc, ?_, by rw [List.length_cons]; omega, by omega, hcb, hst, by rw [List.length_cons, List.length_cons]; omega, hlp⟩
          rw [upd_same, stk_cons t, stk_len, set1]
    · rintro σ H3 ⟨v3, v4, cs, ss, st, rfl, sm, hpc, hps, hsl, hcl, hcb, hst, hstl, hlp⟩
      rw [hwl, List.drop_length] at hst hlp
      have hst : (if 1 < st.length then (none : Option (List Int)) else some []).isSome = true := hst
      have hst1 : ¬ 1 < st.length := fun h => by rw [if_pos h] at hst; cases hst
      obtain ⟨t, rfl⟩ : ∃ t, ss = [t] := by
        cases ss with
        | nil => cases hsl
        | cons a b =>
          cases b with
          | nil => exact ⟨a, rfl⟩
          | cons b c => rw [List.length_cons, List.length_cons] at hstl; omega
      have hlp : lpF xs [] [0] = some t := hlp
      refine ⟨_, rfl, ps, _, _, _, rfl, rfl, SqL.of hps, i0, _, _, rfl, rfl, _, rfl, ?_⟩
      by_cases c : 1000000000 < t
      · rw [decide_eq_true c]
        refine iteT ((q _ sm).2 fun ⟨s', h1, h2⟩ => ?_).2.1
        rw [hlp] at h1
        have := Option.some.inj h1
        omega
      · rw [decide_eq_false c]
        exact iteF ((q _ sm).1 ⟨t, hlp, by omega⟩)
end
def rStrI : List V → Hp → VK → Prop := fun xs H Q => ∃ i : Int, xs = [.int i] ∧ i.natAbs.log2 < 1920 ∧ Q (.str (toString i)) H
def rStrB : List V → Hp → VK → Prop := fun xs H Q => (∃ i : Int, xs = [.int i] ∧ i.natAbs.log2 < 1920 ∧ Q (.str (toString i)) H) ∨ ∃ a : Str, xs = [.str a] ∧ Q (.str a) H
theorem call_strB {X : Cx} : CallR X (.type "str") rStrB := CallR.or call_str_int SkE.call_str_str
theorem str_txt (n : Int) : TL.tl ((toString n : String) : Str) = txt n := tl_int n
def tJoin (ts : List TE) : TE := fun σ H Q => tJs ts Str.empty σ H fun out H1 => Q (.str out) H1
theorem pe_joinedN {X : Cx} {v1 v2 : Expr} {rest : List Expr} {ts : List TE} {pos : Pos} (h : PJ X (v1 :: v2 :: rest) ts) : PE X (.JoinedStr (v1 :: v2 :: rest) pos) (tJoin ts) := pe_joined h
theorem inV_strs (z : Str) : ∀ zs : List Str, inV (.str z) (zs.map V.str) = decide (z ∈ zs)
  | [] => by simp [inV]
  | y :: zs => by
    have ih := inV_strs z zs
    unfold inV at *
    rw [List.map_cons, List.any_cons, ih]
    show ((y == z) || decide (z ∈ zs)) = decide (z ∈ y :: zs)
    rw [Bool.eq_iff_iff, Bool.or_eq_true, beq_iff_eq, decide_eq_true_iff, decide_eq_true_iff, List.mem_cons]
    exact or_congr eq_comm Iff.rfl
theorem flat_strs : ∀ zs : List Str, (zs.map V.str).all flatV = true
  | [] => rfl
  | _ :: zs => flat_strs zs
theorem str_ne {a b : Str} (h : a ≠ b) : decide (V.str a = V.str b) = false := decide_eq_false fun z => h (by injection z)

/-- the tables of module level -/
structure Tab (K : PySem.W.Frag) (w : World) (mg : Str → Option Value) (aP aA aF aN : Addr) (es : Array DictEntry) (nn : Nat) : Prop where
  gP : mg "POINTWISE" = some (.ref aP)
  gA : mg "ARG_COUNTS" = some (.ref aA)
  gF : mg "FIELDS" = some (.ref aF)
  gN : mg "INSTRUCTION_FIELDS" = some (.ref aN)
  kN : KDict K w aN es nn
  p : ∀ H, SqT K H aP (PW.map V.str)
  a : ∀ k ∈ PW, KDct K w aA k (.int ((acN k : Nat) : Int))
  f : ∀ k ∈ PW, ∃ pf, KDct K w aF k (.ref pf) ∧ ∀ H, SqT K H pf ((fiN k).map V.str)
  n : ∀ k ∈ INm, (∃ pf, KDct K w aN k (.ref pf) ∧ ∀ H, SqT K H pf ((fldN k).map V.str)) ∧ ∃ u, PySem.W.nsIn K aN k = some (some u)
  no : ∀ k, k ∉ INm → PySem.W.nsIn K aN k = some none
theorem knd_nf {f : Str} (h : f ≠ "kind" ∧ f ≠ "sources" ∧ f ≠ "info") {v : Fv} (hk : v.knd f) : ∃ n, v = .int n := by
  cases v with
  | int n => exact ⟨n, rfl⟩
  | str s => exact absurd hk h.1
  | tup ns => exact hk.elim (fun z => absurd z h.2.1) fun z => absurd z h.2.2
theorem knd_kind {v : Fv} (hk : v.knd "kind") : ∃ s, v = .str s := by
  have h : ("kind" : Str) ≠ "sources" ∧ ("kind" : Str) ≠ "info" := by decide +kernel
  cases v with
  | int n => exact absurd rfl hk.1
  | str s => exact ⟨s, rfl⟩
  | tup ns => exact hk.elim (fun z => absurd z h.1) fun z => absurd z h.2
theorem knd_tup {f : Str} (hf : f = "sources" ∨ f = "info") {v : Fv} (hk : v.knd f) : ∃ ns, v = .tup ns := by
  have h : ("sources" : Str) ≠ "kind" ∧ ("info" : Str) ≠ "kind" := by decide +kernel
  cases v with
  | int n => exact absurd hf (fun z => z.elim hk.2.1 hk.2.2)
  | str s =>
    have hk : f = "kind" := hk
    rcases hf with e | e
    · exact absurd (e.symm.trans hk) h.1
    · exact absurd (e.symm.trans hk) h.2
  | tup ns => exact ⟨ns, rfl⟩
theorem in_do {x : Ins} (h : InOk x) (e : x.nm = "do") : ∃ k a ss is, x.fs = [.str k, .int a, .tup ss, .tup is] ∧ k ∈ PW := by
  have ht := h.ty
  rw [e, show fldN "do" = (["kind", "slot", "sources", "info"] : List Str) by decide +kernel] at ht
  obtain ⟨d, r, e1, k1, t1⟩ := ht.unc
  obtain ⟨d2, r2, e2, k2, t2⟩ := t1.unc
  obtain ⟨d3, r3, e3, k3, t3⟩ := t2.unc
  obtain ⟨d4, r4, e4, k4, t4⟩ := t3.unc
  have e5 := t4.unn
  obtain ⟨k, rfl⟩ := knd_kind k1
  obtain ⟨a, rfl⟩ := knd_nf (by decide +kernel) k2
  obtain ⟨ss, rfl⟩ := knd_tup (.inl rfl) k3
  obtain ⟨is, rfl⟩ := knd_tup (.inr rfl) k4
  have hf : x.fs = [.str k, .int a, .tup ss, .tup is] := by rw [e1, e2, e3, e4, e5]
  exact ⟨k, a, ss, is, hf, h.bd (.str k) (by rw [hf]; exact List.mem_cons_self)⟩
theorem in_vec {x : Ins} (h : InOk x) (e : x.nm = "vector") : ∃ k r, x.fs = .str k :: r ∧ k ∈ PW := by
  have ht := h.ty
  rw [e, show fldN "vector" = (["kind", "slot", "slot", "slot", "lanes"] : List Str) by decide +kernel] at ht
  obtain ⟨d, r, e1, k1, t1⟩ := ht.unc
  obtain ⟨k, rfl⟩ := knd_kind k1
  exact ⟨k, r, e1, h.bd (.str k) (by rw [e1]; exact List.mem_cons_self)⟩
theorem names_len : (∀ k ∈ INm, k.length ≤ 6 ∧ (fldN k).length ≤ 6) ∧ ∀ k ∈ PW, k.length ≤ 5 := by decide +kernel
theorem notall {α : Type} {a : α} {l : List α} (h : HT.sIx (a :: l).length 0 (some 1) = 0) : False := by
  have h : min 1 (l.length + 1) = 0 := h
  omega
/-- a text in three parts -/
theorem join3 {a b : Str} {i : Nat} {σ : St} {H : Hp} {R : V → Hp → Prop} (ha : a.length ≤ 1000) (hb : b.length ≤ 1000) (h : tVar i σ H fun x H1 => ∃ y, x = .str y ∧ y.length ≤ 1000 ∧ ∀ z, R z H1) : tJoin [tC (.str a), tFmt (tVar i), tC (.str b)] σ H R := by
  obtain ⟨v, e, y, rfl, hy, q⟩ := h
  have h0 : (Str.empty ++ a : Str).length = a.length := by rw [txt_len]; exact Nat.zero_add _
  exact ⟨_, rfl, size64 (by rw [h0]; omega), _, e, .inl ⟨y, rfl, size64 (by omega), _, rfl, size64 (by rw [txt_len, h0]; omega), _, rfl, size64 (by rw [txt_len, txt_len, h0]; omega), q _⟩⟩
section
variable {P : Program} {w : World} {K : PySem.W.Frag} {mg : Str → Option Value} {base : Heap} {aP aA aF aN : Addr} {es : Array DictEntry} {nn : Nat}
/-! ### _is_of_its_kind -/
def spIK (K : PySem.W.Frag) : Sp := fun vs H Q _ => ∃ (f : Str) (v : V) (d : Fv), vs = [.str f, v] ∧ d.knd f ∧ FvAt H v d ∧ (∀ ns, d = .tup ns → ns.length ≤ 2000000) ∧ ∀ H', Same H H' → Q (.bl true) H'
abbrev nIK : List Str := ["field", "value", "n"]
theorem scIK : FnScope nIK ["field", "value"] (defScope s_is_of_its_kind) := ⟨rfl, rfl, rfl, by decide +kernel, rfl, by decide +kernel, by decide +kernel⟩
theorem ok_ik {f : Addr} {fd : FuncData} (F : Fun K "_is_of_its_kind" "_is_of_its_kind" s_is_of_its_kind f fd) (T : TxtT mg) : FnOk P w K mg base CX0 1 f fd ["field", "value"] (spIK K) := by
  refine F.ok scIK (fun vs H Q E h => ?_) (fun cdv A outer s H vs Q E hr h => ?_)
  · obtain ⟨_, _, _, rfl, _⟩ := h
    rfl
  · obtain ⟨fn, v, d, rfl, hk, hv, hl, q⟩ := h
    refine ⟨_, (pss_cons (ps_if (pt_cmpR op_eq (pv 0) pe_str (nomark _)) (pss_one (ps_ret (pe_callB call_isi (by rfl) T.isi (by decide +kernel) (pa_cons (pv 1) (pa_cons (pe_bltn (v := .ty "str") (by rfl) T.str (by decide +kernel) rfl) pa_nil))))) pss_nil)
      (pss_cons (ps_if (PW.pt (pw_or (pt_cmpR op_eq (pv 0) pe_str (nomark _)) (pw_or1 (pt_cmpR op_eq (pv 0) pe_str (nomark _))))) (pss_one (ps_ret (pe_and (pe_callB call_isi (by rfl) T.isi (by decide +kernel) (pa_cons (pv 1) (pa_cons (pe_bltn (v := .ty "tuple") (by rfl) T.tuple (by decide +kernel) rfl) pa_nil))) (pe_one (pe_callB (cr_all rfl) (by rfl) T.all (by decide +kernel) (pa_cons (pe_lc (own := [("n", 2)]) (g := (gName 2)) (tt := tYes) (te := (tCB (rIsi K) (tCons (tVar 2) (tCons (tC (.ty "int")) tNil)))) rfl scIK.nd (pi_tup (pv 1)) (blkOk_by (N := nIK) (sc := defScope s_is_of_its_kind) (by decide +kernel)) (fun _ _ _ _ _ => (pg_name (i := 2) scIK.nd rfl (.inl rfl) (hf := Or.inr rfl))) (fun _ _ _ _ _ => pts_nil) (fun _ _ _ _ _ => (pe_callB call_isi (by rfl) T.isi (by decide +kernel) (pa_cons (pv 2) (pa_cons (pe_bltn (v := .ty "int") (by rfl) T.int (by decide +kernel) rfl) pa_nil))))) pa_nil)))))) pss_nil)
      (pss_one (ps_ret (pe_callB call_isi (by rfl) T.isi (by decide +kernel) (pa_cons (pv 1) (pa_cons (pe_bltn (v := .ty "int") (by rfl) T.int (by decide +kernel) rfl) pa_nil))))))), ?_⟩
    refine ⟨_, rfl, rfl, _, rfl, ?_⟩
    by_cases c1 : fn = "kind"
    · subst c1
      obtain ⟨z, rfl⟩ := knd_kind hk
      have hv : v = .str z := hv
      subst hv
      rw [decide_eq_true rfl]
      exact iteT ⟨_, rfl, _, _, _, _, true, rfl, ClsV.ty "str", TyX.base (TyOf.str z), kit_ty (by decide +kernel), q _ (Same.refl _)⟩
    rw [decide_eq_false (show ¬ V.str fn = V.str "kind" from fun e => c1 (V.str.inj e))]
    refine iteF ⟨_, rfl, rfl, _, rfl, ?_⟩
    have tup : fn = "sources" ∨ fn = "info" → ∃ ns a, d = .tup ns ∧ v = .ref a ∧ H a = some (.tup (ns.map V.int)) := fun hf => by
      obtain ⟨ns, rfl⟩ := knd_tup hf hk
      obtain ⟨a, e, h1⟩ := hv
      exact ⟨ns, a, rfl, e, h1⟩
    by_cases c2 : fn = "sources"
    · obtain ⟨ns, a, rfl, rfl, ha⟩ := tup (.inl c2)
      rw [decide_eq_true (show V.str fn = V.str "sources" by rw [c2])]
      refine iteT (iteT ⟨_, rfl, _, _, _, _, true, rfl, ClsV.ty "tuple", TyX.base (TyOf.tup ha), kit_ty (by decide +kernel), _, rfl, iteT ⟨_, rfl, a, rfl, ⟨_, SqT.of ha⟩, fun D nD => lc_tup (K := K) (a := a) (xs := ns.map V.int) (fun i H' => Same H H' ∧ ∃ bs : List Bool, H' D = some (.lst (bs.map V.bl)) ∧ bs.length = i ∧ ∀ b ∈ bs, b = true) ⟨same_upd nD, [], upd_same, rfl, fun _ h => (nomatch h)⟩ (fun i H' _ h => sqT_same (SqT.of ha) h.1) ?_ ?_⟩⟩)
      · rintro i x H' hx ⟨sm, bs, hD, hbl, hbs⟩
        obtain ⟨n, rfl, g1⟩ := map_int_at hx
        have hi : i < ns.length := (List.getElem?_eq_some_iff.mp g1).1
        have hns := hl ns rfl
        refine ⟨rfl, tYes_go ⟨_, rfl, _, _, _, _, true, rfl, ClsV.ty "int", TyX.base (TyOf.int n), kit_ty (by decide +kernel), _, hD, by rw [List.length_map]; exact small64 (by omega), fun b o e => by rw [upd_ne (ne_of_none e nD)]; exact sm _ _ e, bs ++ [true], by rw [upd_same, List.map_append]; rfl, by rw [List.length_append, hbl]; rfl, fun b hb => ?_⟩⟩
        rcases List.mem_append.mp hb with hb | hb
        · exact hbs b hb
        · exact List.mem_singleton.mp hb
      · rintro H' ⟨sm, bs, hD, hbl, hbs⟩
        refine ⟨D, bs, rfl, SqL.of hD, ?_⟩
        rw [show bs.all id = true from List.all_eq_true.mpr hbs]
        exact q _ sm
    rw [decide_eq_false (show ¬ V.str fn = V.str "sources" from fun e => c2 (V.str.inj e))]
    refine iteF ⟨_, rfl, rfl, _, rfl, ?_⟩
    by_cases c3 : fn = "info"
    · obtain ⟨ns, a, rfl, rfl, ha⟩ := tup (.inr c3)
      rw [decide_eq_true (show V.str fn = V.str "info" by rw [c3])]
      refine iteT (⟨_, rfl, _, _, _, _, true, rfl, ClsV.ty "tuple", TyX.base (TyOf.tup ha), kit_ty (by decide +kernel), _, rfl, iteT ⟨_, rfl, a, rfl, ⟨_, SqT.of ha⟩, fun D nD => lc_tup (K := K) (a := a) (xs := ns.map V.int) (fun i H' => Same H H' ∧ ∃ bs : List Bool, H' D = some (.lst (bs.map V.bl)) ∧ bs.length = i ∧ ∀ b ∈ bs, b = true) ⟨same_upd nD, [], upd_same, rfl, fun _ h => (nomatch h)⟩ (fun i H' _ h => sqT_same (SqT.of ha) h.1) ?_ ?_⟩⟩)
      · rintro i x H' hx ⟨sm, bs, hD, hbl, hbs⟩
        obtain ⟨n, rfl, g1⟩ := map_int_at hx
        have hi : i < ns.length := (List.getElem?_eq_some_iff.mp g1).1
        have hns := hl ns rfl
        refine ⟨rfl, tYes_go ⟨_, rfl, _, _, _, _, true, rfl, ClsV.ty "int", TyX.base (TyOf.int n), kit_ty (by decide +kernel), _, hD, by rw [List.length_map]; exact small64 (by omega), fun b o e => by rw [upd_ne (ne_of_none e nD)]; exact sm _ _ e, bs ++ [true], by rw [upd_same, List.map_append]; rfl, by rw [List.length_append, hbl]; rfl, fun b hb => ?_⟩⟩
        rcases List.mem_append.mp hb with hb | hb
        · exact hbs b hb
        · exact List.mem_singleton.mp hb
      · rintro H' ⟨sm, bs, hD, hbl, hbs⟩
        refine ⟨D, bs, rfl, SqL.of hD, ?_⟩
        rw [show bs.all id = true from List.all_eq_true.mpr hbs]
        exact q _ sm
    rw [decide_eq_false (show ¬ V.str fn = V.str "info" from fun e => c3 (V.str.inj e))]
    obtain ⟨n, rfl⟩ := knd_nf ⟨c1, c2, c3⟩ hk
    have hv : v = .int n := hv
    subst hv
    exact iteF ⟨_, rfl, _, _, _, _, true, rfl, ClsV.ty "int", TyX.base (TyOf.int n), kit_ty (by decide +kernel), q _ (Same.refl _)⟩
/-! ### _check_counts, _check_form -/
def Sml (x : Ins) : Prop := ∀ ns, Fv.tup ns ∈ x.fs → ns.length ≤ 2000000
def spCCo (K : PySem.W.Frag) (C : Nat → Addr) : Sp := fun vs H Q E => ∃ (p : Addr) (x : Ins), vs = [.ref p] ∧ InAt H (.ref p) x ∧ InOk x ∧ x.nm = "do" ∧ Sml x ∧ ∀ H', Same H H' → (doOk x.fs = true → Q .non H') ∧ (doOk x.fs = false → Bad C E H')
abbrev nCCo : List Str := ["instruction", "_", "kind", "sources", "info"]
theorem scCCo : FnScope nCCo ["instruction"] (defScope s_check_counts) := ⟨rfl, rfl, rfl, by decide +kernel, rfl, by decide +kernel, by decide +kernel⟩
theorem ok_cco {f : Addr} {C : Nat → Addr} {fd : FuncData} (F : Fun K "_check_counts" "_check_counts" s_check_counts f fd) (T : TxtT mg) (X : Tab K w mg aP aA aF aN es nn) (R6 : ErrR K mg "FormError" (C 6)) : FnOk P w K mg base (L2.CX P w) 1 f fd ["instruction"] (spCCo K C) := by
  refine F.okX scCCo (fun vs H Q E h => ?_) (fun cdv A outer s H vs Q E hr h => ?_)
  · obtain ⟨_, _, rfl, _⟩ := h
    rfl
  · obtain ⟨p, x, rfl, hx, hok, hnm, hsm, q⟩ := h
    obtain ⟨k, a, ss, is, hfs, hk⟩ := in_do hok hnm
    obtain ⟨p', vx, e, hp, hv⟩ := hx
    cases e
    rw [hfs] at hv
    obtain ⟨u1, r1, rfl, k1, hv1⟩ := hv.unc
    obtain ⟨u2, r2, rfl, k2, hv2⟩ := hv1.unc
    obtain ⟨u3, r3, rfl, k3, hv3⟩ := hv2.unc
    obtain ⟨u4, r4, rfl, k4, hv4⟩ := hv3.unc
    have e5 := hv4.unn
    subst e5
    have k1 : u1 = .str k := k1
    subst k1
    obtain ⟨a3, rfl, ha3⟩ := k3
    obtain ⟨a4, rfl, ha4⟩ := k4
    have hd : doOk x.fs = (decide (ss.length = acN k) && decide (is.length = (fiN k).length)) := by rw [hfs]; rfl
    refine ⟨_, (pss_cons (ps_asg (pv 0) (pg_tup rfl (pgs_cons (pg_name (i := 1) scCCo.nd rfl (.inl rfl)) (pgs_cons (pg_name (i := 2) scCCo.nd rfl (.inl rfl)) (pgs_cons (pg_name (i := 1) scCCo.nd rfl (.inl rfl)) (pgs_cons (pg_name (i := 3) scCCo.nd rfl (.inl rfl)) (pgs_cons (pg_name (i := 4) scCCo.nd rfl (.inl rfl)) pgs_nil)))))))
      (pss_cons (ps_if (pt_cmpR op_notIn_seq (pv 2) (pe_glob (v := (.ref aP)) (by rfl) X.gP rfl) rfl) (pss_one (ps_raise rfl (takes_of rfl rfl rfl rfl) (pmk_own PySem.F.excBase_ValueError R6.x R6.g R6.k (raises_own R6.b R6.t) rfl))) pss_nil)
      (pss_one (ps_if (PW.pt (pw_or (pt_cmpR op_ne (pe_callB call_len_seq (by rfl) T.len PySem.boot_len (pa_cons (pv 3) pa_nil)) (pe_ix ix_kdict (pe_glob (v := (.ref aA)) (by rfl) X.gA rfl) (pv 2) (fun _ _ => rfl)) (nomark _)) (pw_or1 (pt_cmpR op_ne (pe_callB call_len_seq (by rfl) T.len PySem.boot_len (pa_cons (pv 4) pa_nil)) (pe_callB call_len_seq (by rfl) T.len PySem.boot_len (pa_cons (pe_ix ix_kdict (pe_glob (v := (.ref aF)) (by rfl) X.gF rfl) (pv 2) (fun _ _ => rfl)) pa_nil)) (nomark _))))) (pss_one (ps_raise rfl (takes_of rfl rfl rfl rfl) (SkE.pmk_own1 PySem.F.excBase_ValueError R6.x R6.g R6.k (raises_own R6.b R6.t) rfl (pe_joinedN (.cons pe_str (.cons (pe_fmt (pv 2)) (.cons pe_str .nil))))))) pss_nil)))), ?_⟩
    refine ⟨_, rfl, p, _, rfl, SqT.of hp, rfl, _, _, rfl, _, _, rfl, _, _, rfl, _, _, rfl, _, _, rfl, rfl, ?_⟩
    refine ⟨_, rfl, aP, _, rfl, .inr (X.p _), rfl, flat_strs _, _, rfl, ?_⟩
    rw [if_pos rfl, inV_strs, decide_eq_true hk]
    refine iteF ?_
    have hF := X.f k hk
    obtain ⟨pf, hpf, hpfS⟩ := hF
    refine ⟨_, rfl, a3, _, rfl, .inr (SqT.of ha3), _, rfl, aA, k, _, rfl, rfl, X.a k hk, rfl, _, rfl, ?_⟩
    rw [List.length_map]
    have hkl := names_len.2 k hk
    have bad : doOk x.fs = false → Bad C E H := (q _ (Same.refl _)).2
    by_cases e1 : ss.length = acN k
    · rw [decide_eq_true (show V.int ((ss.length : Nat) : Int) = V.int ((acN k : Nat) : Int) by rw [e1])]
      refine iteF ⟨_, rfl, a4, _, rfl, .inr (SqT.of ha4), _, rfl, aF, k, _, rfl, rfl, hpf, pf, _, rfl, .inr (hpfS _), rfl, _, rfl, ?_⟩
      rw [List.length_map, List.length_map]
      by_cases e2 : is.length = (fiN k).length
      · rw [decide_eq_true (show V.int ((is.length : Nat) : Int) = V.int (((fiN k).length : Nat) : Int) by rw [e2])]
        exact iteF ((q _ (Same.refl _)).1 (by rw [hd, decide_eq_true e1, decide_eq_true e2]; rfl))
      · rw [decide_eq_false (show ¬ V.int ((is.length : Nat) : Int) = V.int (((fiN k).length : Nat) : Int) from fun z => e2 (by have := V.int.inj z; omega))]
        refine iteT (join3 (by decide +kernel) (by decide +kernel) ⟨_, rfl, k, rfl, by omega, fun _ => (bad ?_).2.2⟩)
        rw [hd, decide_eq_false e2, Bool.and_false]
    · rw [decide_eq_false (show ¬ V.int ((ss.length : Nat) : Int) = V.int ((acN k : Nat) : Int) from fun z => e1 (by have := V.int.inj z; omega))]
      refine iteT (iteT (join3 (by decide +kernel) (by decide +kernel) ⟨_, rfl, k, rfl, by omega, fun _ => (bad ?_).2.2⟩))
      rw [hd, decide_eq_false e1, Bool.false_and]
def spCFo (K : PySem.W.Frag) (C : Nat → Addr) : Sp := fun vs H Q E => ∃ (p : Addr) (x : Ins), vs = [.ref p] ∧ InAt H (.ref p) x ∧ InOk x ∧ Sml x ∧ ∀ H', Same H H' → (okForm x = true → Q .non H') ∧ (okForm x = false → Bad C E H')
abbrev nCFo : List Str := ["instruction", "name", "fields", "field", "value"]
theorem scCFo : FnScope nCFo ["instruction"] (defScope s_check_form) := ⟨rfl, rfl, rfl, by decide +kernel, rfl, by decide +kernel, by decide +kernel⟩
theorem ok_cfo {f : Addr} {C : Nat → Addr} {fd : FuncData} (F : Fun K "_check_form" "_check_form" s_check_form f fd) (T : TxtT mg) (X : Tab K w mg aP aA aF aN es nn) (R6 : ErrR K mg "FormError" (C 6)) (cIK : Calls P w K mg base CX0 1 "_is_of_its_kind" ["field", "value"] (spIK K)) (cCCo : Calls P w K mg base (L2.CX P w) 1 "_check_counts" ["instruction"] (spCCo K C)) : FnOk P w K mg base (L2.CX P w) 2 f fd ["instruction"] (spCFo K C) := by
  obtain ⟨fIK, dIK, GIK, kIK, bIK, gIK⟩ := cIK.ex
  obtain ⟨fCCo, dCCo, GCCo, kCCo, bCCo, gCCo⟩ := cCCo.ex
  refine F.okX scCFo (fun vs H Q E h => ?_) (fun cdv A outer s H vs Q E hr1 h => ?_)
  · obtain ⟨_, _, rfl, _⟩ := h
    rfl
  · obtain ⟨p, x, rfl, hx, hok, hsm, q⟩ := h
    have hxa := hx
    obtain ⟨p', vx, e, hp, hv⟩ := hx
    cases e
    refine ⟨_, (pss_cons (ps_if (PW.pt (pw_or (pt_not (pt_val (pe_callB call_isi (by rfl) T.isi (by decide +kernel) (pa_cons (pv 0) (pa_cons (pe_bltn (v := .ty "tuple") (by rfl) T.tuple (by decide +kernel) rfl) pa_nil))))) (pw_or1 (pt_cmpR op_eq (pe_callB call_len_seq (by rfl) T.len PySem.boot_len (pa_cons (pv 0) pa_nil)) pe_int (nomark _))))) (pss_one (ps_raise rfl (takes_of rfl rfl rfl rfl) (pmk_own PySem.F.excBase_ValueError R6.x R6.g R6.k (raises_own R6.b R6.t) rfl))) pss_nil)
      (pss_cons (ps_set (i := 1) scCFo.nd rfl (.inl rfl) (pe_ix ix_tup (pv 0) pe_int (fun _ _ => rfl)))
      (pss_cons (ps_if (PW.pt (pw_or (pt_not (pt_val (pe_callB call_isi (by rfl) T.isi (by decide +kernel) (pa_cons (pv 1) (pa_cons (pe_bltn (v := .ty "str") (by rfl) T.str (by decide +kernel) rfl) pa_nil))))) (pw_or1 (pt_cmpR (op_notIn_kd X.kN) (pv 1) (pe_glob (v := (.ref aN)) (by rfl) X.gN rfl) rfl)))) (pss_one (ps_raise rfl (takes_of rfl rfl rfl rfl) (pmk_own PySem.F.excBase_ValueError R6.x R6.g R6.k (raises_own R6.b R6.t) rfl))) pss_nil)
      (pss_cons (ps_set (i := 2) scCFo.nd rfl (.inl rfl) (pe_ix ix_kdict (pe_glob (v := (.ref aN)) (by rfl) X.gN rfl) (pv 1) (fun _ _ => rfl)))
      (pss_cons (ps_if (pt_cmpR op_ne (pe_callB call_len_seq (by rfl) T.len PySem.boot_len (pa_cons (pv 0) pa_nil)) (pe_op op_add (pe_callB call_len_seq (by rfl) T.len PySem.boot_len (pa_cons (pv 2) pa_nil)) pe_int) (nomark _)) (pss_one (ps_raise rfl (takes_of rfl rfl rfl rfl) (SkE.pmk_own1 PySem.F.excBase_ValueError R6.x R6.g R6.k (raises_own R6.b R6.t) rfl (pe_joinedN (.cons pe_str (.cons (pe_fmt (pv 1)) (.cons pe_str .nil))))))) pss_nil)
      (pss_cons (ps_for (passes_of rfl) rfl (RZ.pi_zipA (by rfl) T.zip (pa_cons (pv 2) (pa_cons (pe_slice sl_tup (pv 0) (po_some pe_int) po_none) pa_nil))) (pg_tup rfl (pgs_cons (pg_name (i := 3) scCFo.nd rfl (.inl rfl)) (pgs_cons (pg_name (i := 4) scCFo.nd rfl (.inl rfl)) pgs_nil))) (pss_one (ps_if (pt_not (pt_val (pe_call GIK hr1 (by rfl) gIK kIK bIK .nil pass0 (pa_cons (pv 3) (pa_cons (pv 4) pa_nil))))) (pss_one (ps_raise rfl (takes_of rfl rfl rfl rfl) (SkE.pmk_own1 PySem.F.excBase_ValueError R6.x R6.g R6.k (raises_own R6.b R6.t) rfl (pe_joinedN (.cons pe_str (.cons (pe_fmt (pv 1)) (.cons pe_str .nil))))))) pss_nil)))
      (pss_cons (ps_if (pt_cmpR op_eq (pv 1) pe_str (nomark _)) (pss_one (ps_expr (pe_callS GCCo hr1 (by rfl) gCCo kCCo bCCo (fun σ => passAt (takes_of rfl rfl rfl rfl) σ) (pa_cons (pv 0) pa_nil)))) pss_nil)
      (pss_one (ps_if (PW.pt (pw_and (pt_cmpR op_eq (pv 1) pe_str (nomark _)) (pw_and1 (PW.pt (pw_or (pt_cmpR op_notIn_seq (pe_ix ix_tup (pv 0) pe_int (fun _ _ => rfl)) (pe_glob (v := (.ref aP)) (by rfl) X.gP rfl) rfl) (pw_or1 (pt_cmpR op_ne (pe_ix ix_kdict (pe_glob (v := (.ref aA)) (by rfl) X.gA rfl) (pe_ix ix_tup (pv 0) pe_int (fun _ _ => rfl)) (fun _ _ => rfl)) pe_int (nomark _)))))))) (pss_one (ps_raise rfl (takes_of rfl rfl rfl rfl) (pmk_own PySem.F.excBase_ValueError R6.x R6.g R6.k (raises_own R6.b R6.t) rfl))) pss_nil))))))))), ?_⟩
    refine ⟨_, rfl, _, _, _, _, true, rfl, ClsV.ty "tuple", TyX.base (TyOf.tup hp), kit_ty (by decide +kernel), _, rfl, iteF ?_⟩
    have hxl : vx.length = (fldN x.nm).length := by rw [hv.len, hok.ty.len]
    obtain ⟨⟨pf, hpf, hpfS⟩, uF, huF⟩ := X.n x.nm hok.nm
    refine ⟨_, rfl, p, _, rfl, .inr (SqT.of hp), rfl, _, rfl, ?_⟩
    rw [decide_eq_false (show ¬ V.int (((V.str x.nm :: vx).length : Nat) : Int) = V.int 0 from fun z => by have := V.int.inj z; rw [List.length_cons] at this; omega)]
    refine iteF ⟨_, rfl, p, _, 0, _, rfl, rfl, SqT.of hp, i0, ?_⟩
    refine ⟨_, rfl, _, _, _, _, true, rfl, ClsV.ty "str", TyX.base (TyOf.str _), kit_ty (by decide +kernel), _, rfl, iteF ?_⟩
    refine ⟨_, rfl, x.nm, some uF, rfl, rfl, huF, _, rfl, iteF ?_⟩
    refine ⟨_, rfl, aN, x.nm, .ref pf, rfl, rfl, hpf, ?_⟩
    refine ⟨_, rfl, p, _, rfl, .inr (SqT.of hp), _, rfl, pf, _, rfl, .inr (hpfS _), _, _, rfl, rfl, rfl, _, rfl, ?_⟩
    rw [decide_eq_true (show V.int (((V.str x.nm :: vx).length : Nat) : Int) = V.int (((((fldN x.nm).map V.str).length : Nat) : Int) + 1) by rw [List.length_cons, List.length_map, hxl]; rfl)]
    refine iteF ?_
    refine ⟨_, rfl, _, rfl, 1, rfl, p, _, rfl, SqT.of hp, fun z => notall z.1, fun S nS => ?_⟩
    have hcut : cutV (V.str x.nm :: vx) (some 1) none = vx := cutV_from _ 1
    have sS := same_upd (o := .tup (cutV (V.str x.nm :: vx) (some 1) none)) nS
    have hS : (upd H S (.tup (cutV (V.str x.nm :: vx) (some 1) none))) S = some (.tup vx) := by rw [upd_same, hcut]
    generalize upd H S (.tup (cutV (V.str x.nm :: vx) (some 1) none)) = H1 at sS hS
    refine ⟨pf, S, _, _, rfl, .inr ⟨hpfS _, SqT.of hS, RZ.for_zipT (K := K) (a := pf) (b := S) (xs := (fldN x.nm).map V.str) (ys := vx) (by rw [List.length_map, hxl])
      (fun i σ H' => ∃ (v3 v4 : Option V), σ = [some (.ref p), some (.str x.nm), some (.ref pf), v3, v4] ∧ Same H1 H') ⟨none, none, rfl, Same.refl H1⟩ ?_ ?_ ?_⟩⟩
    · rintro i σ H' ⟨v3, v4, _, sm⟩
      exact ⟨hpfS _, sqT_same (SqT.of hS) sm⟩
    · rintro i u v T' σ H' h1 h2 ⟨v3, v4, rfl, sm⟩ nT
      rw [List.getElem?_map] at h1
      obtain ⟨z, hz, rfl⟩ := Option.map_eq_some_iff.mp h1
      have hi : i < x.fs.length := by
        have := (List.getElem?_eq_some_iff.mp hz).1
        have := hok.ty.len
        omega
      have hd : x.fs[i]? = some x.fs[i] := List.getElem?_eq_getElem hi
      generalize x.fs[i] = d at hd
      have sT := same_upd (o := .tup [V.str z, v]) nT
      have hdv := ((hv.keep (Same.nl ((sS.trans sm).trans sT)))).at h2 hd
      refine ⟨T', _, rfl, SqT.of upd_same, rfl, _, _, rfl, _, _, rfl, rfl, _, rfl, _, rfl, z, v, d, rfl, hok.ty.at hz hd, hdv, fun ns e => hsm ns (by rw [← e]; exact List.mem_of_getElem? hd), fun H2 s2 => ⟨_, rfl, iteF ?_⟩⟩
      exact ⟨_, _, rfl, (sm.trans sT).trans s2⟩
    · rintro σ H' ⟨v3, v4, rfl, sm⟩
      have s0 := sS.trans sm
      have q1 := q _ s0
      have hp' := s0 _ _ hp
      refine ⟨_, rfl, rfl, _, rfl, ?_⟩
      have ndv : ("do" : Str) ≠ "vector" := by decide +kernel
      by_cases c1 : x.nm = "do"
      · rw [decide_eq_true (show V.str x.nm = V.str "do" by rw [c1])]
        have hof : okForm x = doOk x.fs := by unfold okForm; rw [if_pos c1, if_neg (by rw [c1]; exact ndv), Bool.and_true]
        rw [hof] at q1
        refine iteT ⟨_, rfl, p, x, rfl, hxa.same s0, hok, c1, hsm, fun H2 s2 => ⟨fun e => ⟨_, rfl, rfl, _, rfl, ?_⟩, fun e => ?_⟩⟩
        · rw [str_ne (show x.nm ≠ "vector" by rw [c1]; exact ndv)]
          have q2 := (q _ (s0.trans s2)).1 (by rw [hof]; exact e)
          exact iteF (iteF q2)
        · exact (q _ (s0.trans s2)).2 (by rw [hof]; exact e)
      rw [str_ne c1]
      refine iteF ⟨_, rfl, rfl, _, rfl, ?_⟩
      by_cases c2 : x.nm = "vector"
      · rw [decide_eq_true (show V.str x.nm = V.str "vector" by rw [c2])]
        obtain ⟨k, r, hfs, hk⟩ := in_vec hok c2
        have hof : okForm x = decide (acN k = 2) := by unfold okForm; rw [if_neg c1, if_pos c2, hfs]; rfl
        have hv' := hv
        rw [hfs] at hv'
        obtain ⟨u1, r1, rfl, k1, hv1⟩ := hv'.unc
        have k1 : u1 = .str k := k1
        subst k1
        refine iteT ⟨_, rfl, p, _, 1, _, rfl, rfl, SqT.of hp', atI_nat (j := 1) rfl, aP, _, rfl, .inr (X.p _), rfl, flat_strs _, ?_⟩
        rw [if_pos rfl, inV_strs, decide_eq_true hk]
        refine ⟨_, rfl, iteF ⟨_, rfl, p, _, 1, _, rfl, rfl, SqT.of hp', atI_nat (j := 1) rfl, aA, k, _, rfl, rfl, X.a k hk, rfl, _, rfl, ?_⟩⟩
        by_cases e2 : acN k = 2
        · rw [decide_eq_true (show V.int ((acN k : Nat) : Int) = V.int 2 by rw [e2]; rfl)]
          exact iteF (q1.1 (by rw [hof, decide_eq_true e2]))
        · rw [decide_eq_false (show ¬ V.int ((acN k : Nat) : Int) = V.int 2 from fun z => e2 (by have := V.int.inj z; omega))]
          exact iteT (q1.2 (by rw [hof, decide_eq_false e2])).2.2
      · rw [str_ne c2]
        exact iteF (iteF (q1.1 (by unfold okForm; rw [if_neg c1, if_neg c2]; rfl)))
end
theorem mergeK_new : ∀ (more acc : List (Key × V)), ((acc ++ more).map (·.1)).Nodup → mergeK acc more = acc ++ more
  | [], acc, _ => (List.append_nil _).symm
  | p :: r, acc, h => by
    have hv : valV acc p.1 = none := by
      unfold valV
      rw [Option.map_eq_none_iff, List.find?_eq_none]
      intro q hq hd
      have e := of_decide_eq_true hd
      rw [List.map_append, List.nodup_append] at h
      exact h.2.2 q.1 (List.mem_map.mpr ⟨q, hq, rfl⟩) p.1 (List.mem_map.mpr ⟨p, List.mem_cons_self, rfl⟩) e
    show mergeK (putK acc p.1 p.2) r = acc ++ p :: r
    rw [putK_new p.2 hv, mergeK_new r _ (by rw [List.append_assoc]; exact h), List.append_assoc]
    rfl

/-- the pairs of the table of bounds -/
def kvB : List (Str × Int × Int) → List Addr → List (Key × V)
  | r :: rs, p :: ps => (.inr r.1, .ref p) :: kvB rs ps
  | _, _ => []
def BoAt (H : Hp) (m : Mch) (G : Addr) : Prop := ∃ ps : List Addr, ps.length = (bdT m).length ∧ H G = some (.dK (kvB (bdT m) ps)) ∧ ∀ (i : Nat) r p, (bdT m)[i]? = some r → ps[i]? = some p → H p = some (.tup [.int r.2.1, .int r.2.2])
theorem BoAt.same {H H' : Hp} {m : Mch} {G : Addr} (h : BoAt H m G) (s : Same H H') : BoAt H' m G := by
  obtain ⟨ps, h1, h2, h3⟩ := h
  exact ⟨ps, h1, s _ _ h2, fun i r p a b => s _ _ (h3 i r p a b)⟩
theorem kvB_get (f : Str) : ∀ {rs : List (Str × Int × Int)} {ps : List Addr}, ps.length = rs.length →
    (rs.find? (fun r => decide (r.1 = f)) = none ∧ valV (kvB rs ps) (.inr f) = none) ∨ ∃ (i : Nat) (r : Str × Int × Int) (p : Addr), rs.find? (fun r => decide (r.1 = f)) = some r ∧ rs[i]? = some r ∧ ps[i]? = some p ∧ valV (kvB rs ps) (.inr f) = some (.ref p)
  | [], [], _ => .inl ⟨rfl, rfl⟩
  | [], _ :: _, h => nomatch h
  | _ :: _, [], h => nomatch h
  | r :: rs, p :: ps, h => by
    unfold valV kvB
    by_cases e : r.1 = f
    · refine .inr ⟨0, r, p, ?_, rfl, rfl, ?_⟩
      · rw [List.find?_cons_of_pos (by exact decide_eq_true e)]
      · rw [List.find?_cons_of_pos (by exact decide_eq_true (congrArg Sum.inr e))]
        rfl
    · rw [List.find?_cons_of_neg (by rw [decide_eq_false e]; exact Bool.false_ne_true), List.find?_cons_of_neg (by rw [decide_eq_false (fun z => e (Sum.inr.inj z))]; exact Bool.false_ne_true)]
      rcases kvB_get f (rs := rs) (ps := ps) (Nat.succ.inj h) with ⟨h1, h2⟩ | ⟨i, r', p', h1, h2, h3, h4⟩
      · exact .inl ⟨h1, h2⟩
      · exact .inr ⟨i + 1, r', p', h1, h2, h3, h4⟩
theorem bo_get {H : Hp} {m : Mch} {G : Addr} (h : BoAt H m G) (f : Str) : (bdN m f = none ∧ DGet H G (.str f) none) ∨ ∃ lo hi p, bdN m f = some (lo, hi) ∧ DGet H G (.str f) (some (.ref p)) ∧ H p = some (.tup [.int lo, .int hi]) := by
  obtain ⟨ps, h1, h2, h3⟩ := h
  unfold bdN
  rcases kvB_get f h1 with ⟨e1, e2⟩ | ⟨i, r, p, e1, e2, e3, e4⟩
  · refine .inl ⟨by rw [e1]; rfl, ?_⟩
    rw [← e2]
    exact DGet.k (k := Sum.inr f) h2
  · refine .inr ⟨r.2.1, r.2.2, p, by rw [e1]; rfl, ?_, h3 i r p e2 e3⟩
    rw [← e4]
    exact DGet.k (k := Sum.inr f) h2
section
variable {P : Program} {w : World} {K : PySem.W.Frag} {mg : Str → Option Value} {base : Heap}
def spBo (K : PySem.W.Frag) : Sp := fun vs H Q _ => ∃ (a : Addr) (m : Mch) (ms : List Int), vs = [.ref a] ∧ SqT K H a (ms.map V.int) ∧ MOk m ms ∧ ∀ H' G, Same H H' → BoAt H' m G → Q (.ref G) H'
abbrev nBo : List Str := ["machine", "width", "_", "queues", "lanes"]
theorem scBo : FnScope nBo ["machine"] (defScope s_bounds) := ⟨rfl, rfl, rfl, by decide +kernel, rfl, by decide +kernel, by decide +kernel⟩
theorem ok_bo {f : Addr} {fd : FuncData} (F : Fun K "_bounds" "_bounds" s_bounds f fd) (l1 : ∃ u, mg "SLOTS" = some u ∧ RelV (.int 32) u) (l2 : ∃ u, mg "OFFSET_LIMIT" = some u ∧ RelV (.int 16384) u) (cWB : Calls P w K mg base CX0 1 "word_bounds" ["machine"] (spWB K)) : FnOk P w K mg base CX0 2 f fd ["machine"] (spBo K) := by
  obtain ⟨fWB, dWB, GWB, kWB, bWB, gWB⟩ := cWB.ex
  obtain ⟨uSl, gSl, rSl⟩ := l1
  obtain ⟨uOf, gOf, rOf⟩ := l2
  refine F.ok scBo (fun vs H Q E h => ?_) (fun cdv A outer s H vs Q E hr1 h => ?_)
  · obtain ⟨_, _, _, rfl, _⟩ := h
    rfl
  · obtain ⟨a, m, ms, rfl, ha, hm, q⟩ := h
    refine ⟨_, (pss_cons (ps_asg (pv 0) (pg_tup rfl (pgs_cons (pg_name (i := 1) scBo.nd rfl (.inl rfl)) (pgs_cons (pg_name (i := 2) scBo.nd rfl (.inl rfl)) (pgs_cons (pg_name (i := 2) scBo.nd rfl (.inl rfl)) (pgs_cons (pg_name (i := 3) scBo.nd rfl (.inl rfl)) (pgs_cons (pg_name (i := 4) scBo.nd rfl (.inl rfl)) pgs_nil)))))))
      (pss_one (ps_ret (pe_disp (pps_cons pe_str (pe_tup (pa_cons pe_int (pa_cons (pe_op op_sub (pe_glob (v := (.int 32)) (by rfl) gSl rSl) pe_int) pa_nil))) (pps_cons pe_str (pe_call GWB hr1 (by rfl) gWB kWB bWB .nil pass0 (pa_cons (pv 0) pa_nil)) (pps_cons pe_str (pe_tup (pa_cons (pe_un un_neg (pe_glob (v := (.int 16384)) (by rfl) gOf rOf)) (pa_cons (pe_glob (v := (.int 16384)) (by rfl) gOf rOf) pa_nil))) (pps_cons pe_str (pe_tup (pa_cons pe_int (pa_cons (pv 4) pa_nil))) (pps_cons pe_str (pe_tup (pa_cons (pe_un un_neg (pe_op op_shl pe_int (pv 1))) (pa_cons (pe_op op_shl pe_int (pv 1)) pa_nil))) (pps_cons pe_str (pe_tup (pa_cons pe_int (pa_cons pe_int pa_nil))) (pps_cons pe_str (pe_tup (pa_cons pe_int (pa_cons pe_int pa_nil))) (pps_cons pe_str (pe_tup (pa_cons pe_int (pa_cons (pe_op op_sub (pv 3) pe_int) pa_nil))) (pps_cons pe_str (pe_tup (pa_cons pe_int (pa_cons pe_int pa_nil))) pps_nil))))))))) rfl rfl (List.cons_ne_nil _ _) (by decide))))), ?_⟩
    obtain ⟨n0, n1, n2, n3, n4, rfl⟩ : ∃ n0 n1 n2 n3 n4, ms = [n0, n1, n2, n3, n4] := by
      have := hm.l
      match ms, this with
      | [n0, n1, n2, n3, n4], _ => exact ⟨n0, n1, n2, n3, n4, rfl⟩
    have e0 : n0 = m.w := Option.some.inj hm.w
    have e3 : n3 = m.q := Option.some.inj hm.q
    have e4 : n4 = m.l := Option.some.inj hm.e
    obtain ⟨b1, b2⟩ := hm.wb
    refine ⟨_, rfl, a, _, rfl, ha, rfl, _, _, rfl, _, _, rfl, _, _, rfl, _, _, rfl, _, _, rfl, rfl, ?_⟩
    intro G nG
    subst e0 e3 e4
    have s0 := same_upd (o := .dK []) nG
    have hG : (upd H G (.dK [])) G = some (.dK []) := upd_same
    generalize upd H G (.dK []) = H0 at s0 hG
    refine ⟨_, _, rfl, rfl, by show 2 ≤ sizeLine; decide, fun p1 np1 => ?_⟩
    have t1 := same_upd (o := .tup [.int 0, .int (32 - 1)]) np1
    have h1 : (upd H0 p1 (.tup [.int 0, .int (32 - 1)])) p1 = some (.tup [.int 0, .int (32 - 1)]) := upd_same
    generalize upd H0 p1 (.tup [.int 0, .int (32 - 1)]) = H1 at t1 h1
    have s01 := t1
    refine ⟨_, rfl, a, m, _, rfl, sqT_same ha (s0.trans s01), hm, fun H2 p2 t2 h2 => ?_⟩
    have s2 := s01.trans t2
    refine ⟨_, rfl, by show 2 ≤ sizeLine; decide, fun p3 np3 => ?_⟩
    have t3 := same_upd (o := .tup [.int (-16384), .int 16384]) np3
    have h3 : (upd H2 p3 (.tup [.int (-16384), .int 16384])) p3 = some (.tup [.int (-16384), .int 16384]) := upd_same
    generalize upd H2 p3 (.tup [.int (-16384), .int 16384]) = H3 at t3 h3
    have s3 := s2.trans t3
    refine ⟨_, rfl, by show 2 ≤ sizeLine; decide, fun p4 np4 => ?_⟩
    have t4 := same_upd (o := .tup [.int 1, .int m.l]) np4
    have h4 : (upd H3 p4 (.tup [.int 1, .int m.l])) p4 = some (.tup [.int 1, .int m.l]) := upd_same
    generalize upd H3 p4 (.tup [.int 1, .int m.l]) = H4 at t4 h4
    have s4 := s3.trans t4
    refine ⟨_, rfl, _, _, rfl, rfl, ⟨by show 0 ≤ m.w; omega, by show m.w ≤ 1000000; omega, by decide⟩, _, rfl, _, rfl, _, _, rfl, rfl, ⟨by show 0 ≤ m.w; omega, by show m.w ≤ 1000000; omega, by decide⟩, by show 2 ≤ sizeLine; decide, fun p5 np5 => ?_⟩
    have t5 := same_upd (o := .tup [.int (-(1 * 2 ^ m.w.toNat)), .int (1 * 2 ^ m.w.toNat)]) np5
    have h5 : (upd H4 p5 (.tup [.int (-(1 * 2 ^ m.w.toNat)), .int (1 * 2 ^ m.w.toNat)])) p5 = some (.tup [.int (-(1 * 2 ^ m.w.toNat)), .int (1 * 2 ^ m.w.toNat)]) := upd_same
    generalize upd H4 p5 (.tup [.int (-(1 * 2 ^ m.w.toNat)), .int (1 * 2 ^ m.w.toNat)]) = H5 at t5 h5
    have s5 := s4.trans t5
    refine ⟨ by show 2 ≤ sizeLine; decide, fun p6 np6 => ?_⟩
    have t6 := same_upd (o := .tup [.int 1, .int 1000]) np6
    have h6 : (upd H5 p6 (.tup [.int 1, .int 1000])) p6 = some (.tup [.int 1, .int 1000]) := upd_same
    generalize upd H5 p6 (.tup [.int 1, .int 1000]) = H6 at t6 h6
    have s6 := s5.trans t6
    refine ⟨ by show 2 ≤ sizeLine; decide, fun p7 np7 => ?_⟩
    have t7 := same_upd (o := .tup [.int 0, .int 4000000]) np7
    have h7 : (upd H6 p7 (.tup [.int 0, .int 4000000])) p7 = some (.tup [.int 0, .int 4000000]) := upd_same
    generalize upd H6 p7 (.tup [.int 0, .int 4000000]) = H7 at t7 h7
    have s7 := s6.trans t7
    refine ⟨_, rfl, _, _, rfl, rfl, by show 2 ≤ sizeLine; decide, fun p8 np8 => ?_⟩
    have t8 := same_upd (o := .tup [.int 0, .int (m.q - 1)]) np8
    have h8 : (upd H7 p8 (.tup [.int 0, .int (m.q - 1)])) p8 = some (.tup [.int 0, .int (m.q - 1)]) := upd_same
    generalize upd H7 p8 (.tup [.int 0, .int (m.q - 1)]) = H8 at t8 h8
    have s8 := s7.trans t8
    refine ⟨ by show 2 ≤ sizeLine; decide, fun p9 np9 => ?_⟩
    have t9 := same_upd (o := .tup [.int 1, .int 4096]) np9
    have h9 : (upd H8 p9 (.tup [.int 1, .int 4096])) p9 = some (.tup [.int 1, .int 4096]) := upd_same
    generalize upd H8 p9 (.tup [.int 1, .int 4096]) = H9 at t9 h9
    have s9 := s8.trans t9
    have hG9 := s9 _ _ hG
    have f1 := t9 _ _ (t8 _ _ (t7 _ _ (t6 _ _ (t5 _ _ (t4 _ _ (t3 _ _ (t2 _ _ (h1))))))))
    have f2 := t9 _ _ (t8 _ _ (t7 _ _ (t6 _ _ (t5 _ _ (t4 _ _ (t3 _ _ (h2)))))))
    have f3 := t9 _ _ (t8 _ _ (t7 _ _ (t6 _ _ (t5 _ _ (t4 _ _ (h3))))))
    have f4 := t9 _ _ (t8 _ _ (t7 _ _ (t6 _ _ (t5 _ _ (h4)))))
    have f5 := t9 _ _ (t8 _ _ (t7 _ _ (t6 _ _ (h5))))
    have f6 := t9 _ _ (t8 _ _ (t7 _ _ (h6)))
    have f7 := t9 _ _ (t8 _ _ (h7))
    have f8 := t9 _ _ (h8)
    have f9 := h9
    clear s01 s2 s3 s4 s5 s6 s7 s8 t1 t2 t3 t4 t5 t6 t7 t8 t9 h1 h2 h3 h4 h5 h6 h7 h8 h9
    have ek : mergeK [] (kvB (bdT m) [p1, p2, p3, p4, p5, p6, p7, p8, p9]) = kvB (bdT m) [p1, p2, p3, p4, p5, p6, p7, p8, p9] := mergeK_new _ [] (by
      show ([Sum.inr "slot", Sum.inr "word", Sum.inr "offset", Sum.inr "lanes", Sum.inr "begin", Sum.inr "turns", Sum.inr "skipped", Sum.inr "queue", Sum.inr "count"] : List Key).Nodup
      decide +kernel)
    refine ⟨hG9, kvB (bdT m) [p1, p2, p3, p4, p5, p6, p7, p8, p9], rfl, by show 9 ≤ 15; decide, ?_⟩
    rw [ek]
    have ne : ∀ {p : Addr} {o : HO}, H9 p = some o → (∀ l, o ≠ .dK l) → p ≠ G := fun {p o} h k e => by rw [e, hG9] at h; exact k _ (Option.some.inj h).symm
    refine q _ G (fun b o e => ?_) ⟨[p1, p2, p3, p4, p5, p6, p7, p8, p9], rfl, upd_same, ?_⟩
    · rw [upd_ne (ne_of_none e nG)]
      exact s9 _ _ (s0 _ _ e)
    · intro i r p hr hp
      match i with
      | 0 => cases hr; cases hp; rw [upd_ne (ne f1 (fun _ z => nomatch z))]; exact f1
      | 1 => cases hr; cases hp; rw [upd_ne (ne f2 (fun _ z => nomatch z))]; exact f2
      | 2 => cases hr; cases hp; rw [upd_ne (ne f3 (fun _ z => nomatch z))]; exact f3
      | 3 => cases hr; cases hp; rw [upd_ne (ne f4 (fun _ z => nomatch z))]; exact f4
      | 4 => cases hr; cases hp; rw [upd_ne (ne f5 (fun _ z => nomatch z))]; exact f5
      | 5 => cases hr; cases hp; rw [upd_ne (ne f6 (fun _ z => nomatch z))]; exact f6
      | 6 => cases hr; cases hp; rw [upd_ne (ne f7 (fun _ z => nomatch z))]; exact f7
      | 7 => cases hr; cases hp; rw [upd_ne (ne f8 (fun _ z => nomatch z))]; exact f8
      | 8 => cases hr; cases hp; rw [upd_ne (ne f9 (fun _ z => nomatch z))]; exact f9
      | i + 9 => cases hp
end

/-- the pointwise kinds' fields and their ranges -/
def nrK (k : Str) : List (Str × Option (Int × Int)) := if k = "clamp" then [("low", none), ("high", none)] else if k = "shift" then [("n", some (1, 30))] else []
theorem nrK_names : ∀ k ∈ PW, (nrK k).map (·.1) = fiN k := by decide +kernel
structure TabR (K : PySem.W.Frag) (w : World) (aR : Addr) : Prop where
  low : PySem.W.nsIn K aR "low" = some none
  high : PySem.W.nsIn K aR "high" = some none
  n : RgAt K w aR "n" (some (1, 30))
def preK (k : Str) (is : List Int) : Nat := match k, is with | k, [a, b] => if k = "clamp" then clampR a b else 0 | _, _ => 0
theorem preK_c (a b : Int) : preK "clamp" [a, b] = clampR a b := by
  show (if ("clamp" : Str) = "clamp" then clampR a b else 0) = _
  rw [if_pos rfl]
section
variable {P : Program} {w : World} {K : PySem.W.Frag} {mg : Str → Option Value} {base : Heap} {aP aA aF aN aR : Addr} {es : Array DictEntry} {nn : Nat}
theorem fldK_of (X : Tab K w mg aP aA aF aN es nn) (Y : TabR K w aR) {k : Str} (hk : k ∈ PW) {is : List Int} (hl : is.length = (fiN k).length) : FldK K w aF aR k (nrK k) (is.map V.int) (preK k is) := by
  obtain ⟨pf, h1, h2⟩ := X.f k hk
  have hn := nrK_names k hk
  refine ⟨⟨pf, h1, fun H => by rw [hn]; exact h2 H⟩, by rw [← List.length_map (f := (·.1)), hn, List.length_map, hl], fun p hp => ?_, fun j nm ab h => ?_, ?_, ?_, ?_⟩
  · unfold nrK at hp
    split at hp
    · simp only [List.mem_cons, List.not_mem_nil, or_false] at hp
      rcases hp with rfl | rfl
      · exact ⟨by decide +kernel, Y.low⟩
      · exact ⟨by decide +kernel, Y.high⟩
    · split at hp
      · simp only [List.mem_cons, List.not_mem_nil, or_false] at hp
        rcases hp with rfl
        exact ⟨by decide +kernel, Y.n⟩
      · cases hp
  · have hj : j < (is.map V.int).length := by
      have := (List.getElem?_eq_some_iff.mp h).1
      rw [← List.length_map (f := (·.1)), hn] at this
      rw [List.length_map]
      omega
    rw [List.length_map] at hj
    exact ⟨is[j], by rw [List.getElem?_map, List.getElem?_eq_getElem hj]; rfl⟩
  · intro e
    rw [e] at hk
    exact absurd hk (by decide +kernel)
  · intro e
    subst e
    have h2 : is.length = 2 := by rw [hl]; decide +kernel
    match is, h2 with
    | [a, b], _ => exact ⟨a, b, rfl, preK_c a b⟩
  · intro _ e
    unfold preK
    split
    · rw [if_neg e]
    · rfl
theorem preK_cases (k : Str) (is : List Int) : preK k is = 0 ∨ preK k is = 3 := by
  unfold preK
  split
  · split
    · exact clampR_cases _ _
    · exact .inl rfl
  · exact .inl rfl
/-- what check_fields finds, in the law's words -/
theorem fieldsR_info {k : Str} (hk : k ∈ PW) {is : List Int} (hl : is.length = (fiN k).length) {m : Mch} : (fieldsR (preK k is) (nrK k) (is.map V.int) = 0 → (k = "clamp" → ∃ a b, is = [a, b] ∧ (infoR m k is ↔ inB m "word" a ∧ inB m "word" b)) ∧ (k ≠ "clamp" → infoR m k is)) ∧ (fieldsR (preK k is) (nrK k) (is.map V.int) = 3 → ¬ infoR m k is) := by
  by_cases c1 : k = "clamp"
  · subst c1
    have h2 : is.length = 2 := by rw [hl]; decide +kernel
    match is, h2 with
    | [a, b], _ =>
      have e1 := preK_c a b
      have e2 : fieldsR (preK "clamp" [a, b]) (nrK "clamp") ([a, b].map V.int) = clampR a b := by
        rw [e1]
        unfold fieldsR
        rcases clampR_cases a b with e | e
        · rw [e, if_neg (by decide), if_neg (by unfold nrK; rw [if_pos rfl]; exact Bool.false_ne_true)]
        · rw [e, if_pos rfl]
      have e3 : infoR m "clamp" [a, b] ↔ (a ≤ b ∧ -W200 ≤ a ∧ b ≤ W200) ∧ inB m "word" a ∧ inB m "word" b := ⟨fun h => h rfl, fun h _ => h⟩
      have e4 : clampR a b = 0 ↔ (a ≤ b ∧ -W200 ≤ a ∧ b ≤ W200) := by
        unfold clampR
        by_cases x1 : b < a
        · rw [if_pos x1]
          exact ⟨fun h => (by cases h), fun h => (by omega)⟩
        · rw [if_neg x1]
          by_cases x2 : a < -W200 ∨ W200 < b
          · rw [if_pos x2]
            exact ⟨fun h => (by cases h), fun h => (by omega)⟩
          · rw [if_neg x2]
            exact ⟨fun _ => (by omega), fun _ => rfl⟩
      rw [e2]
      refine ⟨fun h => ⟨fun _ => ⟨a, b, rfl, ?_⟩, fun h => absurd rfl h⟩, fun h k => ?_⟩
      · rw [e3]
        exact ⟨fun h => h.2, fun k => ⟨e4.mp h, k⟩⟩
      · have := e4.mpr (e3.mp k).1
        rw [h] at this
        cases this
  · have e0 : preK k is = 0 := by
      unfold preK
      split
      · rw [if_neg c1]
      · rfl
    rw [e0]
    by_cases c2 : k = "shift"
    · subst c2
      have h1 : is.length = 1 := by rw [hl]; decide +kernel
      match is, h1 with
      | [n], _ =>
        have e2 : fieldsR 0 (nrK "shift") ([n].map V.int) = if (decide (n < 1) || decide (30 < n)) = true then 3 else 0 := by
          unfold fieldsR
          rw [if_neg (by decide)]
          have en : nrK "shift" = [(("n" : Str), some ((1 : Int), (30 : Int)))] := by
            unfold nrK
            rw [if_neg c1, if_pos rfl]
          rw [en]
          show (if ((decide (n < 1) || decide (30 < n)) || false) = true then 3 else 0) = _
          rw [Bool.or_false]
        have e3 : infoR m "shift" [n] ↔ 1 ≤ n ∧ n ≤ 30 := ⟨fun h => h rfl, fun h _ => h⟩
        rw [e2, e3]
        by_cases x : (decide (n < 1) || decide (30 < n)) = true
        · rw [if_pos x]
          refine ⟨(fun h => by cases h), fun _ h => ?_⟩
          rw [Bool.or_eq_true, decide_eq_true_eq, decide_eq_true_eq] at x
          omega
        · rw [if_neg x]
          rw [Bool.or_eq_true, decide_eq_true_eq, decide_eq_true_eq] at x
          exact ⟨fun _ => ⟨fun h => absurd h c1, fun _ => (by omega)⟩, fun h => (by cases h)⟩
    · have h0 : is = [] := by
        have : ∀ k ∈ PW, k ≠ "clamp" → k ≠ "shift" → (fiN k).length = 0 := by decide +kernel
        exact List.length_eq_zero_iff.mp (by rw [hl, this k hk c1 c2])
      subst h0
      have e2 : fieldsR 0 (nrK k) (([] : List Int).map V.int) = 0 := by
        unfold fieldsR
        rw [if_neg (by decide)]
        rw [if_neg]
        rw [List.map_nil, List.zip_nil_right]
        decide
      rw [e2]
      exact ⟨fun _ => ⟨fun h => absurd h c1, fun _ => trivial⟩, fun h => (by cases h)⟩
theorem fldsR_iff {m : Mch} {fs : List Str} {vs : List Fv} : fldsR m fs vs ↔ ∀ (j : Nat) z d, fs[j]? = some z → vs[j]? = some d → okFld m z d := by
  unfold fldsR
  constructor
  · intro h j z d a b
    exact h (z, d) (List.mem_iff_getElem?.mpr ⟨j, by rw [List.getElem?_zip_eq_some]; exact ⟨a, b⟩⟩)
  · rintro h ⟨z, d⟩ hm
    obtain ⟨j, hj⟩ := List.mem_iff_getElem?.mp hm
    rw [List.getElem?_zip_eq_some] at hj
    exact h j z d hj.1 hj.2
theorem bdN_kind (m : Mch) : bdN m "kind" = none ∧ bdN m "sources" = none ∧ bdN m "info" = none ∧ bdN m "slot" = some (0, 31) ∧ bdN m "word" = some (wlo m, whi m) := ⟨rfl, rfl, rfl, rfl, rfl⟩
theorem inB_of {m : Mch} {f : Str} {lo hi n : Int} (h : bdN m f = some (lo, hi)) : inB m f n ↔ lo ≤ n ∧ n ≤ hi := by
  unfold inB
  rw [h]
theorem bo_at {H : Hp} {m : Mch} {G : Addr} {f : Str} {lo hi : Int} (h : BoAt H m G) (e : bdN m f = some (lo, hi)) : ∃ p, DGet H G (.str f) (some (.ref p)) ∧ H p = some (.tup [.int lo, .int hi]) := by
  rcases bo_get h f with ⟨e2, _⟩ | ⟨lo', hi', p1, e2, h1, h2⟩
  · rw [e] at e2; cases e2
  · rw [e] at e2; cases e2; exact ⟨p1, h1, h2⟩
/-! ### _check_range -/
def spCR (K : PySem.W.Frag) (C : Nat → Addr) : Sp := fun vs H Q E => ∃ (p G : Addr) (m : Mch) (x : Ins), vs = [.ref p, .ref G] ∧ InAt H (.ref p) x ∧ InOk x ∧ okForm x = true ∧ Sml x ∧ m.w ≤ 256 ∧ BoAt H m G ∧ ∀ H', Same H H' → (okR m x → Q .non H') ∧ (¬ okR m x → Bad C E H')
abbrev nCR : List Str := ["instruction", "bounds", "name", "field", "value", "_", "kind", "sources", "info", "source", "start", "step", "count"]
theorem scCR : FnScope nCR ["instruction", "bounds"] (defScope s_check_range) := ⟨rfl, rfl, rfl, by decide +kernel, rfl, by decide +kernel, by decide +kernel⟩
theorem ok_cr {f : Addr} {C : Nat → Addr} {fd : FuncData} (F : Fun K "_check_range" "_check_range" s_check_range f fd) (T : TxtT mg) (X : Tab K w mg aP aA aF aN es nn) (Y : TabR K w aR) (cCN : Calls P w K mg base (L2.CX P w) 1 "_check_number" ["n", "bounds"] (spCN K C)) (cCFd : Calls P w K mg base (L2.CX P w) 2 "check_fields" ["kind", "info"] (spFields K w C aF aR)) : FnOk P w K mg base (L2.CX P w) 3 f fd ["instruction", "bounds"] (spCR K C) := by
  obtain ⟨fCN, dCN, GCN, kCN, bCN, gCN⟩ := cCN.ex
  obtain ⟨fCFd, dCFd, GCFd, kCFd, bCFd, gCFd⟩ := cCFd.ex
  refine F.okX scCR (fun vs H Q E h => ?_) (fun cdv A outer s H vs Q E hr2 h => ?_)
  · obtain ⟨_, _, _, _, rfl, _⟩ := h
    rfl
  · obtain ⟨p, G, m, x, rfl, hx, hok, hof, hsm, hmw, hG, q⟩ := h
    have hr1 : Room 1 _ := hr2.mono (by decide)
    have hxa := hx
    obtain ⟨p', vx, e, hp, hv⟩ := hx
    cases e
    refine ⟨_, (pss_cons (ps_set (i := 2) scCR.nd rfl (.inl rfl) (pe_ix ix_tup (pv 0) pe_int (fun _ _ => rfl)))
      (pss_cons (ps_for (passes_of rfl) rfl (RZ.pi_zipA (by rfl) T.zip (pa_cons (pe_ix ix_kdict (pe_glob (v := (.ref aN)) (by rfl) X.gN rfl) (pv 2) (fun _ _ => rfl)) (pa_cons (pe_slice sl_tup (pv 0) (po_some pe_int) po_none) pa_nil))) (pg_tup rfl (pgs_cons (pg_name (i := 3) scCR.nd rfl (.inl rfl)) (pgs_cons (pg_name (i := 4) scCR.nd rfl (.inl rfl)) pgs_nil))) (pss_one (ps_if (pt_cmp (pc_din (Nat.lt_of_le_of_lt (Nat.add_le_add_left (by decide) _) hr2.units) (pv 3) (pv 1))) (pss_one (ps_expr (pe_callS GCN hr1 (by rfl) gCN kCN bCN (fun σ => passAt (takes_of rfl rfl rfl rfl) σ) (pa_cons (pv 4) (pa_cons (pe_dget (Nat.lt_of_le_of_lt (Nat.add_le_add_left (by decide) _) hr2.units) (pv 1) (pv 3) (fun _ _ => rfl)) pa_nil))))) pss_nil)))
      (pss_cons (ps_if (pt_cmpR op_eq (pv 2) pe_str (nomark _)) (pss_cons (ps_asg (pv 0) (pg_tup rfl (pgs_cons (pg_name (i := 5) scCR.nd rfl (.inl rfl)) (pgs_cons (pg_name (i := 6) scCR.nd rfl (.inl rfl)) (pgs_cons (pg_name (i := 5) scCR.nd rfl (.inl rfl)) (pgs_cons (pg_name (i := 7) scCR.nd rfl (.inl rfl)) (pgs_cons (pg_name (i := 8) scCR.nd rfl (.inl rfl)) pgs_nil)))))))
      (pss_cons (ps_for (passes_of rfl) rfl (pi_tup (pv 7)) (pg_name (i := 9) scCR.nd rfl (.inl rfl)) (pss_one (ps_expr (pe_callS GCN hr1 (by rfl) gCN kCN bCN (fun σ => passAt (takes_of rfl rfl rfl rfl) σ) (pa_cons (pv 9) (pa_cons (pe_dget (Nat.lt_of_le_of_lt (Nat.add_le_add_left (by decide) _) hr2.units) (pv 1) pe_str (fun _ _ => rfl)) pa_nil))))))
      (pss_cons (ps_expr (pe_callS GCFd hr2 (by rfl) gCFd kCFd bCFd (fun σ => passAt (takes_of rfl rfl rfl rfl) σ) (pa_cons (pv 6) (pa_cons (pv 8) pa_nil))))
      (pss_one (ps_if (pt_cmpR op_eq (pv 6) pe_str (nomark _)) (pss_cons (ps_expr (pe_callS GCN hr1 (by rfl) gCN kCN bCN (fun σ => passAt (takes_of rfl rfl rfl rfl) σ) (pa_cons (pe_ix ix_tup (pv 8) pe_int (fun _ _ => rfl)) (pa_cons (pe_dget (Nat.lt_of_le_of_lt (Nat.add_le_add_left (by decide) _) hr2.units) (pv 1) pe_str (fun _ _ => rfl)) pa_nil))))
      (pss_one (ps_expr (pe_callS GCN hr1 (by rfl) gCN kCN bCN (fun σ => passAt (takes_of rfl rfl rfl rfl) σ) (pa_cons (pe_ix ix_tup (pv 8) pe_int (fun _ _ => rfl)) (pa_cons (pe_dget (Nat.lt_of_le_of_lt (Nat.add_le_add_left (by decide) _) hr2.units) (pv 1) pe_str (fun _ _ => rfl)) pa_nil)))))) pss_nil))))) pss_nil)
      (pss_one (ps_if (pt_cmpR op_eq (pv 2) pe_str (nomark _)) (pss_cons (ps_asg (pv 0) (pg_tup rfl (pgs_cons (pg_name (i := 5) scCR.nd rfl (.inl rfl)) (pgs_cons (pg_name (i := 5) scCR.nd rfl (.inl rfl)) (pgs_cons (pg_name (i := 10) scCR.nd rfl (.inl rfl)) (pgs_cons (pg_name (i := 11) scCR.nd rfl (.inl rfl)) (pgs_cons (pg_name (i := 12) scCR.nd rfl (.inl rfl)) pgs_nil)))))))
      (pss_cons (ps_expr (pe_callS GCN hr1 (by rfl) gCN kCN bCN (fun σ => passAt (takes_of rfl rfl rfl rfl) σ) (pa_cons (pv 10) (pa_cons (pe_dget (Nat.lt_of_le_of_lt (Nat.add_le_add_left (by decide) _) hr2.units) (pv 1) pe_str (fun _ _ => rfl)) pa_nil))))
      (pss_one (ps_expr (pe_callS GCN hr1 (by rfl) gCN kCN bCN (fun σ => passAt (takes_of rfl rfl rfl rfl) σ) (pa_cons (pe_op op_add (pv 10) (pe_op op_mulW (pv 11) (pe_op op_sub (pv 12) pe_int))) (pa_cons (pe_dget (Nat.lt_of_le_of_lt (Nat.add_le_add_left (by decide) _) hr2.units) (pv 1) pe_str (fun _ _ => rfl)) pa_nil))))))) pss_nil))))), ?_⟩
    have hxl : vx.length = (fldN x.nm).length := by rw [hv.len, hok.ty.len]
    obtain ⟨⟨pf, hpf, hpfS⟩, uF, huF⟩ := X.n x.nm hok.nm
    refine ⟨_, rfl, p, _, 0, _, rfl, rfl, SqT.of hp, i0, ?_⟩
    obtain ⟨bk1, bk2, bk3, bk4, bk5⟩ := bdN_kind m
    refine ⟨_, rfl, aN, x.nm, .ref pf, rfl, rfl, hpf, _, rfl, 1, rfl, p, _, rfl, SqT.of hp, fun z => notall z.1, fun S nS => ?_⟩
    have hcut : cutV (V.str x.nm :: vx) (some 1) none = vx := cutV_from _ 1
    have sS := same_upd (o := .tup (cutV (V.str x.nm :: vx) (some 1) none)) nS
    have hS : (upd H S (.tup (cutV (V.str x.nm :: vx) (some 1) none))) S = some (.tup vx) := by rw [upd_same, hcut]
    generalize upd H S (.tup (cutV (V.str x.nm :: vx) (some 1) none)) = H1 at sS hS
    refine ⟨pf, S, _, _, rfl, .inr ⟨hpfS _, SqT.of hS, RZ.for_zipT (K := K) (a := pf) (b := S) (xs := (fldN x.nm).map V.str) (ys := vx) (by rw [List.length_map, hxl])
      (fun i σ H' => ∃ (v3 v4 : Option V), σ = [some (.ref p), some (.ref G), some (.str x.nm), v3, v4, none, none, none, none, none, none, none, none] ∧ Same H1 H' ∧ ∀ (j : Nat) z d, j < i → (fldN x.nm)[j]? = some z → x.fs[j]? = some d → okFld m z d) ⟨none, none, rfl, Same.refl H1, fun j _ _ h => absurd h (Nat.not_lt_zero j)⟩ ?_ ?_ ?_⟩⟩
    · rintro i σ H' ⟨v3, v4, _, sm, _⟩
      exact ⟨hpfS _, sqT_same (SqT.of hS) sm⟩
    · rintro i u v T' σ H' h1 h2 ⟨v3, v4, rfl, sm, hin⟩ nT
      rw [List.getElem?_map] at h1
      obtain ⟨z, hz, rfl⟩ := Option.map_eq_some_iff.mp h1
      have hi : i < x.fs.length := by
        have := (List.getElem?_eq_some_iff.mp hz).1
        have := hok.ty.len
        omega
      have hd : x.fs[i]? = some x.fs[i] := List.getElem?_eq_getElem hi
      generalize x.fs[i] = d at hd
      have sT := same_upd (o := .tup [V.str z, v]) nT
      have sH := (sS.trans sm).trans sT
      have hdv := ((hv.keep (Same.nl sH))).at h2 hd
      have hk := hok.ty.at hz hd
      have next : okFld m z d → ∀ (j : Nat) z d, j < i + 1 → (fldN x.nm)[j]? = some z → x.fs[j]? = some d → okFld m z d := fun ho j z' d' hj a b => by
        by_cases e : j = i
        · subst e
          rw [hz] at a
          rw [hd] at b
          cases a
          cases b
          exact ho
        · exact hin j z' d' (by omega) a b
      have bad : ¬ okFld m z d → ¬ okR m x := fun ho h => ho (fldsR_iff.mp h.1 i z d hz hd)
      refine ⟨T', _, rfl, SqT.of upd_same, rfl, _, _, rfl, _, _, rfl, rfl, ?_⟩
      rcases bo_get (hG.same sH) z with ⟨e, hd1⟩ | ⟨lo, hi', p1, e, hd1, hp1⟩
      · refine ⟨_, rfl, _, rfl, G, none, rfl, hd1, _, rfl, iteF ⟨_, _, rfl, sm.trans sT, next ?_⟩⟩
        cases d with
        | int n => show inB m z n; unfold inB; rw [e]; trivial
        | str _ => exact trivial
        | tup _ => exact trivial
      · have hzk : z ≠ "kind" ∧ z ≠ "sources" ∧ z ≠ "info" := ⟨fun h => (by rw [h, bk1] at e; cases e), fun h => (by rw [h, bk2] at e; cases e), fun h => (by rw [h, bk3] at e; cases e)⟩
        obtain ⟨n, rfl⟩ := knd_nf hzk hk
        have hdv : v = .int n := hdv
        subst hdv
        have hin2 : okFld m z (.int n) ↔ lo ≤ n ∧ n ≤ hi' := inB_of e
        refine ⟨_, rfl, _, rfl, G, some (.ref p1), rfl, hd1, _, rfl, iteT ⟨_, rfl, _, rfl, _, rfl, G, .ref p1, rfl, hd1, n, lo, hi', p1, rfl, SqT.of hp1, fun ho => ?_, fun hb => (q _ sH).2 (bad fun h => hb (hin2.mp h))⟩⟩
        exact ⟨_, _, rfl, sm.trans sT, next (hin2.mpr ho)⟩
    · rintro σ H2 ⟨v3, v4, rfl, sm, hin⟩
      have s0 := sS.trans sm
      have hfl : fldsR m (fldN x.nm) x.fs := fldsR_iff.mpr fun j z d a b => hin j z d (by rw [List.length_map]; exact (List.getElem?_eq_some_iff.mp a).1) a b
      have hp' := s0 _ _ hp
      refine ⟨_, rfl, rfl, _, rfl, ?_⟩
      have hGs := hG.same s0
      have nld : ("do" : Str) ≠ "loop" := by decide +kernel
      by_cases c1 : x.nm = "do"
      · rw [decide_eq_true (show V.str x.nm = V.str "do" by rw [c1])]
        obtain ⟨k, a, ss, is, hfs, hk⟩ := in_do hok c1
        have hd : doOk x.fs = true := by
          unfold okForm at hof
          rw [if_pos c1, Bool.and_eq_true] at hof
          exact hof.1
        have hd2 : doOk x.fs = (decide (ss.length = acN k) && decide (is.length = (fiN k).length)) := by rw [hfs]; rfl
        rw [hd2, Bool.and_eq_true] at hd
        have hil : is.length = (fiN k).length := of_decide_eq_true hd.2
        have hdo : okR m x ↔ (∀ s ∈ ss, inB m "slot" s) ∧ infoR m k is := by
          constructor
          · intro h
            have := h.2.1 c1
            rw [hfs] at this
            exact this
          · intro h
            refine ⟨hfl, fun _ => by rw [hfs]; exact h, fun e => absurd (c1.symm.trans e) nld⟩
        have hv' := hv
        rw [hfs] at hv'
        obtain ⟨u1, r1, rfl, k1, hv1⟩ := hv'.unc
        obtain ⟨u2, r2, rfl, k2, hv2⟩ := hv1.unc
        obtain ⟨u3, r3, rfl, k3, hv3⟩ := hv2.unc
        obtain ⟨u4, r4, rfl, k4, hv4⟩ := hv3.unc
        have e5 := hv4.unn
        subst e5
        have k1 : u1 = .str k := k1
        subst k1
        obtain ⟨a3, rfl, ha3⟩ := k3
        obtain ⟨a4, rfl, ha4⟩ := k4
        have ha3' := s0 _ _ ha3
        have ha4' := s0 _ _ ha4
        refine iteT ⟨_, rfl, p, _, rfl, SqT.of hp', rfl, _, _, rfl, _, _, rfl, _, _, rfl, _, _, rfl, _, _, rfl, rfl, ?_⟩
        refine ⟨_, rfl, a3, rfl, ⟨_, SqT.of ha3'⟩, for_tup (K := K) (a := a3) (xs := ss.map V.int) (fun i σ H' => ∃ (v9 : Option V), σ = [some (.ref p), some (.ref G), some (.str x.nm), v3, v4, some u2, some (.str k), some (.ref a3), some (.ref a4), v9, none, none, none] ∧ H' = H2 ∧ ∀ s ∈ ss.take i, inB m "slot" s)
          ⟨_, rfl, rfl, fun _ h => (nomatch h)⟩ (fun i σ H' _ ⟨_, _, e, _⟩ => by rw [e]; exact SqT.of ha3') ?_ ?_⟩
        · rintro i y σ H' hi ⟨v9, rfl, rfl, hin⟩
          obtain ⟨n, rfl, g1⟩ := map_int_at hi
          obtain ⟨p1, hd1, hp1⟩ := bo_at hGs bk4
          have hin2 := inB_of (n := n) bk4
          refine ⟨_, rfl, _, rfl, G, .ref p1, rfl, hd1, n, 0, 31, p1, rfl, SqT.of hp1, fun ho => ⟨_, rfl, rfl, fun s hs => ?_⟩, fun hb => (q _ s0).2 fun h => hb (hin2.mp ((hdo.mp h).1 n (List.mem_of_getElem? g1)))⟩
          rw [take_snoc g1] at hs
          rcases List.mem_append.mp hs with hs | hs
          · exact hin s hs
          · rw [List.mem_singleton.mp hs]
            exact hin2.mpr ho
        · rintro σ H' ⟨v9, rfl, rfl, hin⟩
          rw [List.length_map, List.take_length] at hin
          have hfi := fieldsR_info (m := m) hk hil
          refine ⟨_, rfl, _, rfl, k, a4, is.map V.int, nrK k, preK k is, rfl, SqT.of ha4', fldK_of X Y hk hil, fun H3 s3 => ⟨fun e0 => ?_, fun e3 => ((q _ (s0.trans s3)).2 fun h => hfi.2 e3 (hdo.mp h).2).1⟩⟩
          have s03 := s0.trans s3
          have hG3 := hG.same s03
          have ha4'' := s03 _ _ ha4
          have hr := hfi.1 e0
          refine ⟨_, rfl, rfl, _, rfl, ?_⟩
          obtain ⟨pW, dW, hpW⟩ := bo_at hG3 bk5
          have hdl : x.nm ≠ "loop" := fun e => nld (c1.symm.trans e)
          by_cases e2 : k = "clamp"
          · rw [decide_eq_true (show V.str k = V.str "clamp" by rw [e2])]
            obtain ⟨a, b, rfl, hiff⟩ := hr.1 e2
            have ia := inB_of (n := a) bk5
            have ib := inB_of (n := b) bk5
            have bad : ¬ (inB m "word" a ∧ inB m "word" b) → Bad C E H3 := fun hn => (q _ s03).2 fun h => hn (hiff.mp (hdo.mp h).2)
            refine iteT ⟨_, rfl, a4, _, 0, _, rfl, rfl, SqT.of ha4'', i0, _, rfl, G, .ref pW, rfl, dW, a, wlo m, whi m, pW, rfl, SqT.of hpW, fun ho1 => ?_, fun hb => bad fun h => hb (ia.mp h.1)⟩
            refine ⟨_, rfl, a4, _, 1, _, rfl, rfl, SqT.of ha4'', i1, _, rfl, G, .ref pW, rfl, dW, b, wlo m, whi m, pW, rfl, SqT.of hpW, fun ho2 => ?_, fun hb => bad fun h => hb (ib.mp h.2)⟩
            refine ⟨_, rfl, rfl, _, rfl, ?_⟩
            rw [str_ne hdl]
            exact iteF ((q _ s03).1 (hdo.mpr ⟨hin, hiff.mpr ⟨ia.mpr ho1, ib.mpr ho2⟩⟩))
          · rw [str_ne e2]
            refine iteF ⟨_, rfl, rfl, _, rfl, ?_⟩
            rw [str_ne hdl]
            exact iteF ((q _ s03).1 (hdo.mpr ⟨hin, hr.2 e2⟩))
      rw [str_ne c1]
      refine iteF ⟨_, rfl, rfl, _, rfl, ?_⟩
      by_cases c2 : x.nm = "loop"
      · rw [decide_eq_true (show V.str x.nm = V.str "loop" by rw [c2])]
        obtain ⟨fa, fb, fc, fd', hfs⟩ := in_loop hok c2
        have hv' := hv
        rw [hfs] at hv'
        obtain ⟨u1, r1, rfl, k1, hv1⟩ := hv'.unc
        obtain ⟨u2, r2, rfl, k2, hv2⟩ := hv1.unc
        obtain ⟨u3, r3, rfl, k3, hv3⟩ := hv2.unc
        obtain ⟨u4, r4, rfl, k4, hv4⟩ := hv3.unc
        have e5 := hv4.unn
        subst e5
        have k1 : u1 = .int fa := k1
        have k2 : u2 = .int fb := k2
        have k3 : u3 = .int fc := k3
        have k4 : u4 = .int fd' := k4
        subst k1 k2 k3 k4
        have hnm : fldN x.nm = (["slot", "begin", "begin", "turns"] : List Str) := by rw [c2]; decide +kernel
        have hlo : okR m x ↔ inB m "word" fb ∧ inB m "word" (fb + fc * (fd' - 1)) := by
          constructor
          · intro h
            have := h.2.2 c2
            rw [hfs] at this
            exact this
          · intro h
            exact ⟨hfl, fun e => absurd e c1, fun _ => by rw [hfs]; exact h⟩
        have gc : inB m "begin" fc := by
          have := fldsR_iff.mp hfl 2 "begin" (.int fc) (by rw [hnm]; rfl) (by rw [hfs]; rfl)
          exact this
        have gd : inB m "turns" fd' := by
          have := fldsR_iff.mp hfl 3 "turns" (.int fd') (by rw [hnm]; rfl) (by rw [hfs]; rfl)
          exact this
        have gc : -(1 * 2 ^ m.w.toNat) ≤ fc ∧ fc ≤ 1 * 2 ^ m.w.toNat := gc
        have gd : 1 ≤ fd' ∧ fd' ≤ 1000 := gd
        have hpw : (2 : Int) ^ m.w.toNat ≤ 2 ^ 256 := by
          have h1 : (2 : Nat) ^ m.w.toNat ≤ 2 ^ 256 := Nat.pow_le_pow_right (by decide) (by omega)
          exact_mod_cast h1
        have cmw : CMulW fc (fd' - 1) := by
          refine wide_mul (a := 257) (b := 10) ?_ (by omega) (by decide) (by decide) (by decide)
          have e1 : (2 : Int) ^ 256 < 2 ^ 257 := by decide +kernel
          have e2 : ((2 ^ 257 : Nat) : Int) = 2 ^ 257 := by decide +kernel
          generalize (2 : Int) ^ m.w.toNat = A at *
          generalize (2 : Nat) ^ 257 = B at *
          omega
        obtain ⟨pW, dW, hpW⟩ := bo_at hGs bk5
        have ib := inB_of (n := fb) bk5
        have ic := inB_of (n := fb + fc * (fd' - 1)) bk5
        have bad : ¬ (inB m "word" fb ∧ inB m "word" (fb + fc * (fd' - 1))) → Bad C E H2 := fun hn => (q _ s0).2 fun h => hn (hlo.mp h)
        refine iteT ⟨_, rfl, p, _, rfl, SqT.of hp', rfl, _, _, rfl, _, _, rfl, _, _, rfl, _, _, rfl, _, _, rfl, rfl, ?_⟩
        refine ⟨_, rfl, _, rfl, G, .ref pW, rfl, dW, fb, wlo m, whi m, pW, rfl, SqT.of hpW, fun ho1 => ?_, fun hb => bad fun h => hb (ib.mp h.1)⟩
        refine ⟨_, rfl, _, rfl, _, rfl, _, _, rfl, rfl, _, _, rfl, rfl, cmw, _, _, rfl, rfl, _, rfl, G, .ref pW, rfl, dW, _, wlo m, whi m, pW, rfl, SqT.of hpW, fun ho2 => ?_, fun hb => bad fun h => hb (ic.mp h.2)⟩
        exact (q _ s0).1 (hlo.mpr ⟨ib.mpr ho1, ic.mpr ho2⟩)
      · rw [str_ne c2]
        exact iteF ((q _ s0).1 ⟨hfl, fun e => absurd e c1, fun e => absurd e c2⟩)
end
/-! ### dicts whose keys are nested tuples -/
def rawD (P : Program) (w : World) (a : Addr) (xs : List (NestedKey × Addr × Value)) (h : Heap) : Prop :=
  (a == sysModules) = false ∧ ∃ o es ep, h.get? a = some o ∧ o.ExactDict ∧ o.data = Data.dict es ep ∧ es.toList = xs.map (entryOfKey (nestedKind P w)) ∧ (xs.map (·.1)).Nodup
theorem raw_ok {P : Program} {w : World} {H : Hp} {h : Heap} {a : Addr} {xs : List (NestedKey × Addr × Value)} (r : rawD P w a xs h) : ObjOk P w H h a (.ext (rawD P w a xs)) := by
  obtain ⟨l, o, es, ep, h1, h2⟩ := id r
  exact ⟨r, ⟨o, h1⟩, fun k1 k2 ⟨l, o, es, ep, h1, h2⟩ k => ⟨l, o, es, ep, k o h1, h2⟩⟩
theorem pe_dnewN {X : Cx} {pos : Pos} : PE X (Expr.Dict [] [] pos) (fun σ H Q => ∀ p, H p = none → Q (.ref p) (upd H p (.ext (rawD X.prog X.w p [])))) := ⟨fun pins s σ H Q I h => by
  have hb := Inv.big I
  refine wpAny_Dict_empty ⟨.ref s.heap.objs.size, upd H s.heap.objs.size (.ext (rawD X.prog X.w s.heap.objs.size [])), Inv.laid I (fun x x_1 q => Heap.get?_push_of_some _ q) (Nat.le_refl _) (raw_ok ⟨?_, _, _, _, Heap.get?_push_size s.heap rfl, ⟨rfl, rfl, rfl⟩, rfl, rfl, List.nodup_nil⟩), rfl, h _ (HOk.fresh I.hok (Nat.le_refl _))⟩
  exact beq_eq_false_iff_ne.mpr (Nat.ne_of_gt hb)⟩
mutual
def keyD : PyData → NestedKey
  | .int i => .num i
  | .str x => .text x
  | .tuple ds => .tup (keyDs ds)
  | _ => .none
def keyDs : List PyData → List NestedKey
  | [] => []
  | d :: ds => keyD d :: keyDs ds
end
mutual
def plainD : PyData → Bool
  | .int _ => true
  | .str _ => true
  | .tuple ds => plainDs ds
  | _ => false
def plainDs : List PyData → Bool
  | [] => true
  | d :: ds => plainD d && plainDs ds
end
mutual
theorem keyD_inj : ∀ {d e : PyData}, plainD d = true → plainD e = true → keyD d = keyD e → d = e
  | .int i, .int j, _, _, h => by simp only [keyD, NestedKey.num.injEq] at h; rw [h]
  | .str i, .str j, _, _, h => by simp only [keyD, NestedKey.text.injEq] at h; rw [h]
  | .tuple ds, .tuple es, hd, he, h => by
    simp only [keyD, NestedKey.tup.injEq] at h
    simp only [plainD] at hd he
    rw [keyDs_inj hd he h]
  | .int _, .str _, _, _, h => by simp [keyD] at h
  | .int _, .tuple _, _, _, h => by simp [keyD] at h
  | .str _, .int _, _, _, h => by simp [keyD] at h
  | .str _, .tuple _, _, _, h => by simp [keyD] at h
  | .tuple _, .int _, _, _, h => by simp [keyD] at h
  | .tuple _, .str _, _, _, h => by simp [keyD] at h
  | .none, _, h, _, _ => by simp [plainD] at h
  | .bool _, _, h, _, _ => by simp [plainD] at h
  | .list _, _, h, _, _ => by simp [plainD] at h
  | .dict _, _, h, _, _ => by simp [plainD] at h
  | .int _, .none, _, h, _ => by simp [plainD] at h
  | .int _, .bool _, _, h, _ => by simp [plainD] at h
  | .int _, .list _, _, h, _ => by simp [plainD] at h
  | .int _, .dict _, _, h, _ => by simp [plainD] at h
  | .str _, .none, _, h, _ => by simp [plainD] at h
  | .str _, .bool _, _, h, _ => by simp [plainD] at h
  | .str _, .list _, _, h, _ => by simp [plainD] at h
  | .str _, .dict _, _, h, _ => by simp [plainD] at h
  | .tuple _, .none, _, h, _ => by simp [plainD] at h
  | .tuple _, .bool _, _, h, _ => by simp [plainD] at h
  | .tuple _, .list _, _, h, _ => by simp [plainD] at h
  | .tuple _, .dict _, _, h, _ => by simp [plainD] at h
theorem keyDs_inj : ∀ {ds es : List PyData}, plainDs ds = true → plainDs es = true → keyDs ds = keyDs es → ds = es
  | [], [], _, _, _ => rfl
  | d :: ds, e :: es, hd, he, h => by
    simp only [plainDs, Bool.and_eq_true] at hd he
    simp only [keyDs, List.cons.injEq] at h
    rw [keyD_inj hd.1 he.1 h.1, keyDs_inj hd.2 he.2 h.2]
  | [], _ :: _, _, _, h => by simp [keyDs] at h
  | _ :: _, [], _, _, h => by simp [keyDs] at h
end
mutual
theorem nkD {X : Cx} {pins : List (Addr × Obj)} {σ : St} {H : Hp} {s : Shared} (I : Inv X pins σ H s) : ∀ {d : PyData} {v : V} {u : Value}, Dp X.K H v d → plainD d = true → RelV v u → NestedIs s.heap (keyD d) u
  | .int i, v, u, h, _, r => by
    cases h
    obtain ⟨t, rfl⟩ := r
    simp only [keyD]
    exact .int i t
  | .str i, v, u, h, _, r => by
    cases h
    obtain ⟨t, rfl⟩ := r
    simp only [keyD]
    exact .text i t
  | .tuple ds, v, u, h, hp, r => by
    cases h with
    | tup hq ha =>
      cases r
      simp only [plainD] at hp
      obtain ⟨its, rv, ⟨o, h1, h2, n, h3⟩, _⟩ := I.tuple hq
      simp only [keyD]
      exact .tup h1 h2 h3 (nkDs I ha hp rv)
  | .none, _, _, _, h, _ => by simp [plainD] at h
  | .bool _, _, _, _, h, _ => by simp [plainD] at h
  | .list _, _, _, _, h, _ => by simp [plainD] at h
  | .dict _, _, _, _, h, _ => by simp [plainD] at h
theorem nkDs {X : Cx} {pins : List (Addr × Obj)} {σ : St} {H : Hp} {s : Shared} (I : Inv X pins σ H s) : ∀ {ds : List PyData} {vs : List V} {us : List Value}, DpAll X.K H vs ds → plainDs ds = true → Vals vs us → NestedAll s.heap (keyDs ds) us
  | [], vs, us, h, _, r => by
    cases h
    cases r
    simp only [keyDs]
    exact .nil
  | d :: ds, vs, us, h, hp, r => by
    cases h with
    | cons h1 h2 =>
      cases r with
      | cons r1 r2 =>
        simp only [plainDs, Bool.and_eq_true] at hp
        simp only [keyDs]
        exact .cons (nkD I h1 hp.1 r1) (nkDs I h2 hp.2 r2)
end
/-- tuples are kept -/
def KeepT (K : PySem.W.Frag) (H H' : Hp) : Prop := ∀ a xs, SqT K H a xs → SqT K H' a xs
theorem KeepT.trans {K : PySem.W.Frag} {H H1 H2 : Hp} (a : KeepT K H H1) (b : KeepT K H1 H2) : KeepT K H H2 := fun p xs h => b p xs (a p xs h)
mutual
theorem dp_kt {K : PySem.W.Frag} {H H' : Hp} (k : KeepT K H H') : ∀ {d : PyData} {v : V}, Dp K H v d → plainD d = true → Dp K H' v d
  | .int i, v, h, _ => by
    cases h
    exact .int i
  | .str i, v, h, _ => by
    cases h
    exact .str i
  | .tuple ds, v, h, hp => by
    cases h with
    | tup hq ha =>
      simp only [plainD] at hp
      exact .tup (k _ _ hq) (dps_kt k ha hp)
  | .none, _, _, h => by simp [plainD] at h
  | .bool _, _, _, h => by simp [plainD] at h
  | .list _, _, _, h => by simp [plainD] at h
  | .dict _, _, _, h => by simp [plainD] at h
theorem dps_kt {K : PySem.W.Frag} {H H' : Hp} (k : KeepT K H H') : ∀ {ds : List PyData} {vs : List V}, DpAll K H vs ds → plainDs ds = true → DpAll K H' vs ds
  | [], vs, h, _ => by
    cases h
    exact .nil
  | d :: ds, vs, h, hp => by
    cases h with
    | cons h1 h2 =>
      simp only [plainDs, Bool.and_eq_true] at hp
      exact .cons (dp_kt k h1 hp.1) (dps_kt k h2 hp.2)
end
def DNs (K : PySem.W.Frag) (H : Hp) : List (NestedKey × Addr × Value) → List PyData → Prop
  | [], [] => True
  | x :: xs, p :: ps => (x.1 = keyD p ∧ plainD p = true ∧ (keyD p).depth ≤ 8 ∧ Dp K H (.ref x.2.1) p) ∧ DNs K H xs ps
  | _, _ => False
/-- a dict whose keys are these nested tuples, whatever its values -/
def DN (P : Program) (w : World) (K : PySem.W.Frag) (H : Hp) (G : Addr) (ks : List PyData) : Prop := ∃ xs, H G = some (.ext (rawD P w G xs)) ∧ DNs K H xs ks
theorem DNs.kt {K : PySem.W.Frag} {H H' : Hp} (k : KeepT K H H') : ∀ {xs : List (NestedKey × Addr × Value)} {ks : List PyData}, DNs K H xs ks → DNs K H' xs ks
  | [], [], h => h
  | x :: xs, p :: ps, h => ⟨⟨h.1.1, h.1.2.1, h.1.2.2.1, dp_kt k h.1.2.2.2 h.1.2.1⟩, DNs.kt k h.2⟩
  | [], _ :: _, h => h.elim
  | _ :: _, [], h => h.elim
theorem DN.kt {P : Program} {w : World} {K : PySem.W.Frag} {H H' : Hp} {G : Addr} {ks : List PyData} (k : KeepT K H H') (e : ∀ o, H G = some o → H' G = some o) : DN P w K H G ks → DN P w K H' G ks
  | ⟨xs, h1, h2⟩ => ⟨xs, e _ h1, h2.kt k⟩
theorem DNs.len {K : PySem.W.Frag} {H : Hp} : ∀ {xs : List (NestedKey × Addr × Value)} {ks : List PyData}, DNs K H xs ks → xs.length = ks.length
  | [], [], _ => rfl
  | x :: xs, p :: ps, h => by rw [List.length_cons, List.length_cons, DNs.len h.2]
  | [], _ :: _, h => h.elim
  | _ :: _, [], h => h.elim
def hasN (ks : List PyData) (d : PyData) : Bool := ks.any fun p => decide (keyD p = keyD d)
theorem look_at {K : PySem.W.Frag} {H : Hp} {d : PyData} : ∀ {xs : List (NestedKey × Addr × Value)} {ks : List PyData}, DNs K H xs ks → hasN ks d = (atKey xs (keyD d)).isSome
  | [], [], _ => rfl
  | x :: xs, p :: ps, h => by
    obtain ⟨⟨h1, _⟩, h3⟩ := h
    unfold hasN atKey
    rw [List.any_cons]
    by_cases e : keyD p = keyD d
    · rw [List.find?_cons_of_pos (by rw [h1]; exact decide_eq_true e), decide_eq_true e]
      rfl
    · rw [List.find?_cons_of_neg (by rw [h1, decide_eq_false e]; exact Bool.false_ne_true), decide_eq_false e, Bool.false_or]
      exact look_at h3
  | [], _ :: _, h => h.elim
  | _ :: _, [], h => h.elim
theorem DNs.append {K : PySem.W.Frag} {H : Hp} : ∀ {xs : List (NestedKey × Addr × Value)} {ks : List PyData} {ys : List (NestedKey × Addr × Value)} {ls : List PyData}, DNs K H xs ks → DNs K H ys ls → DNs K H (xs ++ ys) (ks ++ ls)
  | [], [], _, _, _, h => h
  | x :: xs, p :: ps, _, _, h, h' => ⟨h.1, DNs.append h.2 h'⟩
  | [], _ :: _, _, _, h, _ => h.elim
  | _ :: _, [], _, _, h, _ => h.elim
theorem DNs.put {K : PySem.W.Frag} {H : Hp} {k : NestedKey} {v : Value} : ∀ {xs : List (NestedKey × Addr × Value)} {ks : List PyData}, DNs K H xs ks → DNs K H (xs.map (putAt k v)) ks
  | [], [], h => h
  | x :: xs, p :: ps, h => by
    obtain ⟨h1, h6⟩ := h
    refine ⟨?_, DNs.put h6⟩
    unfold putAt
    split
    · exact h1
    · exact h1
  | [], _ :: _, h => h.elim
  | _ :: _, [], h => h.elim
theorem DNs.is {X : Cx} {pins : List (Addr × Obj)} {σ : St} {H : Hp} {s : Shared} (I : Inv X pins σ H s) : ∀ {xs : List (NestedKey × Addr × Value)} {ks : List PyData}, DNs X.K H xs ks → ∀ x ∈ xs, (nestedKind X.prog X.w).is s.heap x.1 x.2.1
  | [], [], _, x, h => absurd h (List.not_mem_nil)
  | y :: ys, p :: ps, h, x, hx => by
    rcases List.mem_cons.mp hx with rfl | hx
    · obtain ⟨⟨h1, h2, h3, h4⟩, _⟩ := h
      rw [h1]
      exact ⟨nkD I h4 h2 rfl, h3⟩
    · exact DNs.is I h.2 x hx
  | [], _ :: _, h, _, _ => h.elim
  | _ :: _, [], h, _, _ => h.elim
theorem DN.at {X : Cx} {pins : List (Addr × Obj)} {σ : St} {H : Hp} {s : Shared} (I : Inv X pins σ H s) {G : Addr} {xs : List (NestedKey × Addr × Value)} {ks : List PyData} (hG : H G = some (.ext (rawD X.prog X.w G xs))) (h : DNs X.K H xs ks) :
    (G == sysModules) = false ∧ Heap.DictOfH (nestedKind X.prog X.w) s.heap G xs := by
  obtain ⟨⟨l, o, es, ep, h1, h2, h3, h4, h5⟩, _⟩ := I.hok G _ hG
  exact ⟨l, o, es, ep, h1, h2, h3, h4, h.is I, h5⟩
theorem op_notInK {X : Cx} (hu : X.A.units + 64 < cLine) : OpR X (compareOp .NotIn) (fun x y H Q => ∃ (a G : Addr) (d : PyData) (ks : List PyData), x = .ref a ∧ y = .ref G ∧ Dp X.K H (.ref a) d ∧ plainD d = true ∧ (keyD d).depth ≤ 8 ∧ DN X.prog X.w X.K H G ks ∧ Q (.bl (!hasN ks d)) H) := fun pins s σ H x y v u Q I rx ry h => by
  obtain ⟨a, G, d, ks, rfl, rfl, h1, h2, h3, ⟨xs, hG, hx⟩, q⟩ := h
  cases rx
  cases ry
  obtain ⟨l, dd⟩ := DN.at I hG hx
  refine PyProof.Rows.wpAny_notIn_heap (knd := nestedKind X.prog X.w) (by show X.A.units + 1 + 8 < cLine; omega) ⟨nkD I h1 h2 rfl, h3⟩ l dd ?_
  refine ⟨.bl (!hasN ks d), H, Inv.tok I _, ?_, q⟩
  rw [look_at hx]
  rfl
theorem ext_kt {K : PySem.W.Frag} {H : Hp} {G : Addr} {o : HO} {φ : Heap → Prop} (h : H G = some (.ext φ)) : KeepT K H (upd H G o) := fun a xs hq => by
  rcases hq with (hq | ⟨o, hq⟩) | hq
  · exact .inl (.inl (by rw [upd_ne (ne_of hq h (fun z => nomatch z))]; exact hq))
  · exact .inl (.inr ⟨o, by rw [upd_ne (ne_of hq h (fun z => nomatch z))]; exact hq⟩)
  · exact .inr hq
def addN (ks : List PyData) (d : PyData) : List PyData := if hasN ks d = true then ks else ks ++ [d]
theorem set_dictK {X : Cx} (hu : X.A.units + 64 < cLine) : PSet X (fun o i v H Q => ∃ (a G : Addr) (d : PyData) (ks : List PyData), o = .ref G ∧ i = .ref a ∧ Dp X.K H (.ref a) d ∧ plainD d = true ∧ (keyD d).depth ≤ 8 ∧ DN X.prog X.w X.K H G ks ∧ ks.length ≤ 4000000 ∧
    ∀ H', But G H H' → DN X.prog X.w X.K H' G (addN ks d) → Q H') := fun pins s σ H o i v ov iv u Q I ro ri rv h => by
  obtain ⟨a, G, d, ks, rfl, rfl, h1, h2, h3, ⟨xs, hG, hx⟩, hl, q⟩ := h
  cases ro
  cases ri
  obtain ⟨l, dd⟩ := DN.at I hG hx
  refine wpAny_setItem_heap (knd := nestedKind X.prog X.w) (by show X.A.units + 1 + 8 < cLine; omega) ⟨nkD I h1 h2 rfl, h3⟩ dd (fun h' dd' hs => ?_) (by rw [hx.len]; exact Nat.le_trans hl (by decide))
  obtain ⟨ob, es, ep, g1, g2, g3, g4, g5, g6⟩ := dd'
  refine ⟨upd H G (.ext (rawD X.prog X.w G (storedH xs (keyD d) a u))), d_write I (by rw [hG]; exact True.intro) hs ⟨ob, g1⟩ (raw_ok ⟨l, ob, es, ep, g1, g2, g3, g4, g6⟩), q _ But.upd ⟨_, upd_same, ?_⟩⟩
  have hk : KeepT X.K H (upd H G (.ext (rawD X.prog X.w G (storedH xs (keyD d) a u)))) := ext_kt hG
  replace hx := hx.kt hk
  replace h1 := dp_kt hk h1 h2
  clear hk
  generalize upd H G (.ext (rawD X.prog X.w G (storedH xs (keyD d) a u))) = H1 at *
  unfold storedH addN
  rw [look_at hx]
  by_cases e : (atKey xs (keyD d)).isSome = true
  · rw [if_pos e, if_pos e]
    exact hx.put
  · rw [if_neg e, if_neg e]
    exact DNs.append hx (ys := [(keyD d, a, u)]) (ls := [d]) ⟨⟨rfl, h2, h3, h1⟩, True.intro⟩

/-! ### instructions as data -/
def dF : Fv → PyData
  | .int n => .int n | .str s => .str s | .tup ns => .tuple (ns.map PyData.int)
def dI (x : Ins) : PyData := .tuple (.str x.nm :: x.fs.map dF)
theorem plainDs_ints : ∀ ns : List Int, plainDs (ns.map PyData.int) = true
  | [] => rfl
  | n :: ns => by
    show (plainD (.int n) && plainDs (ns.map PyData.int)) = true
    rw [plainDs_ints ns]
    rfl
theorem plainDs_flds : ∀ fs : List Fv, plainDs (fs.map dF) = true
  | [] => rfl
  | f :: fs => by
    show (plainD (dF f) && plainDs (fs.map dF)) = true
    rw [plainDs_flds fs, Bool.and_true]
    cases f with
    | int n => rfl
    | str s => rfl
    | tup ns => exact plainDs_ints ns
theorem plain_dI (x : Ins) : plainD (dI x) = true := plainDs_flds x.fs
theorem depth_ints : ∀ ns : List Int, NestedKey.depthAll (keyDs (ns.map PyData.int)) ≤ 1
  | [] => by simp [keyDs, NestedKey.depthAll]
  | n :: ns => by
    have ih := depth_ints ns
    simp only [List.map_cons, keyDs, keyD, NestedKey.depthAll, NestedKey.depth]
    omega
theorem depth_flds : ∀ fs : List Fv, NestedKey.depthAll (keyDs (fs.map dF)) ≤ 4
  | [] => by simp [keyDs, NestedKey.depthAll]
  | f :: fs => by
    have ih := depth_flds fs
    cases f with
    | int n =>
      simp only [List.map_cons, dF, keyDs, keyD, NestedKey.depthAll, NestedKey.depth]
      omega
    | str n =>
      simp only [List.map_cons, dF, keyDs, keyD, NestedKey.depthAll, NestedKey.depth]
      omega
    | tup ns =>
      have := depth_ints ns
      simp only [List.map_cons, dF, keyDs, keyD, NestedKey.depthAll, NestedKey.depth]
      omega
theorem depth_dI (x : Ins) : (keyD (dI x)).depth ≤ 8 := by
  have := depth_flds x.fs
  simp only [dI, keyD, keyDs, NestedKey.depthAll, NestedKey.depth]
  omega
theorem dp_ints (K : PySem.W.Frag) (H : Hp) : ∀ ns : List Int, DpAll K H (ns.map V.int) (ns.map PyData.int)
  | [] => .nil
  | n :: ns => .cons (.int n) (dp_ints K H ns)
theorem dp_fv {K : PySem.W.Frag} {H : Hp} {v : V} {d : Fv} (h : FvAt H v d) : Dp K H v (dF d) := by
  cases d with
  | int n => rw [show v = .int n from h]; exact .int n
  | str s => rw [show v = .str s from h]; exact .str s
  | tup ns =>
    obtain ⟨a, rfl, h1⟩ := h
    exact .tup (SqT.of h1) (dp_ints K H ns)
theorem dp_fvs {K : PySem.W.Frag} {H : Hp} : ∀ {vs : List V} {ds : List Fv}, FvsAt H vs ds → DpAll K H vs (ds.map dF)
  | [], [], _ => .nil
  | _ :: _, _ :: _, h => .cons (dp_fv h.1) (dp_fvs h.2)
theorem dp_in {K : PySem.W.Frag} {H : Hp} {v : V} {x : Ins} (h : InAt H v x) : Dp K H v (dI x) := by
  obtain ⟨p, vs, rfl, h1, h2⟩ := h
  exact .tup (SqT.of h1) (.cons (.str _) (dp_fvs h2))
theorem dF_inj {a b : Fv} (h : dF a = dF b) : a = b := by
  cases a <;> cases b <;> simp only [dF] at h <;> first | (cases h; rfl) | (cases h) | skip
  rename_i ns ms
  have h1 := PyData.tuple.inj h
  have : ns = ms := by
    have e : ∀ {ns ms : List Int}, ns.map PyData.int = ms.map PyData.int → ns = ms := fun {ns ms} => by
      induction ns generalizing ms with
      | nil =>
        intro h
        cases ms with
        | nil => rfl
        | cons _ _ => cases h
      | cons n ns ih =>
        intro h
        cases ms with
        | nil => cases h
        | cons m ms =>
          rw [List.map_cons, List.map_cons] at h
          have h1 := (List.cons.inj h).1
          rw [PyData.int.inj h1, ih (List.cons.inj h).2]
    exact e h1
  rw [this]
theorem dI_inj {x y : Ins} (h : dI x = dI y) : x = y := by
  have h1 := List.cons.inj (PyData.tuple.inj h)
  have e1 : x.nm = y.nm := PyData.str.inj h1.1
  have e : ∀ {fs gs : List Fv}, fs.map dF = gs.map dF → fs = gs := fun {fs gs} => by
    induction fs generalizing gs with
    | nil =>
      intro h
      cases gs with
      | nil => rfl
      | cons _ _ => cases h
    | cons n ns ih =>
      intro h
      cases gs with
      | nil => cases h
      | cons m ms =>
        rw [List.map_cons, List.map_cons] at h
        rw [dF_inj (List.cons.inj h).1, ih (List.cons.inj h).2]
  have e2 := e h1.2
  cases x
  cases y
  simp only at e1 e2
  rw [e1, e2]
section
variable {P : Program} {w : World} {K : PySem.W.Frag} {mg : Str → Option Value} {base : Heap}
/-! ### _check_ranges -/
theorem hasN_mem {xs : List Ins} {x : Ins} (h : hasN (xs.map dI) (dI x) = true) : x ∈ xs := by
  unfold hasN at h
  rw [List.any_eq_true] at h
  obtain ⟨d, hd, e⟩ := h
  obtain ⟨y, hy, rfl⟩ := List.mem_map.mp hd
  have e2 := keyD_inj (plain_dI y) (plain_dI x) (of_decide_eq_true e)
  rw [← dI_inj e2]
  exact hy
def spCRs (K : PySem.W.Frag) (C : Nat → Addr) : Sp := fun vs H Q E => ∃ (pm p : Addr) (m : Mch) (ms : List Int) (xs : List Ins), vs = [.ref pm, .ref p] ∧ SqT K H pm (ms.map V.int) ∧ MOk m ms ∧ CodeAt K H p xs ∧ (∀ x ∈ xs, InOk x ∧ okForm x = true ∧ Sml x) ∧ xs.length ≤ 2000000 ∧
  ∀ H', Same H H' → ((∀ x ∈ xs, okR m x) → Q .non H') ∧ ((∃ x ∈ xs, ¬ okR m x) → Bad C E H')
abbrev nCRs : List Str := ["machine", "code", "bounds", "known", "instruction"]
theorem scCRs : FnScope nCRs ["machine", "code"] (defScope s_check_ranges) := ⟨rfl, rfl, rfl, by decide +kernel, rfl, by decide +kernel, by decide +kernel⟩
theorem ok_crs {f : Addr} {C : Nat → Addr} {fd : FuncData} (F : Fun K "_check_ranges" "_check_ranges" s_check_ranges f fd) (cBo : Calls P w K mg base CX0 2 "_bounds" ["machine"] (spBo K)) (cCR : Calls P w K mg base (L2.CX P w) 3 "_check_range" ["instruction", "bounds"] (spCR K C)) : FnOk P w K mg base (L2.CX P w) 4 f fd ["machine", "code"] (spCRs K C) := by
  obtain ⟨fBo, dBo, GBo, kBo, bBo, gBo⟩ := cBo.ex
  obtain ⟨fCR, dCR, GCR, kCR, bCR, gCR⟩ := cCR.ex
  refine F.okX scCRs (fun vs H Q E h => ?_) (fun cdv A outer s H vs Q E hr3 h => ?_)
  · obtain ⟨_, _, _, _, _, rfl, _⟩ := h
    rfl
  · obtain ⟨pm, p, m, ms, xs, rfl, hpm, hm, ⟨ws, hp, hI⟩, hok, hl, q⟩ := h
    have hr2 : Room 2 _ := hr3.mono (by decide)
    refine ⟨_, (pss_cons (ps_set (i := 2) scCRs.nd rfl (.inl rfl) (pe_call GBo hr2 (by rfl) gBo kBo bBo .nil pass0 (pa_cons (pv 0) pa_nil)))
      (pss_cons (ps_set (i := 3) scCRs.nd rfl (.inl rfl) pe_dnewN)
      (pss_one (ps_for (passes_of rfl) rfl (pi_tup (pv 1)) (pg_name (i := 4) scCRs.nd rfl (.inl rfl)) (pss_one (ps_if (pt_cmpR (op_notInK hr3.units) (pv 4) (pv 3) rfl) (pss_cons (ps_expr (pe_callS GCR hr3 (by rfl) gCR kCR bCR (fun σ => passAt (takes_of rfl rfl rfl rfl) σ) (pa_cons (pv 4) (pa_cons (pv 2) pa_nil))))
      (pss_one (ps_asg pe_bl (pg_sub (pv 3) (pv 4) (set_dictK hr3.units))))) pss_nil)))))), ?_⟩
    have hwl : ws.length = xs.length := hI.1
    refine ⟨_, rfl, pm, m, ms, rfl, hpm, hm, fun H1 G s1 hG => ?_⟩
    intro D nD
    have s2 := same_upd (o := .ext (rawD P w D [])) nD
    have hD0 : DN P w K (upd H1 D (.ext (rawD P w D []))) D (([] : List Ins).map dI) := ⟨[], upd_same, trivial⟩
    refine ⟨_, rfl, p, rfl, ⟨_, sqT_same hp (s1.trans s2)⟩, for_tup (K := K) (a := p) (xs := ws) (fun i σ H' => ∃ (v4 : Option V) (ks : List Ins), σ = [some (.ref pm), some (.ref p), some (.ref G), some (.ref D), v4] ∧ Same H1 H' ∧ DN P w K H' D (ks.map dI) ∧ ks.length ≤ i ∧ (∀ y ∈ ks, okR m y) ∧ ∀ y ∈ xs.take i, okR m y)
      ⟨_, [], rfl, s2, hD0, Nat.zero_le _, fun _ h => (nomatch h), fun _ h => (nomatch h)⟩ (fun i σ H' _ ⟨_, _, _, sm, _⟩ => sqT_same hp (s1.trans sm)) ?_ ?_⟩
    · rintro i v σ H3 hi ⟨v4, ks, rfl, sm, hD, hkl, hks, hin⟩
      obtain ⟨x, hx⟩ : ∃ x, xs[i]? = some x := ⟨_, List.getElem?_eq_getElem (by have := (List.getElem?_eq_some_iff.mp hi).1; omega)⟩
      have hil : i < xs.length := (List.getElem?_eq_some_iff.mp hx).1
      have hxm := List.mem_of_getElem? hx
      have hxa := (hI.2 i v x hi hx).same (s1.trans sm)
      obtain ⟨px, vx, rfl, hpx, hfx⟩ := id hxa
      have nxt : okR m x → ∀ y ∈ xs.take (i + 1), okR m y := fun ho y hy => by
        rw [take_snoc hx] at hy
        rcases List.mem_append.mp hy with hy | hy
        · exact hin y hy
        · rw [List.mem_singleton.mp hy]
          exact ho
      refine ⟨_, rfl, _, rfl, px, D, dI x, ks.map dI, rfl, rfl, dp_in hxa, plain_dI x, depth_dI x, hD, _, rfl, ?_⟩
      by_cases c : hasN (ks.map dI) (dI x) = true
      · rw [c]
        exact iteF ⟨_, ks, rfl, sm, hD, by omega, hks, nxt (hks x (hasN_mem c))⟩
      · rw [Bool.eq_false_iff.mpr c]
        obtain ⟨k1, k2, k3⟩ := hok x hxm
        refine iteT ⟨_, rfl, _, rfl, px, G, m, x, rfl, hxa, k1, k2, k3, hm.wb.2, hG.same sm, fun H4 s4 => ⟨fun ho => ?_, fun hb => (q _ ((s1.trans sm).trans s4)).2 ⟨x, hxm, hb⟩⟩⟩
        have hD4 : DN P w K H4 D (ks.map dI) := hD.kt (fun a xs h => sqT_same h s4) fun o e => s4 _ _ e
        refine ⟨_, rfl, _, rfl, px, D, dI x, ks.map dI, rfl, rfl, dp_in (hxa.same s4), plain_dI x, depth_dI x, hD4, by rw [List.length_map]; omega, fun H5 b5 hD5 => ?_⟩
        have e5 : addN (ks.map dI) (dI x) = (ks ++ [x]).map dI := by
          unfold addN
          rw [if_neg c, List.map_append]
          rfl
        rw [e5] at hD5
        refine ⟨_, ks ++ [x], rfl, fun b o e => ?_, hD5, by rw [List.length_append, List.length_singleton]; omega, fun y hy => ?_, nxt ho⟩
        · rw [b5 b (ne_of_none e nD)]
          exact s4 _ _ (sm _ _ e)
        · rcases List.mem_append.mp hy with hy | hy
          · exact hks y hy
          · rw [List.mem_singleton.mp hy]
            exact ho
    · rintro σ H3 ⟨v4, ks, rfl, sm, hD, hkl, hks, hin⟩
      rw [hwl, List.take_length] at hin
      exact (q _ (s1.trans sm)).1 hin
/-! ### check_code -/
theorem lbF_len : ∀ {xs : List Ins} {p : Nat} {st bh : List Int}, lbF xs p st = some bh → bh.length = xs.length
  | [], p, st, bh, h => by
    have h : (if 1 < st.length then none else some ([] : List Int)) = some bh := h
    split at h
    · cases h
    · cases h; rfl
  | x :: r, p, st, bh, h => by
    unfold lbF at h
    split at h
    · obtain ⟨b, h1, rfl⟩ := Option.map_eq_some_iff.mp h
      rw [List.length_cons, List.length_cons, lbF_len h1]
    · split at h
      · split at h
        · cases h
        · obtain ⟨b, h1, rfl⟩ := Option.map_eq_some_iff.mp h
          rw [List.length_cons, List.length_cons, lbF_len h1]
      · split at h
        · cases h
        · obtain ⟨b, h1, rfl⟩ := Option.map_eq_some_iff.mp h
          rw [List.length_cons, List.length_cons, lbF_len h1]
theorem turns_of {m : Mch} {x : Ins} (hok : InOk x) (hr : okR m x) (e : x.nm = "loop") : 1 ≤ iAt x 3 ∧ iAt x 3 ≤ 1000 := by
  obtain ⟨fa, fb, fc, fd, hfs⟩ := in_loop hok e
  have hnm : fldN x.nm = (["slot", "begin", "begin", "turns"] : List Str) := by rw [e]; decide +kernel
  have h1 : inB m "turns" fd := fldsR_iff.mp hr.1 3 "turns" (.int fd) (by rw [hnm]; rfl) (by rw [hfs]; rfl)
  have e3 : iAt x 3 = fd := by unfold iAt; rw [hfs]; rfl
  rw [e3]
  exact h1
def spCK (K : PySem.W.Frag) (C : Nat → Addr) : Sp := fun vs H Q E => ∃ (pm p : Addr) (m : Mch) (ms : List Int) (xs : List Ins), vs = [.ref pm, .ref p] ∧ SqT K H pm (ms.map V.int) ∧ MOk m ms ∧ CodeAt K H p xs ∧ (∀ x ∈ xs, InOk x ∧ Sml x) ∧ xs.length ≤ 2000000 ∧
  ∀ H', Same H H' → (okC m xs → Q .non H') ∧ (¬ okC m xs → Bad C E H')
abbrev nCK : List Str := ["machine", "code", "instruction"]
theorem scCK : FnScope nCK ["machine", "code"] (defScope scheck_code) := ⟨rfl, rfl, rfl, by decide +kernel, rfl, by decide +kernel, by decide +kernel⟩
theorem ok_ck {f : Addr} {C : Nat → Addr} {fd : FuncData} (F : Fun K "check_code" "check_code" scheck_code f fd) (T : TxtT mg) (l1 : ∃ u, mg "_CODE_LIMIT" = some u ∧ RelV (.int 4000000) u) (R4 : ErrR K mg "TooLarge" (C 4)) (cCM : Calls P w K mg base CX0 1 "check_machine" ["machine"] (spCM K)) (cCFo : Calls P w K mg base (L2.CX P w) 2 "_check_form" ["instruction"] (spCFo K C)) (cCS : Calls P w K mg base (L2.CX P w) 1 "_check_skips" ["code", "behind"] (spCS K C)) (cLB : Calls P w K mg base (L2.CX P w) 1 "_loops_behind" ["code"] (spLB K C)) (cCRs : Calls P w K mg base (L2.CX P w) 4 "_check_ranges" ["machine", "code"] (spCRs K C)) (cCL : Calls P w K mg base (L2.CX P w) 1 "_check_loops" ["code"] (spCL K C)) : FnOk P w K mg base (L2.CX P w) 5 f fd ["machine", "code"] (spCK K C) := by
  obtain ⟨fCM, dCM, GCM, kCM, bCM, gCM⟩ := cCM.ex
  obtain ⟨fCFo, dCFo, GCFo, kCFo, bCFo, gCFo⟩ := cCFo.ex
  obtain ⟨fCS, dCS, GCS, kCS, bCS, gCS⟩ := cCS.ex
  obtain ⟨fLB, dLB, GLB, kLB, bLB, gLB⟩ := cLB.ex
  obtain ⟨fCRs, dCRs, GCRs, kCRs, bCRs, gCRs⟩ := cCRs.ex
  obtain ⟨fCL, dCL, GCL, kCL, bCL, gCL⟩ := cCL.ex
  obtain ⟨uCd, gCd, rCd⟩ := l1
  refine F.okX scCK (fun vs H Q E h => ?_) (fun cdv A outer s H vs Q E hr4 h => ?_)
  · obtain ⟨_, _, _, _, _, rfl, _⟩ := h
    rfl
  · obtain ⟨pm, p, m, ms, xs, rfl, hpm, hm, hc, hok, hl, q⟩ := h
    have hr1 : Room 1 _ := hr4.mono (by decide)
    have hr2 : Room 2 _ := hr4.mono (by decide)
    refine ⟨_, (pss_cons (ps_expr (pe_call GCM hr1 (by rfl) gCM kCM bCM .nil pass0 (pa_cons (pv 0) pa_nil)))
      (pss_cons (ps_for (passes_of rfl) rfl (pi_tup (pv 1)) (pg_name (i := 2) scCK.nd rfl (.inl rfl)) (pss_one (ps_expr (pe_callS GCFo hr2 (by rfl) gCFo kCFo bCFo (fun σ => passAt (takes_of rfl rfl rfl rfl) σ) (pa_cons (pv 2) pa_nil)))))
      (pss_cons (ps_expr (pe_callS GCS hr1 (by rfl) gCS kCS bCS (fun σ => passAt (takes_of rfl rfl rfl rfl) σ) (pa_cons (pv 1) (pa_cons (pe_callS GLB hr1 (by rfl) gLB kLB bLB (fun σ => passAt (takes_of rfl rfl rfl rfl) σ) (pa_cons (pv 1) pa_nil)) pa_nil))))
      (pss_cons (ps_expr (pe_callS GCRs hr4 (by rfl) gCRs kCRs bCRs (fun σ => passAt (takes_of rfl rfl rfl rfl) σ) (pa_cons (pv 0) (pa_cons (pv 1) pa_nil))))
      (pss_cons (ps_if (pt_cmpR op_gt (pe_callB call_len_seq (by rfl) T.len PySem.boot_len (pa_cons (pv 1) pa_nil)) (pe_glob (v := (.int 4000000)) (by rfl) gCd rCd) (nomark _)) (pss_one (ps_raise rfl (takes_of rfl rfl rfl rfl) (pmk_own PySem.F.excBase_ValueError R4.x R4.g R4.k (raises_own R4.b R4.t) rfl))) pss_nil)
      (pss_one (ps_expr (pe_callS GCL hr1 (by rfl) gCL kCL bCL (fun σ => passAt (takes_of rfl rfl rfl rfl) σ) (pa_cons (pv 1) pa_nil))))))))), ?_⟩
    obtain ⟨ws, hp, hI⟩ := id hc
    have hwl : ws.length = xs.length := hI.1
    refine ⟨_, rfl, pm, m, ms, rfl, hpm, hm, fun H1 s1 => ?_⟩
    have bad : ∀ {H'}, Same H H' → ¬ okC m xs → Bad C E H' := fun {H'} s h => (q _ s).2 h
    refine ⟨_, rfl, p, rfl, ⟨_, sqT_same hp s1⟩, for_tup (K := K) (a := p) (xs := ws) (fun i σ H' => ∃ (v2 : Option V), σ = [some (.ref pm), some (.ref p), v2] ∧ Same H H' ∧ ∀ y ∈ xs.take i, okForm y = true)
      ⟨_, rfl, s1, fun _ h => (nomatch h)⟩ (fun i σ H' _ ⟨_, _, sm, _⟩ => sqT_same hp sm) ?_ ?_⟩
    · rintro i v σ H3 hi ⟨v2, rfl, sm, hin⟩
      obtain ⟨x, hx⟩ : ∃ x, xs[i]? = some x := ⟨_, List.getElem?_eq_getElem (by have := (List.getElem?_eq_some_iff.mp hi).1; omega)⟩
      have hxm := List.mem_of_getElem? hx
      have hxa := (hI.2 i v x hi hx).same sm
      obtain ⟨px, vx, rfl, hpx, hfx⟩ := id hxa
      refine ⟨_, rfl, px, x, rfl, hxa, (hok x hxm).1, (hok x hxm).2, fun H4 s4 => ⟨fun ho => ⟨_, rfl, sm.trans s4, fun y hy => ?_⟩, fun hb => bad (sm.trans s4) fun h => ?_⟩⟩
      · rw [take_snoc hx] at hy
        rcases List.mem_append.mp hy with hy | hy
        · exact hin y hy
        · rw [List.mem_singleton.mp hy]
          exact ho
      · have := h.1 x hxm
        rw [hb] at this
        cases this
    · rintro σ H3 ⟨v2, rfl, sm3, hin⟩
      rw [hwl, List.take_length] at hin
      have hokI : ∀ x ∈ xs, InOk x := fun x hx => (hok x hx).1
      refine ⟨_, rfl, _, rfl, p, xs, rfl, hc.same sm3, hl, fun H4 s4 => ⟨fun hn => bad (sm3.trans s4) fun h => ?_, fun bh hbh l hbl => ?_⟩⟩
      · obtain ⟨_, bh, h1, _⟩ := h
        rw [hn] at h1
        cases h1
      have s04 := sm3.trans s4
      refine ⟨p, l, xs, bh, rfl, hc.same s04, hokI, hbl, lbF_len hbh, fun H5 s5 => ⟨fun hsk => ?_, fun hns => bad (s04.trans s5) (by rintro ⟨_, bh', h1, h2, _⟩; rw [hbh] at h1; cases h1; exact hns h2)⟩⟩
      have s05 := s04.trans s5
      refine ⟨_, rfl, _, rfl, pm, p, m, ms, xs, rfl, sqT_same hpm s05, hm, hc.same s05, fun x hx => ⟨hokI x hx, hin x hx, (hok x hx).2⟩, hl, fun H6 s6 => ⟨fun hr => ?_, fun ⟨x, hx, hb⟩ => bad (s05.trans s6) fun ⟨_, _, _, _, h, _⟩ => hb (h x hx)⟩⟩
      have s06 := s05.trans s6
      refine ⟨_, rfl, p, ws, rfl, .inr (sqT_same hp s06), _, _, rfl, rfl, _, rfl, ?_⟩
      rw [decide_eq_false (show ¬ (4000000 : Int) < ((ws.length : Nat) : Int) by omega)]
      refine iteF ⟨_, rfl, p, xs, bh, rfl, hc.same s06, hokI, fun x hx e => turns_of (hokI x hx) (hr x hx) e, hbh, hl, fun H7 s7 => ⟨fun ⟨s', h1, h2⟩ => (q _ (s06.trans s7)).1 ⟨hin, bh, hbh, hsk, hr, s', h1, h2⟩, fun hn => bad (s06.trans s7) fun ⟨_, _, _, _, _, h⟩ => hn h⟩⟩
end

section
variable {P : Program} {w : World} {K : PySem.W.Frag} {mg : Str → Option Value} {base : Heap} {ZT : Addr} {aP aA aF aN : Addr} {es : Array DictEntry} {nn : Nat}
/-! ### read_integer -/
def spRIx (ZT : Addr) : Sp := fun vs H Q E => ∃ z : Str, vs = [.str z, .int 90] ∧ z.length ≤ 1500000 ∧ (rdI (TL.tl z) = none → E (.ref ZT) none H) ∧ ∀ n, rdI (TL.tl z) = some n → Q (.int n) H
abbrev nRI : List Str := ["text", "most", "digits"]
theorem scRI : FnScope nRI ["text", "most"] (defScope sread_integer) := ⟨rfl, rfl, rfl, by decide +kernel, rfl, by decide +kernel, by decide +kernel⟩
theorem ok_readinteger {f : Addr} {fd : FuncData} (F : Fun K "read_integer" "read_integer" sread_integer f fd) (T : TxtT mg) (RT : ErrR K mg "TextError" ZT) : FnOk P w K mg base (L2.CX P w) 1 f fd ["text", "most"] (spRIx ZT) := by
  refine F.okX scRI (fun vs H Q E h => ?_) (fun cdv A outer s H vs Q E hr h => ?_)
  · obtain ⟨z, rfl, _⟩ := h
    rfl
  · obtain ⟨z, rfl, hz, qE, qQ⟩ := h
    refine ⟨_, (pss_cons (ps_set (i := 2) scRI.nd rfl (.inl rfl) (pe_bm PySem.F.plainAttrs_str PySem.F.slot_str_removeprefix PySem.F.type_str_removeprefix mt_removeprefix (pv 0) (pa_cons pe_str pa_nil)))
      (pss_cons (ps_if (PW.pt (pw_or (pt_not (PW.pt (pw_and (pt_val (pe_bm0 PySem.F.plainAttrs_str PySem.F.slot_str_isascii PySem.F.type_str_isascii mt_isascii (pv 2))) (pw_and1 (pt_val (pe_bm0 PySem.F.plainAttrs_str PySem.F.slot_str_isdigit PySem.F.type_str_isdigit mt_isdigit (pv 2))))))) (pw_or1 (pt_cmpR op_gt (pe_callB call_len_str (by rfl) T.len PySem.boot_len (pa_cons (pv 2) pa_nil)) (pv 1) (nomark _))))) (pss_one (ps_raise rfl (takes_of rfl rfl rfl rfl) (pmk_own PySem.F.excBase_ValueError RT.x RT.g RT.k (raises_own RT.b RT.t) rfl))) pss_nil)
      (pss_cons (ps_if (PW.pt (pw_and (pt_val (pe_bm PySem.F.plainAttrs_str PySem.F.slot_str_startswith PySem.F.type_str_startswith mt_startswith (pv 2) (pa_cons pe_str pa_nil))) (pw_and1 (pt_cmpR op_ne (pv 0) pe_str (nomark _))))) (pss_one (ps_raise rfl (takes_of rfl rfl rfl rfl) (pmk_own PySem.F.excBase_ValueError RT.x RT.g RT.k (raises_own RT.b RT.t) rfl))) pss_nil)
      (pss_one (ps_ret (pe_callTy call_int_str (by rfl) T.int (by decide +kernel) (pa_cons (pv 0) pa_nil))))))), ?_⟩
    refine ⟨_, rfl, rfl, z, _, rfl, rfl, size64 (by omega), ?_⟩
    have hdz := cut_dash z
    have hbl := bare_len (TL.tl z)
    have hbg := bare_ge (TL.tl z)
    have hzl := TL.len_tl z
    have hdl := TL.len_tl (Txt.removeprefix z "-")
    have hdd := dig_text (Txt.removeprefix z "-")
    have hst := starts_one (Txt.removeprefix z "-") "0" 48 rfl
    generalize Txt.removeprefix z "-" = dz at *
    rw [hdz] at hdd hst hdl
    refine ⟨_, rfl, rfl, dz, rfl, rfl, trivial, _, rfl, ?_⟩
    have nod : digB (bare (TL.tl z)) = false → E (.ref ZT) none H := fun e => qE (by
      unfold rdI num
      rw [e, if_neg Bool.false_ne_true]
      split <;> rfl)
    by_cases h1 : Txt.isascii dz = true
    · rw [h1]
      refine iteT ⟨_, rfl, rfl, dz, rfl, rfl, trivial, _, rfl, ?_⟩
      by_cases h2 : Txt.isdigit dz = true
      · rw [h2]
        have hB : digB (bare (TL.tl z)) = true := by rw [← hdd, h1, h2]; rfl
        refine iteF ⟨_, rfl, dz, rfl, size64 (by omega), _, rfl, _, _, rfl, rfl, _, rfl, ?_⟩
        by_cases h3 : (bare (TL.tl z)).length ≤ 90
        · rw [decide_eq_false (show ¬ ((90 : Int) < (dz.length : Int)) by omega)]
          refine iteF ⟨_, rfl, rfl, dz, _, rfl, rfl, _, rfl, ?_⟩
          rw [hst]
          have rd : rdI (TL.tl z) = num (TL.tl z) := by unfold rdI; rw [if_pos h3]
          rw [rd] at qE qQ
          have fin : ¬ ((bare (TL.tl z)).head? = some 48 ∧ TL.tl z ≠ [48]) → ∃ n, num (TL.tl z) = some n := fun h => by
            unfold num
            rw [if_pos hB, if_neg h]
            exact ⟨_, rfl⟩
          by_cases h48 : (bare (TL.tl z)).head? = some 48
          · rw [decide_eq_true h48]
            refine iteT ⟨_, rfl, rfl, _, rfl, ?_⟩
            rw [dec_tl]
            have e0 : TL.tl ("0" : Str) = [48] := rfl
            rw [e0]
            by_cases h5 : TL.tl z = [48]
            · rw [decide_eq_true h5]
              obtain ⟨n, hn⟩ := fin fun h => h.2 h5
              exact iteF ⟨_, rfl, z, _, rfl, num_int hn (by omega), by omega, qQ n hn⟩
            · rw [decide_eq_false h5]
              refine iteT (qE ?_)
              unfold num
              rw [if_pos hB, if_pos ⟨h48, h5⟩]
          · rw [decide_eq_false h48]
            obtain ⟨n, hn⟩ := fin fun h => h48 h.1
            exact iteF ⟨_, rfl, z, _, rfl, num_int hn (by omega), by omega, qQ n hn⟩
        · rw [decide_eq_true (show ((90 : Int) < (dz.length : Int)) by omega)]
          refine iteT (qE ?_)
          unfold rdI
          rw [if_neg h3]
      · rw [Bool.eq_false_iff.mpr h2]
        exact iteT (nod (by rw [← hdd, Bool.eq_false_iff.mpr h2, Bool.and_false]))
    · rw [Bool.eq_false_iff.mpr h1]
      exact iteF (iteT (nod (by rw [← hdd, Bool.eq_false_iff.mpr h1]; rfl)))
/-! ### _read_field -/
def spRF (K : PySem.W.Frag) (ZT : Addr) : Sp := fun vs H Q E => ∃ (f : Str) (pw : Addr) (ys : List Str) (at_ : Nat), vs = [.str f, .ref pw, .int (at_ : Int)] ∧ H pw = some (.lst (ys.map V.str)) ∧ at_ < ys.length ∧ ys.length ≤ 1500001 ∧ (∀ y ∈ ys, y.length ≤ 1500000) ∧
  ∀ H', Same H H' → (rdFl f ((ys.map TL.tl).drop at_) = none → E (.ref ZT) none H') ∧ ∀ d W', rdFl f ((ys.map TL.tl).drop at_) = some (d, W') → ∀ (v : V) (p : Addr) (j : Nat), FvAt H' v d → H' p = some (.tup [v, .int (j : Int)]) → j ≤ ys.length → W' = (ys.map TL.tl).drop j → Q (.ref p) H'
abbrev nRF : List Str := ["field", "words", "at", "n", "word"]
theorem scRF : FnScope nRF ["field", "words", "at"] (defScope s_read_field) := ⟨rfl, rfl, rfl, by decide +kernel, rfl, by decide +kernel, by decide +kernel⟩
theorem ok_rf {f : Addr} {fd : FuncData} (F : Fun K "_read_field" "_read_field" s_read_field f fd) (T : TxtT mg) (X : Tab K w mg aP aA aF aN es nn) (RT : ErrR K mg "TextError" ZT) (lD : ∃ u, mg "_DIGITS_LIMIT" = some u ∧ RelV (.int 90) u) (cRI : Calls P w K mg base (L2.CX P w) 1 "read_integer" ["text", "most"] (spRIx ZT)) : FnOk P w K mg base (L2.CX P w) 2 f fd ["field", "words", "at"] (spRF K ZT) := by
  obtain ⟨fRI, dRI, GRI, kRI, bRI, gRI⟩ := cRI.ex
  obtain ⟨uD, glD, rlD⟩ := lD
  refine F.okX scRF (fun vs H Q E h => ?_) (fun cdv A outer s H vs Q E hr1 h => ?_)
  · obtain ⟨_, _, _, _, rfl, _⟩ := h
    rfl
  · obtain ⟨fn, pw, ys, at_, rfl, hw, hat, hyl, hym, q⟩ := h
    refine ⟨_, (pss_cons (ps_if (pt_cmpR op_eq (pv 0) pe_str (nomark _)) (pss_cons (ps_if (pt_cmpR op_notIn_seq (pe_ix ix_list (pv 1) (pv 2) (fun _ _ => rfl)) (pe_glob (v := (.ref aP)) (by rfl) X.gP rfl) rfl) (pss_one (ps_raise rfl (takes_of rfl rfl rfl rfl) (pmk_own PySem.F.excBase_ValueError RT.x RT.g RT.k (raises_own RT.b RT.t) rfl))) pss_nil)
      (pss_one (ps_ret (pe_tup (pa_cons (pe_ix ix_list (pv 1) (pv 2) (fun _ _ => rfl)) (pa_cons (pe_op op_add (pv 2) pe_int) pa_nil)))))) pss_nil)
      (pss_cons (ps_set (i := 3) scRF.nd rfl (.inl rfl) (pe_callS GRI hr1 (by rfl) gRI kRI bRI (fun σ => passAt (takes_of rfl rfl rfl rfl) σ) (pa_cons (pe_ix ix_list (pv 1) (pv 2) (fun _ _ => rfl)) (pa_cons (pe_glob (v := (.int 90)) (by rfl) glD rlD) pa_nil))))
      (Evl.pss_cut (ps_if (PW.pt (pw_and (pt_cmpR op_ne (pv 0) pe_str (nomark _)) (pw_and1 (pt_cmpR op_ne (pv 0) pe_str (nomark _))))) (pss_one (ps_ret (pe_tup (pa_cons (pv 3) (pa_cons (pe_op op_add (pv 2) pe_int) pa_nil))))) pss_nil)
      (pss_cons (ps_if (PW.pt (pw_or (pt_cmpR op_lt (pv 3) pe_int (nomark _)) (pw_or1 (pt_cmpR op_gt (pv 3) (pe_op op_sub (pe_op op_sub (pe_callB call_len_seq (by rfl) T.len PySem.boot_len (pa_cons (pv 1) pa_nil)) (pv 2)) pe_int) (nomark _))))) (pss_one (ps_raise rfl (takes_of rfl rfl rfl rfl) (pmk_own PySem.F.excBase_ValueError RT.x RT.g RT.k (raises_own RT.b RT.t) rfl))) pss_nil)
      (pss_one (ps_ret (pe_tup (pa_cons (pe_callTy call_tuple_of (by rfl) T.tuple (by decide +kernel) (pa_cons (pe_lcX rfl rfl (takes_of rfl rfl rfl rfl) (own := [("word", 4)]) (g := (gName 4)) (tt := tYes) (te := (tCallS (spRIx ZT) (fun _ => E) (tCons (tVar 4) (tCons (tC (.int 90)) tNil)))) rfl scRF.nd (pi_list (pe_slice sl_list (pv 1) (po_some (pe_op op_add (pv 2) pe_int)) (po_some (pe_op op_add (pe_op op_add (pv 2) pe_int) (pv 3))))) (blkOk_by (N := nRF) (sc := defScope s_read_field) (by decide +kernel)) (fun _ _ _ _ _ _ => (pg_name (i := 4) scRF.nd rfl (.inl rfl) (hf := Or.inr rfl))) (fun _ _ _ _ _ _ => pts_nil) (fun _ _ _ _ _ _ hpX => (pe_callS GRI hr1 (by rfl) gRI kRI bRI hpX (pa_cons (pv 4) (pa_cons (pe_glob (v := (.int 90)) (by rfl) glD rlD) pa_nil))))) pa_nil)) (pa_cons (pe_op op_add (pe_op op_add (pv 2) pe_int) (pv 3)) pa_nil))))))))), ?_⟩
    obtain ⟨y, hy⟩ : ∃ y, ys[at_]? = some y := ⟨_, List.getElem?_eq_getElem hat⟩
    have hyt : (ys.map TL.tl)[at_]? = some (TL.tl y) := by rw [List.getElem?_map, hy]; rfl
    have hym2 := hym y (List.mem_of_getElem? hy)
    rw [drop_at hyt, rdFl_cons] at q
    have hx0 : (ys.map V.str)[at_]? = some (.str y) := by rw [List.getElem?_map, hy]; rfl
    refine ⟨_, rfl, rfl, _, rfl, ?_⟩
    by_cases c1 : fn = "kind"
    · rw [decide_eq_true (show V.str fn = V.str "kind" by rw [c1])]
      simp only [if_pos c1, kS_tl] at q
      refine iteT ⟨_, rfl, _, rfl, pw, _, _, _, rfl, rfl, SqL.of hw, atI_nat hx0, aP, _, rfl, .inr (X.p _), rfl, flat_strs _, _, rfl, ?_⟩
      rw [if_pos rfl, inV_strs]
      by_cases c2 : y ∈ PW
      · rw [decide_eq_true c2]
        simp only [if_pos c2] at q
        refine iteF ⟨_, rfl, _, rfl, pw, _, _, _, rfl, rfl, SqL.of hw, atI_nat hx0, _, rfl, _, _, rfl, rfl, by show 2 ≤ sizeLine; decide, fun p np => ?_⟩
        exact (q _ (same_upd np)).2 (.str y) _ rfl (.str y) p (at_ + 1) rfl upd_same (by omega) rfl
      · rw [decide_eq_false c2]
        simp only [if_neg c2] at q
        exact iteT ((q _ (Same.refl _)).1 trivial)
    rw [str_ne c1]
    simp only [if_neg c1] at q
    refine iteF ⟨_, rfl, _, rfl, pw, _, _, _, rfl, rfl, SqL.of hw, atI_nat hx0, y, rfl, hym2, fun hno => (q _ (Same.refl _)).1 (by rw [hno]; rfl), fun n hn => ?_⟩
    simp only [hn, Option.bind_some] at q
    refine ⟨fun σ' H' => σ' = [some (.str fn), some (.ref pw), some (.int (at_ : Int)), some (.int n), none] ∧ H' = H ∧ (fn = "sources" ∨ fn = "info"), ?_, ?_⟩
    · refine ⟨_, rfl, rfl, _, rfl, ?_⟩
      by_cases c2 : fn = "sources"
      · rw [decide_eq_true (show V.str fn = V.str "sources" by rw [c2])]
        exact iteF (iteF ⟨rfl, rfl, .inl c2⟩)
      rw [str_ne c2]
      refine iteT ⟨_, rfl, rfl, _, rfl, ?_⟩
      by_cases c3 : fn = "info"
      · rw [decide_eq_true (show V.str fn = V.str "info" by rw [c3])]
        exact iteF ⟨rfl, rfl, .inr c3⟩
      rw [str_ne c3]
      have c4 : ¬ (fn = "sources" ∨ fn = "info") := fun h => h.elim c2 c3
      simp only [if_neg c4] at q
      refine iteT ⟨_, rfl, _, rfl, _, _, rfl, rfl, by show 2 ≤ sizeLine; decide, fun p np => ?_⟩
      exact (q _ (same_upd np)).2 (.int n) _ rfl (.int n) p (at_ + 1) rfl upd_same (by omega) rfl
    rintro σ' H' ⟨rfl, rfl, c2⟩
    simp only [if_pos c2] at q
    have hWl : ((ys.map TL.tl).drop (at_ + 1)).length = ys.length - (at_ + 1) := by rw [List.length_drop, List.length_map]
    have hb : ∀ {b : Bool}, b = decide (n < 0 ∨ (((ys.map TL.tl).drop (at_ + 1)).length : Int) < n) → True := fun _ => trivial
    refine ⟨_, rfl, _, _, rfl, rfl, _, rfl, ?_⟩
    by_cases n0 : n < 0
    · rw [decide_eq_true n0]
      exact iteT (iteT ((q _ (Same.refl _)).1 (by rw [if_pos (.inl n0)])))
    rw [decide_eq_false n0]
    refine iteF ⟨_, rfl, _, rfl, pw, _, rfl, .inl (SqL.of hw), _, rfl, _, _, rfl, rfl, _, _, rfl, rfl, _, _, rfl, rfl, _, rfl, ?_⟩
    rw [List.length_map]
    by_cases n1 : (((ys.map TL.tl).drop (at_ + 1)).length : Int) < n
    · rw [decide_eq_true (show ((ys.length : Nat) : Int) - (at_ : Int) - 1 < n by omega)]
      exact iteT ((q _ (Same.refl _)).1 (by rw [if_pos (.inr n1)]))
    rw [decide_eq_false (show ¬ ((ys.length : Nat) : Int) - (at_ : Int) - 1 < n by omega)]
    simp only [if_neg (show ¬ (n < 0 ∨ (((ys.map TL.tl).drop (at_ + 1)).length : Int) < n) from fun h => h.elim n0 n1)] at q
    obtain ⟨k, rfl⟩ : ∃ k : Nat, n = (k : Int) := ⟨n.toNat, by omega⟩
    rw [Int.toNat_natCast] at q
    refine iteF ?_
    refine ⟨_, rfl, _, rfl, _, _, rfl, rfl, _, rfl, _, rfl, _, _, rfl, rfl, _, rfl, _, _, rfl, rfl, _, rfl, pw, _, rfl, SqL.of hw, fun S nS => ?_⟩
    have hcut : cutV (ys.map V.str) (some ((at_ : Int) + 1)) (some ((at_ : Int) + 1 + (k : Int))) = ((ys.drop (at_ + 1)).take k).map V.str := by
      have e := cut_nat (ys.map V.str) (at_ + 1) k
      have e1 : ((at_ + 1 : Nat) : Int) = (at_ : Int) + 1 := by omega
      rw [e1] at e
      rw [e, List.map_take, List.map_drop]
    have sS := same_upd (o := .lst (cutV (ys.map V.str) (some ((at_ : Int) + 1)) (some ((at_ : Int) + 1 + (k : Int))))) nS
    have hS : (upd H' S (.lst (cutV (ys.map V.str) (some ((at_ : Int) + 1)) (some ((at_ : Int) + 1 + (k : Int)))))) S = some (.lst (((ys.drop (at_ + 1)).take k).map V.str)) := by rw [upd_same, hcut]
    generalize upd H' S (.lst (cutV (ys.map V.str) (some ((at_ : Int) + 1)) (some ((at_ : Int) + 1 + (k : Int))))) = H2 at sS hS
    have hzt : ((ys.drop (at_ + 1)).take k).map TL.tl = ((ys.map TL.tl).drop (at_ + 1)).take k := by rw [List.map_take, List.map_drop]
    have hzm : ∀ y ∈ (ys.drop (at_ + 1)).take k, y.length ≤ 1500000 := fun y hy => hym y (List.mem_of_mem_drop (List.mem_of_mem_take hy))
    have hzl : ((ys.drop (at_ + 1)).take k).length = k := by rw [List.length_take, List.length_drop]; omega
    rw [← hzt] at q
    have hdrop : ((ys.map TL.tl).drop (at_ + 1)).drop k = (ys.map TL.tl).drop (at_ + 1 + k) := by rw [List.drop_drop]
    rw [hdrop] at q
    generalize (ys.drop (at_ + 1)).take k = zs at *
    refine ⟨S, rfl, ⟨_, SqL.of hS⟩, fun D nD => lc_list (K := K) (a := S) (xs := zs.map V.str) (fun i H1 => Same H2 H1 ∧ ∃ vs : List Int, H1 D = some (.lst (vs.map V.int)) ∧ ((zs.map TL.tl).take i).mapM rdI = some vs) ⟨same_upd nD, [], upd_same, rfl⟩ (fun i H1 _ h => SqL.of (h.1 _ _ hS)) ?_ ?_⟩
    · rintro i x H1 hx ⟨sm, vs, hD, hm⟩
      rw [List.getElem?_map] at hx
      obtain ⟨z, hz, rfl⟩ := Option.map_eq_some_iff.mp hx
      have hzt2 : (zs.map TL.tl)[i]? = some (TL.tl z) := by rw [List.getElem?_map, hz]; rfl
      have hi : i < zs.length := (List.getElem?_eq_some_iff.mp hz).1
      refine ⟨rfl, tYes_go ?_⟩
      refine ⟨_, rfl, z, rfl, hzm z (List.mem_of_getElem? hz), fun hno => ?_, fun n hn => ⟨_, hD, ?_, ?_, vs ++ [n], ?_, ?_⟩⟩
      · refine (q _ (sS.trans sm)).1 ?_
        rw [← List.take_append_drop i (zs.map TL.tl), drop_at hzt2, mapM_none' hno]
        rfl
      · have := mapM_len' hm
        rw [List.length_take, List.length_map] at this
        rw [List.length_map]
        exact small64 (by omega)
      · exact fun b o e => by rw [upd_ne (ne_of_none e nD)]; exact sm _ _ e
      · rw [upd_same, List.map_append]
        rfl
      · rw [take_snoc hzt2]
        exact mapM_snoc' hm hn
    · rintro H1 ⟨sm, vs, hD, hm⟩
      rw [List.length_map, ← List.length_map (f := TL.tl) (as := zs), List.take_length] at hm
      refine ⟨D, _, rfl, .inl ⟨SqL.of hD, fun t nt => ?_⟩⟩
      refine ⟨_, rfl, _, _, rfl, rfl, _, rfl, _, _, rfl, rfl, by show 2 ≤ sizeLine; decide, fun p np => ?_⟩
      have st := same_upd (o := .tup (vs.map V.int)) nt
      have sp := same_upd (o := .tup [V.ref t, V.int ((at_ : Int) + 1 + (k : Int))]) np
      refine (q _ (((sS.trans sm).trans st).trans sp)).2 (.tup vs) _ (by rw [hm]; rfl) (.ref t) p (at_ + 1 + k) ⟨t, rfl, sp _ _ upd_same⟩ ?_ (by omega) rfl
      rw [upd_same]
      have e1 : ((at_ + 1 + k : Nat) : Int) = (at_ : Int) + 1 + (k : Int) := by omega
      rw [e1]
/-! ### _read_line -/
theorem rdFs_cons (f : Str) (fs : List Str) (W : List (List Nat)) : rdFs (f :: fs) W = (rdFl f W).bind fun p => (rdFs fs p.2).map (p.1 :: ·) := by cases W <;> rfl
def spRL (K : PySem.W.Frag) (ZT : Addr) : Sp := fun vs H Q E => ∃ (z : Str), vs = [.str z] ∧ z.length ≤ 1500000 ∧ ∀ H', Same H H' → (rdIn (TL.tl z) = none → E (.ref ZT) none H') ∧ ∀ x, rdIn (TL.tl z) = some x → ∀ v, InAt H' v x → Q v H'
abbrev nRL : List Str := ["line", "words", "name", "instruction", "at", "field", "value"]
theorem scRL : FnScope nRL ["line"] (defScope s_read_line) := ⟨rfl, rfl, rfl, by decide +kernel, rfl, by decide +kernel, by decide +kernel⟩
theorem ok_rl {f : Addr} {fd : FuncData} (F : Fun K "_read_line" "_read_line" s_read_line f fd) (T : TxtT mg) (X : Tab K w mg aP aA aF aN es nn) (RT : ErrR K mg "TextError" ZT) (cRF : Calls P w K mg base (L2.CX P w) 2 "_read_field" ["field", "words", "at"] (spRF K ZT)) : FnOk P w K mg base (L2.CX P w) 3 f fd ["line"] (spRL K ZT) := by
  obtain ⟨fRF, dRF, GRF, kRF, bRF, gRF⟩ := cRF.ex
  refine F.okX scRL (fun vs H Q E h => ?_) (fun cdv A outer s H vs Q E hr2 h => ?_)
  · obtain ⟨_, rfl, _⟩ := h
    rfl
  · obtain ⟨z, rfl, hz, q⟩ := h
    refine ⟨_, (pss_cons (ps_set (i := 1) scRL.nd rfl (.inl rfl) (pe_split (pv 0) pe_str))
      (pss_cons (ps_set (i := 2) scRL.nd rfl (.inl rfl) (pe_ix ix_list (pv 1) pe_int (fun _ _ => rfl)))
      (pss_cons (ps_if (pt_cmpR (op_notIn_kd X.kN) (pv 2) (pe_glob (v := (.ref aN)) (by rfl) X.gN rfl) rfl) (pss_one (ps_raise rfl (takes_of rfl rfl rfl rfl) (pmk_own PySem.F.excBase_ValueError RT.x RT.g RT.k (raises_own RT.b RT.t) rfl))) pss_nil)
      (pss_cons (ps_set (i := 3) scRL.nd rfl (.inl rfl) (pe_lst (pa_cons (pv 2) pa_nil)))
      (pss_cons (ps_set (i := 4) scRL.nd rfl (.inl rfl) pe_int)
      (pss_cons (ps_for (passes_of rfl) rfl (pi_tup (pe_ix ix_kdict (pe_glob (v := (.ref aN)) (by rfl) X.gN rfl) (pv 2) (fun _ _ => rfl))) (pg_name (i := 5) scRL.nd rfl (.inl rfl)) (pss_cons (ps_if (pt_cmpR op_ge (pv 4) (pe_callB call_len_seq (by rfl) T.len PySem.boot_len (pa_cons (pv 1) pa_nil)) (nomark _)) (pss_one (ps_raise rfl (takes_of rfl rfl rfl rfl) (SkE.pmk_own1 PySem.F.excBase_ValueError RT.x RT.g RT.k (raises_own RT.b RT.t) rfl (pe_joinedN (.cons pe_str (.cons (pe_fmt (pv 2)) (.cons pe_str .nil))))))) pss_nil)
      (pss_cons (ps_asg (pe_callS GRF hr2 (by rfl) gRF kRF bRF (fun σ => passAt (takes_of rfl rfl rfl rfl) σ) (pa_cons (pv 5) (pa_cons (pv 1) (pa_cons (pv 4) pa_nil)))) (pg_tup rfl (pgs_cons (pg_name (i := 6) scRL.nd rfl (.inl rfl)) (pgs_cons (pg_name (i := 4) scRL.nd rfl (.inl rfl)) pgs_nil))))
      (pss_one (ps_expr (pe_bm PySem.F.plainAttrs_list PySem.F.slot_list_append PySem.F.type_list_append mt_append (pv 3) (pa_cons (pv 6) pa_nil)))))))
      (pss_cons (ps_if (pt_cmpR op_lt (pv 4) (pe_callB call_len_seq (by rfl) T.len PySem.boot_len (pa_cons (pv 1) pa_nil)) (nomark _)) (pss_one (ps_raise rfl (takes_of rfl rfl rfl rfl) (SkE.pmk_own1 PySem.F.excBase_ValueError RT.x RT.g RT.k (raises_own RT.b RT.t) rfl (pe_joinedN (.cons pe_str (.cons (pe_fmt (pv 2)) (.cons pe_str .nil))))))) pss_nil)
      (pss_one (ps_ret (pe_callTy call_tuple_of (by rfl) T.tuple (by decide +kernel) (pa_cons (pv 3) pa_nil))))))))))), ?_⟩
    have hzl := TL.len_tl z
    have hyW := split_wds z
    have hyS := lsum_strs (Txt.split z " ")
    rw [hyW, prt_wds, lsum_join _ (by obtain ⟨a, b, e⟩ := prt_cons (s := 32) (TL.tl z); rw [e]; exact List.cons_ne_nil _ _), prt_join] at hyS
    refine ⟨_, rfl, ⟨_, rfl⟩, z, " ", rfl, rfl, by decide, size64 (by omega), fun pw nw => ?_⟩
    have s1 := same_upd (o := .lst ((Txt.split z " ").map V.str)) nw
    have hys : (upd H pw (.lst ((Txt.split z " ").map V.str))) pw = some (.lst ((Txt.split z " ").map V.str)) := upd_same
    generalize Txt.split z " " = ys at hyW hys s1 hyS
    generalize upd H pw (.lst (ys.map V.str)) = H1 at hys s1
    obtain ⟨y0, yr, rfl⟩ : ∃ y0 yr, ys = y0 :: yr := by
      cases ys with
      | nil =>
        obtain ⟨a, b, e⟩ := wds_cons (TL.tl z)
        rw [e] at hyW
        cases hyW
      | cons a b => exact ⟨a, b, rfl⟩
    have hrd : rdIn (TL.tl z) = if y0 ∈ INm then (rdFs (fldN y0) (yr.map TL.tl)).map (Ins.mk y0) else none := by
      unfold rdIn
      rw [← hyW]
      show (if kS (TL.tl y0) ∈ INm then (rdFs (fldN (kS (TL.tl y0))) (yr.map TL.tl)).map (Ins.mk (kS (TL.tl y0))) else none) = _
      rw [kS_tl]
    rw [hrd] at q
    have hmem : ∀ y ∈ y0 :: yr, y.length ≤ 1500000 := fun y hy => by
      have h1 := lsum_mem (ws := (y0 :: yr).map TL.tl) (w := TL.tl y) (List.mem_map_of_mem hy)
      rw [← lsum_strs, hyS, ← TL.len_tl] at h1
      omega
    have hcnt : (y0 :: yr).length ≤ 1500001 := by omega
    have hy0l := hmem y0 List.mem_cons_self
    refine ⟨_, rfl, pw, _, _, _, rfl, rfl, SqL.of hys, atI_nat (j := 0) rfl, ?_⟩
    by_cases hK : y0 ∈ INm
    case neg =>
      exact ⟨_, rfl, y0, none, rfl, rfl, X.no y0 hK, _, rfl, iteT ((q _ s1).1 (by rw [if_neg hK]))⟩
    simp only [if_pos hK] at q
    obtain ⟨⟨pf, hpf, hpfS⟩, uF, huF⟩ := X.n y0 hK
    obtain ⟨hnl, hfl⟩ := names_len.1 y0 hK
    refine ⟨_, rfl, y0, some uF, rfl, rfl, huF, _, rfl, iteF ?_⟩
    refine ⟨_, rfl, by show 1 ≤ sizeLine; decide, fun pI nI => ?_⟩
    have s2 := same_upd (o := .lst [V.str y0]) nI
    have hpI0 : (upd H1 pI (.lst [V.str y0])) pI = some (.lst [V.str y0]) := upd_same
    generalize upd H1 pI (.lst [V.str y0]) = H2 at s2 hpI0
    refine ⟨_, rfl, aN, y0, .ref pf, rfl, rfl, hpf, pf, rfl, ⟨_, hpfS _⟩, for_tup (K := K) (a := pf) (xs := (fldN y0).map V.str) (fun i σ H' => ∃ (v5 v6 : Option V) (vs : List V) (ds : List Fv) (at_ : Nat), σ = [some (.str z), some (.ref pw), some (.str y0), some (.ref pI), some (.int (at_ : Int)), v5, v6] ∧ Same H1 H' ∧ H' pI = some (.lst (.str y0 :: vs)) ∧ FvsAt H' vs ds ∧ vs.length = i ∧ at_ ≤ (y0 :: yr).length ∧ rdFs (fldN y0) (yr.map TL.tl) = (rdFs ((fldN y0).drop i) (((y0 :: yr).map TL.tl).drop at_)).map (ds ++ ·))
      ⟨_, _, [], [], 1, rfl, s2, hpI0, trivial, rfl, by rw [List.length_cons]; omega, ?_⟩ (fun i σ H' _ _ => hpfS _) ?_ ?_⟩
    · show _ = (rdFs (fldN y0) (yr.map TL.tl)).map (fun l => [] ++ l)
      cases rdFs (fldN y0) (yr.map TL.tl) <;> rfl
    · rintro i u σ H3 hi ⟨v5, v6, vs, ds, at_, rfl, sm, hpI, hv, hvl, a2, hrf⟩
      rw [List.getElem?_map] at hi
      obtain ⟨fz, hfz, rfl⟩ := Option.map_eq_some_iff.mp hi
      have hil : i < (fldN y0).length := (List.getElem?_eq_some_iff.mp hfz).1
      have s03 := s1.trans sm
      rw [drop_at hfz, rdFs_cons] at hrf
      have hys3 := sm _ _ hys
      have npI : ∀ b o, H1 b = some o → b ≠ pI := fun b o e => ne_of_none e nI
      refine ⟨_, rfl, _, rfl, pw, _, rfl, .inl (SqL.of hys3), _, _, rfl, rfl, _, rfl, ?_⟩
      rw [List.length_map]
      by_cases c : (y0 :: yr).length ≤ at_
      · rw [decide_eq_true (show (((y0 :: yr).length : Nat) : Int) ≤ (at_ : Int) by omega)]
        refine iteT (join3 (by decide +kernel) (by decide +kernel) ⟨_, rfl, y0, rfl, by omega, fun _ => (q _ s03).1 ?_⟩)
        rw [hrf, List.drop_eq_nil_of_le (by rw [List.length_map]; exact c)]
        rfl
      rw [decide_eq_false (show ¬ (((y0 :: yr).length : Nat) : Int) ≤ (at_ : Int) by omega)]
      refine iteF ⟨_, rfl, _, rfl, _, rfl, fz, pw, y0 :: yr, at_, rfl, hys3, by omega, hcnt, hmem, fun H4 s4 => ⟨fun hno => ?_, fun d W' hd v p j hv4 hp4 hj hW => ?_⟩⟩
      · refine (q _ (s03.trans s4)).1 ?_
        rw [hrf, hno]
        rfl
      have hpI4 := s4 _ _ hpI
      refine ⟨p, _, rfl, SqT.of hp4, rfl, _, _, rfl, _, _, rfl, rfl, ?_⟩
      refine ⟨_, rfl, .inl ⟨rfl, _, SqL.of hpI4⟩, _, rfl, pI, _, _, rfl, rfl, hpI4, by rw [List.length_cons]; exact small64 (by omega), ?_⟩
      have hn := nl_upd (o := .lst (V.str y0 :: vs ++ [v])) hpI4
      refine ⟨_, _, vs ++ [v], ds ++ [d], j, rfl, fun b o e => ?_, upd_same, ((hv.keep (Same.nl s4)).keep hn).snoc (hv4.keep hn), by rw [List.length_append, hvl]; rfl, hj, ?_⟩
      · rw [upd_ne (npI b o e)]
        exact s4 _ _ (sm _ _ e)
      · rw [hrf, hd, Option.bind_some, hW, Option.map_map]
        congr 1
        funext l
        show ds ++ d :: l = ds ++ [d] ++ l
        simp
    · rintro σ H3 ⟨v5, v6, vs, ds, at_, rfl, sm, hpI, hv, hvl, a2, hrf⟩
      have s03 := s1.trans sm
      have hys3 := sm _ _ hys
      rw [List.length_map, List.drop_length] at hrf
      refine ⟨_, rfl, _, rfl, pw, _, rfl, .inl (SqL.of hys3), _, _, rfl, rfl, _, rfl, ?_⟩
      rw [List.length_map]
      by_cases c : at_ < (y0 :: yr).length
      · rw [decide_eq_true (show (at_ : Int) < (((y0 :: yr).length : Nat) : Int) by omega)]
        refine iteT (join3 (by decide +kernel) (by decide +kernel) ⟨_, rfl, y0, rfl, by omega, fun _ => (q _ s03).1 ?_⟩)
        obtain ⟨a, ha⟩ : ∃ a, ((y0 :: yr).map TL.tl)[at_]? = some a := ⟨_, List.getElem?_eq_getElem (by rw [List.length_map]; exact c)⟩
        rw [hrf, drop_at ha]
        rfl
      rw [decide_eq_false (show ¬ (at_ : Int) < (((y0 :: yr).length : Nat) : Int) by omega)]
      refine iteF ⟨_, rfl, pI, _, rfl, .inl ⟨SqL.of hpI, fun t nt => ?_⟩⟩
      have st := same_upd (o := .tup (V.str y0 :: vs)) nt
      rw [List.drop_eq_nil_of_le (by rw [List.length_map]; omega)] at hrf
      refine (q _ (s03.trans st)).2 ⟨y0, ds⟩ ?_ _ ⟨t, vs, rfl, upd_same, hv.keep (Same.nl st)⟩
      rw [hrf]
      show some (Ins.mk y0 (ds ++ [])) = _
      rw [List.append_nil]
end

theorem cutV_init (xs : List V) : cutV xs none (some (-1)) = xs.dropLast := by
  unfold cutV
  have e : HT.sIx xs.length xs.length (some (-1)) = xs.length - 1 := by
    show (((-1 : Int)) + (xs.length : Int)).toNat = _
    omega
  rw [e, HT.sIx_none, List.drop_zero, Nat.sub_zero]
  exact (List.dropLast_eq_take).symm
theorem inW_tup {x : Ins} {ns : List Int} (h : Fv.tup ns ∈ x.fs) : ns.length ≤ (inW x).length := by
  unfold inW
  rw [List.length_cons]
  have h1 : (Fv.tup ns).words.length ≤ (x.fs.flatMap Fv.words).length := by
    obtain ⟨a, b, e⟩ := List.append_of_mem h
    rw [e, List.flatMap_append, List.flatMap_cons, List.length_append, List.length_append]
    omega
  have h2 : (Fv.tup ns).words.length = ns.length + 1 := by
    show (txt _ :: ns.map txt).length = _
    rw [List.length_cons, List.length_map]
  omega
theorem sml_of {x : Ins} {N : Nat} (h : (inL x).length ≤ N) (hN : N ≤ 1999999) : Sml x := fun ns hm => by
  have h1 := inW_tup hm
  have h2 := lsum_len (inW x)
  have h3 := lsum_join (inW x) (List.cons_ne_nil _ _)
  have h4 : (TL.joinL [32] (inW x)).length = (inL x).length := rfl
  omega
theorem inL_mem {xs : List Ins} {x : Ins} (h : x ∈ xs) : (inL x).length + 1 ≤ (cdT xs).length := by
  obtain ⟨a, b, rfl⟩ := List.append_of_mem h
  unfold cdT
  rw [List.flatMap_append, List.flatMap_cons, List.length_append, List.length_append, List.length_append]
  simp only [List.length_cons, List.length_nil]
  omega
theorem cdT_len (xs : List Ins) : xs.length ≤ (cdT xs).length := by
  induction xs with
  | nil => exact Nat.zero_le _
  | cons x xs ih =>
    unfold cdT at *
    rw [List.flatMap_cons, List.length_append, List.length_append, List.length_cons]
    simp only [List.length_cons, List.length_nil]
    omega
section
variable {P : Program} {w : World} {K : PySem.W.Frag} {mg : Str → Option Value} {base : Heap} {ZT : Addr}
/-! ### read_code -/
def spRC (K : PySem.W.Frag) (C : Nat → Addr) (ZT : Addr) : Sp := fun vs H Q E => ∃ (pm : Addr) (m : Mch) (ms : List Int) (z : Str), vs = [.ref pm, .str z] ∧ SqT K H pm (ms.map V.int) ∧ MOk m ms ∧ z.length ≤ 1500000 ∧
  ∀ H', Same H H' → (rdC (TL.tl z) = none → E (.ref ZT) none H') ∧ ∀ xs, rdC (TL.tl z) = some xs → (¬ okC m xs → Bad C E H') ∧ (okC m xs → ∀ p, CodeAt K H' p xs → Q (.ref p) H')
abbrev nRC : List Str := ["machine", "text", "lines", "code", "line"]
theorem scRC : FnScope nRC ["machine", "text"] (defScope sread_code) := ⟨rfl, rfl, rfl, by decide +kernel, rfl, by decide +kernel, by decide +kernel⟩
theorem ok_rc {C : Nat → Addr} {f : Addr} {fd : FuncData} (F : Fun K "read_code" "read_code" sread_code f fd) (T : TxtT mg) (RT : ErrR K mg "TextError" ZT) (cCM : Calls P w K mg base CX0 1 "check_machine" ["machine"] (spCM K)) (cRL : Calls P w K mg base (L2.CX P w) 3 "_read_line" ["line"] (spRL K ZT)) (cCK : Calls P w K mg base (L2.CX P w) 5 "check_code" ["machine", "code"] (spCK K C)) : FnOk P w K mg base (L2.CX P w) 6 f fd ["machine", "text"] (spRC K C ZT) := by
  obtain ⟨fCM, dCM, GCM, kCM, bCM, gCM⟩ := cCM.ex
  obtain ⟨fRL, dRL, GRL, kRL, bRL, gRL⟩ := cRL.ex
  obtain ⟨fCK, dCK, GCK, kCK, bCK, gCK⟩ := cCK.ex
  refine F.okX scRC (fun vs H Q E h => ?_) (fun cdv A outer s H vs Q E hr5 h => ?_)
  · obtain ⟨_, _, _, _, rfl, _⟩ := h
    rfl
  · obtain ⟨pm, m, ms, z, rfl, hpm, hm, hz, q⟩ := h
    have hr1 : Room 1 _ := hr5.mono (by decide)
    have hr3 : Room 3 _ := hr5.mono (by decide)
    refine ⟨_, (pss_cons (ps_expr (pe_call GCM hr1 (by rfl) gCM kCM bCM .nil pass0 (pa_cons (pv 0) pa_nil)))
      (Evl.pss_cut (ps_if (PW.pt (pw_and (pt_cmpR op_ne (pv 1) pe_str (nomark _)) (pw_and1 (pt_not (pt_val (pe_bm PySem.F.plainAttrs_str PySem.F.slot_str_endswith PySem.F.type_str_endswith mt_endswith (pv 1) (pa_cons pe_str pa_nil))))))) (pss_one (ps_raise rfl (takes_of rfl rfl rfl rfl) (pmk_own PySem.F.excBase_ValueError RT.x RT.g RT.k (raises_own RT.b RT.t) rfl))) pss_nil)
      (pss_cons (ps_set (i := 2) scRC.nd rfl (.inl rfl) (pe_split (pv 1) pe_str))
      (pss_cons (ps_set (i := 3) scRC.nd rfl (.inl rfl) (pe_callTy call_tuple_of (by rfl) T.tuple (by decide +kernel) (pa_cons (pe_lcX rfl rfl (takes_of rfl rfl rfl rfl) (own := [("line", 4)]) (g := (gName 4)) (tt := tYes) (te := (tCallS (spRL K ZT) (fun _ => E) (tCons (tVar 4) tNil))) rfl scRC.nd (pi_list (pe_slice sl_list (pv 2) po_none (po_some (pe_un un_neg pe_int)))) (blkOk_by (N := nRC) (sc := defScope sread_code) (by decide +kernel)) (fun _ _ _ _ _ _ => (pg_name (i := 4) scRC.nd rfl (.inl rfl) (hf := Or.inr rfl))) (fun _ _ _ _ _ _ => pts_nil) (fun _ _ _ _ _ _ hpX => (pe_callS GRL hr3 (by rfl) gRL kRL bRL hpX (pa_cons (pv 4) pa_nil)))) pa_nil)))
      (pss_cons (ps_expr (pe_callS GCK hr5 (by rfl) gCK kCK bCK (fun σ => passAt (takes_of rfl rfl rfl rfl) σ) (pa_cons (pv 0) (pa_cons (pv 3) pa_nil))))
      (pss_one (ps_ret (pv 3)))))))), ?_⟩
    have hzl := TL.len_tl z
    refine ⟨_, rfl, pm, m, ms, rfl, hpm, hm, fun H1 s1 => ?_⟩
    have e0 : TL.tl ("" : Str) = [] := rfl
    have h1080 : (1500001 : Nat) < 10 ^ 80 := by decide +kernel
    refine ⟨fun σ' H' => σ' = [some (.ref pm), some (.str z), none, none, none] ∧ H' = H1 ∧ ¬ (TL.tl z ≠ [] ∧ (TL.tl z).getLast? ≠ some 10), ?_, ?_⟩
    · refine ⟨_, rfl, rfl, _, rfl, ?_⟩
      rw [dec_tl, e0]
      by_cases c1 : TL.tl z = []
      · rw [decide_eq_true c1]
        exact iteF (iteF ⟨rfl, rfl, fun h => h.1 c1⟩)
      rw [decide_eq_false c1]
      refine iteT ⟨_, rfl, rfl, z, "\n", rfl, rfl, _, rfl, ?_⟩
      rw [ends10]
      by_cases c2 : (TL.tl z).getLast? = some 10
      · rw [decide_eq_true c2]
        exact iteF ⟨rfl, rfl, fun h => h.2 c2⟩
      · rw [decide_eq_false c2]
        refine iteT ((q _ s1).1 ?_)
        unfold rdC
        rw [if_pos ⟨c1, c2⟩]
    rintro σ' H' ⟨rfl, rfl, hend⟩
    have hrd : rdC (TL.tl z) = (prt 10 (TL.tl z)).dropLast.mapM rdIn := by unfold rdC; rw [if_neg hend]
    have hLs := lsum_strs (Txt.split z "\n")
    have hL := split10 z
    rw [hL, lsum_j10 _ (by obtain ⟨a, b, e⟩ := prt_cons (s := 10) (TL.tl z); rw [e]; exact List.cons_ne_nil _ _), prt_join, ← hzl] at hLs
    refine ⟨_, rfl, ⟨_, rfl⟩, z, "\n", rfl, rfl, by decide, size64 (by omega), fun pl nl => ?_⟩
    have s2 := same_upd (o := .lst ((Txt.split z "\n").map V.str)) nl
    have hpl : (upd H' pl (.lst ((Txt.split z "\n").map V.str))) pl = some (.lst ((Txt.split z "\n").map V.str)) := upd_same
    generalize Txt.split z "\n" = ys at hL hLs hpl s2
    generalize upd H' pl (.lst (ys.map V.str)) = H2 at hpl s2
    have hD : (prt 10 (TL.tl z)).dropLast = ys.dropLast.map TL.tl := by rw [← hL, List.map_dropLast]
    rw [hD] at hrd
    rw [hrd] at q
    have hym : ∀ y ∈ ys, y.length ≤ 1500000 := fun y hy => by
      have h1 := mem_sumL (l := ys.map (·.length)) (n := y.length) (List.mem_map.mpr ⟨y, hy, rfl⟩)
      have : 0 < ys.length := List.length_pos_of_mem hy
      omega
    have hyl : ys.length ≤ 1500001 := by omega
    dsimp only [tNoPart]
    refine ⟨_, rfl, _, rfl, _, rfl, pl, _, rfl, SqL.of hpl, fun S nS => ?_⟩
    have hcut : cutV (ys.map V.str) none (some (-1)) = ys.dropLast.map V.str := by rw [cutV_init, List.map_dropLast]
    have sS := same_upd (o := .lst (cutV (ys.map V.str) none (some (-1)))) nS
    have hS : (upd H2 S (.lst (cutV (ys.map V.str) none (some (-1))))) S = some (.lst (ys.dropLast.map V.str)) := by rw [upd_same, hcut]
    generalize upd H2 S (.lst (cutV (ys.map V.str) none (some (-1)))) = H3 at sS hS
    have hzm : ∀ y ∈ ys.dropLast, y.length ≤ 1500000 := fun y hy => hym y (List.dropLast_subset _ hy)
    have hzl2 : ys.dropLast.length ≤ 1500001 := by rw [List.length_dropLast]; omega
    generalize ys.dropLast = zs at *
    have s03 := (s1.trans s2).trans sS
    refine ⟨S, rfl, ⟨_, SqL.of hS⟩, fun D nD => lc_list (K := K) (a := S) (xs := zs.map V.str) (fun i H4 => Same H3 H4 ∧ ∃ vs xs, H4 D = some (.lst vs) ∧ InsAt H4 vs xs ∧ ((zs.map TL.tl).take i).mapM rdIn = some xs) ⟨same_upd nD, [], [], upd_same, InsAt.nil _, rfl⟩ (fun i H4 _ h => SqL.of (h.1 _ _ hS)) ?_ ?_⟩
    · rintro i x H4 hx ⟨sm, vs, xs, hD4, hv, hmm⟩
      rw [List.getElem?_map] at hx
      obtain ⟨y, hy, rfl⟩ := Option.map_eq_some_iff.mp hx
      have hi : i < zs.length := (List.getElem?_eq_some_iff.mp hy).1
      have hyt : (zs.map TL.tl)[i]? = some (TL.tl y) := by rw [List.getElem?_map, hy]; rfl
      refine ⟨rfl, tYes_go ⟨_, rfl, y, rfl, hzm y (List.mem_of_getElem? hy), fun H5 s5 => ⟨fun hno => ?_, fun x hx v hv5 => ?_⟩⟩⟩
      · refine (q _ ((s03.trans sm).trans s5)).1 ?_
        rw [← List.take_append_drop i (zs.map TL.tl), drop_at hyt, mapM_none' hno]
      · have hvl : vs.length = i := by
          have := mapM_len' hmm
          rw [List.length_take, List.length_map] at this
          rw [hv.1, this]
          omega
        refine ⟨vs, s5 _ _ hD4, small64 (by omega), ?_, vs ++ [v], xs ++ [x], upd_same, ?_, ?_⟩
        · exact fun b o e => by rw [upd_ne (ne_of_none e nD)]; exact s5 _ _ (sm _ _ e)
        · have hn := nl_upd (o := .lst (vs ++ [v])) (s5 _ _ hD4)
          exact ((hv.keep (Same.nl s5)).keep hn).app (InsAt.one (hv5.keep hn))
        · rw [take_snoc hyt]
          exact mapM_snoc' hmm hx
    rintro H4 ⟨sm4, vs, xs, hD4, hv, hmm⟩
    rw [List.length_map, ← List.length_map (f := TL.tl) (as := zs), List.take_length] at hmm
    have hxs : rdC (TL.tl z) = some xs := by rw [hrd]; exact hmm
    obtain ⟨i1, i2, i3, i4⟩ := rdC_inv hxs (by omega)
    have hxl : xs.length ≤ 1500000 := by
      have := cdT_len xs
      rw [i1] at this
      omega
    rw [hmm] at q
    refine ⟨D, _, rfl, .inl ⟨SqL.of hD4, fun pn npn => ?_⟩⟩
    have sn := same_upd (o := .tup vs) npn
    have hpn : SqT K (upd H4 pn (.tup vs)) pn vs := SqT.of upd_same
    have hv' := hv.keep (Same.nl sn)
    generalize upd H4 pn (.tup vs) = H5 at sn hpn hv'
    have s05 := (s03.trans sm4).trans sn
    refine ⟨_, rfl, _, rfl, pm, pn, m, ms, xs, rfl, sqT_same hpm s05, hm, ⟨vs, hpn, hv'⟩, fun x hx => ⟨i2 x hx, ?_⟩, by omega, fun H6 s6 => ⟨fun ho => ?_, fun hb => ((q _ (s05.trans s6)).2 xs rfl).1 hb⟩⟩
    · refine sml_of (N := 1500000) ?_ (by decide)
      have := inL_mem hx
      rw [i1] at this
      omega
    · exact ⟨_, rfl, ((q _ (s05.trans s6)).2 xs rfl).2 ho pn ⟨vs, sqT_same hpn s6, hv'.keep (Same.nl s6)⟩⟩
end
theorem passN {P : Program} {w : World} {X : Cx} : Passes (L2.CX P w) X E0 := fun _ _ _ _ _ _ _ h => by
  obtain ⟨_, _, _, _, _, _, _, _, _, _, _, _, z⟩ := h
  exact z.elim

theorem tOr_str {i : Nat} {a b f : Str} {σ : St} {H : Hp} {k : Bool → Hp → Prop} (hv : σ[i]? = some (some (.str f))) (h : k (decide (f = a ∨ f = b)) H) : tOr (tTest (tOp rEq (tVar i) (tC (.str a)))) (tTest (tOp rEq (tVar i) (tC (.str b)))) σ H k := by
  refine ⟨_, hv, rfl, _, rfl, ?_⟩
  by_cases c1 : f = a
  · rw [decide_eq_true (show V.str f = V.str a by rw [c1])]
    rw [decide_eq_true (.inl c1)] at h
    exact iteT h
  rw [str_ne c1]
  refine iteF ⟨_, hv, rfl, _, rfl, ?_⟩
  by_cases c2 : f = b
  · rw [decide_eq_true (show V.str f = V.str b by rw [c2])]
    rw [decide_eq_true (.inr c2)] at h
    exact h
  rw [str_ne c2]
  rw [decide_eq_false (fun z => z.elim c1 c2)] at h
  exact h
section
variable {P : Program} {w : World} {K : PySem.W.Frag} {mg : Str → Option Value} {base : Heap} {aP aA aF aN : Addr} {es : Array DictEntry} {nn : Nat}
/-! ### _line -/
def spLi (K : PySem.W.Frag) : Sp := fun vs H Q _ => ∃ (p : Addr) (x : Ins), vs = [.ref p] ∧ InAt H (.ref p) x ∧ InOk x ∧ (inL x).length ≤ 1500000 ∧ ∀ H' y, Same H H' → TL.tl y = inL x → Q (.str y) H'
abbrev nLi : List Str := ["instruction", "words", "field", "value", "n"]
theorem scLi : FnScope nLi ["instruction"] (defScope s_line) := ⟨rfl, rfl, rfl, by decide +kernel, rfl, by decide +kernel, by decide +kernel⟩
theorem ok_li {f : Addr} {fd : FuncData} (F : Fun K "_line" "_line" s_line f fd) (T : TxtT mg) (X : Tab K w mg aP aA aF aN es nn) : FnOk P w K mg base CX0 1 f fd ["instruction"] (spLi K) := by
  refine F.ok scLi (fun vs H Q E h => ?_) (fun cdv A outer s H vs Q E hr h => ?_)
  · obtain ⟨_, _, rfl, _⟩ := h
    rfl
  · obtain ⟨p, x, rfl, hx, hok, hlen, q⟩ := h
    obtain ⟨p', vx, e, hp, hv⟩ := hx
    cases e
    refine ⟨_, (pss_cons (ps_set (i := 1) scLi.nd rfl (.inl rfl) (pe_lst (pa_cons (pe_ix ix_tup (pv 0) pe_int (fun _ _ => rfl)) pa_nil)))
      (pss_cons (ps_for PassesOwn.never rfl (RZ.pi_zipA (by rfl) T.zip (pa_cons (pe_ix ix_kdict (pe_glob (v := (.ref aN)) (by rfl) X.gN rfl) (pe_ix ix_tup (pv 0) pe_int (fun _ _ => rfl)) (fun _ _ => rfl)) (pa_cons (pe_slice sl_tup (pv 0) (po_some pe_int) po_none) pa_nil))) (pg_tup rfl (pgs_cons (pg_name (i := 2) scLi.nd rfl (.inl rfl)) (pgs_cons (pg_name (i := 3) scLi.nd rfl (.inl rfl)) pgs_nil))) (pss_one (ps_if (PW.pt (pw_or (pt_cmpR op_eq (pv 2) pe_str (nomark _)) (pw_or1 (pt_cmpR op_eq (pv 2) pe_str (nomark _))))) (pss_cons (ps_expr (pe_bm PySem.F.plainAttrs_list PySem.F.slot_list_append PySem.F.type_list_append mt_append (pv 1) (pa_cons (pe_callTy call_str_int (by rfl) T.str (by decide +kernel) (pa_cons (pe_callB call_len_seq (by rfl) T.len PySem.boot_len (pa_cons (pv 3) pa_nil)) pa_nil)) pa_nil)))
      (pss_one (ps_expr (pe_bm PySem.F.plainAttrs_list PySem.F.slot_list_extend PySem.F.type_list_extend mt_extend (pv 1) (pa_cons (pe_lc (own := [("n", 4)]) (g := (gName 4)) (tt := tYes) (te := (tCB rStrI (tCons (tVar 4) tNil))) rfl scLi.nd (pi_tup (pv 3)) (blkOk_by (N := nLi) (sc := defScope s_line) (by decide +kernel)) (fun _ _ _ _ _ => (pg_name (i := 4) scLi.nd rfl (.inl rfl) (hf := Or.inr rfl))) (fun _ _ _ _ _ => pts_nil) (fun _ _ _ _ _ => (pe_callTy call_str_int (by rfl) T.str (by decide +kernel) (pa_cons (pv 4) pa_nil)))) pa_nil))))) (pss_one (ps_expr (pe_bm PySem.F.plainAttrs_list PySem.F.slot_list_append PySem.F.type_list_append mt_append (pv 1) (pa_cons (pe_callTy call_strB (by rfl) T.str (by decide +kernel) (pa_cons (pv 3) pa_nil)) pa_nil)))))))
      (pss_one (ps_ret (pe_join pe_str (pv 1)))))), ?_⟩
    have hxl : vx.length = (fldN x.nm).length := by rw [hv.len, hok.ty.len]
    obtain ⟨⟨pf, hpf, hpfS⟩, uF, huF⟩ := X.n x.nm hok.nm
    refine ⟨_, rfl, p, _, 0, _, rfl, rfl, SqT.of hp, i0, ?_⟩
    refine ⟨by show 1 ≤ sizeLine; decide, fun pw nw => ?_⟩
    have s1 := same_upd (o := .lst [V.str x.nm]) nw
    have hW0 : WL (upd H pw (.lst [V.str x.nm])) pw [TL.tl x.nm] := ⟨[x.nm], upd_same, rfl⟩
    generalize upd H pw (.lst [V.str x.nm]) = H1 at s1 hW0
    have hp1 := s1 _ _ hp
    have hwl : lsum (inW x) = (inL x).length + 1 := lsum_join (inW x) (List.cons_ne_nil _ _)
    have hwn := lsum_len (inW x)
    have hwb : (inW x).length ≤ 1500001 := by omega
    refine ⟨_, rfl, p, _, 0, _, rfl, rfl, SqT.of hp1, i0, aN, x.nm, .ref pf, rfl, rfl, hpf, _, rfl, 1, rfl, p, _, rfl, SqT.of hp1, fun z => notall z.1, fun S nS => ?_⟩
    have hcut : cutV (V.str x.nm :: vx) (some 1) none = vx := cutV_from _ 1
    have sS := same_upd (o := .tup (cutV (V.str x.nm :: vx) (some 1) none)) nS
    have hS : (upd H1 S (.tup (cutV (V.str x.nm :: vx) (some 1) none))) S = some (.tup vx) := by rw [upd_same, hcut]
    generalize upd H1 S (.tup (cutV (V.str x.nm :: vx) (some 1) none)) = H2 at sS hS
    have npw : ∀ b o, H b = some o → b ≠ pw := fun b o e => ne_of_none e nw
    have hS0 : H1 S = none := nS
    have npS : S ≠ pw := fun e => by
      obtain ⟨ys, h1, _⟩ := hW0
      rw [e, h1] at hS0
      cases hS0
    have s12 := s1.trans sS
    refine ⟨pf, S, _, _, rfl, .inr ⟨hpfS _, SqT.of hS, RZ.for_zipT (K := K) (a := pf) (b := S) (xs := (fldN x.nm).map V.str) (ys := vx) (by rw [List.length_map, hxl])
      (fun i σ H' => ∃ (v2 v3 v4 : Option V), σ = [some (.ref p), some (.ref pw), v2, v3, v4] ∧ Same H H' ∧ H' S = some (.tup vx) ∧ WL H' pw (TL.tl x.nm :: (x.fs.take i).flatMap Fv.words)) ⟨none, none, none, rfl, s12, hS, hW0.same sS⟩ ?_ ?_ ?_⟩⟩
    · rintro i σ H' ⟨v2, v3, v4, _, sm, hS', _⟩
      exact ⟨hpfS _, SqT.of hS'⟩
    · rintro i u v T' σ H' h1 h2 ⟨v2, v3, v4, rfl, sm, hS', hWl⟩ nT
      rw [List.getElem?_map] at h1
      obtain ⟨z, hz, rfl⟩ := Option.map_eq_some_iff.mp h1
      have hi : i < x.fs.length := by
        have := (List.getElem?_eq_some_iff.mp hz).1
        have := hok.ty.len
        omega
      have hd : x.fs[i]? = some x.fs[i] := List.getElem?_eq_getElem hi
      generalize x.fs[i] = d at hd
      have sT := same_upd (o := .tup [V.str z, v]) nT
      have smT := sm.trans sT
      have hdv := ((hv.keep (Same.nl smT))).at h2 hd
      have hk := hok.ty.at hz hd
      have hbd := hok.bd d (List.mem_of_getElem? hd)
      have hWT := hWl.same sT
      have hST := sT _ _ hS'
      have hcount : (TL.tl x.nm :: (x.fs.take i).flatMap Fv.words).length + d.words.length ≤ 1500001 := by
        have e : inW x = (TL.tl x.nm :: (x.fs.take i).flatMap Fv.words) ++ (d.words ++ (x.fs.drop (i + 1)).flatMap Fv.words) := by
          unfold inW
          conv => lhs; rw [← List.take_append_drop i x.fs, drop_at hd]
          rw [List.flatMap_append, List.flatMap_cons]
          rfl
        rw [e, List.length_append, List.length_append] at hwb
        omega
      have hnext : TL.tl x.nm :: (x.fs.take (i + 1)).flatMap Fv.words = (TL.tl x.nm :: (x.fs.take i).flatMap Fv.words) ++ d.words := by
        rw [take_snoc hd, List.flatMap_append, List.flatMap_cons, List.flatMap_nil, List.append_nil]
        rfl
      refine ⟨T', _, rfl, SqT.of upd_same, rfl, _, _, rfl, _, _, rfl, rfl, ?_⟩
      generalize upd H' T' (.tup [V.str z, v]) = H3 at sT smT hdv hWT hST
      refine tOr_str rfl ?_
      by_cases hf : z = "sources" ∨ z = "info"
      · rw [decide_eq_true hf]
        obtain ⟨ns, rfl⟩ := knd_tup hf hk
        obtain ⟨a, rfl, ha⟩ := hdv
        have hwl1 : (Fv.tup ns).words.length = ns.length + 1 := by
          show (txt _ :: ns.map txt).length = _
          rw [List.length_cons, List.length_map]
        obtain ⟨ys, hD, hyl, hW'⟩ := hWT.app (z := ((toString ((ns.length : Nat) : Int) : String) : Str))
        refine iteT ⟨_, rfl, .inl ⟨rfl, _, SqL.of hD⟩, _, rfl, a, _, rfl, .inr (SqT.of ha), _, rfl, ?_, pw, _, _, rfl, rfl, hD, by rw [List.length_map, hyl]; exact small64 (by omega), ?_⟩
        · rw [List.length_map]
          exact log90 (by have : (1500001 : Nat) < 10 ^ 90 := by decide +kernel
                          omega)
        rw [List.length_map]
        rw [str_txt] at hW'
        have sm4 : Same H (upd H3 pw (.lst (ys.map V.str ++ [V.str ((toString ((ns.length : Nat) : Int) : String) : Str)]))) := fun b o e => by rw [upd_ne (npw b o e)]; exact smT _ _ e
        have ha4 : (upd H3 pw (.lst (ys.map V.str ++ [V.str ((toString ((ns.length : Nat) : Int) : String) : Str)]))) a = some (.tup (ns.map V.int)) := by rw [upd_ne (ne_of ha hD (fun z => nomatch z))]; exact ha
        have hS4 : (upd H3 pw (.lst (ys.map V.str ++ [V.str ((toString ((ns.length : Nat) : Int) : String) : Str)]))) S = some (.tup vx) := by rw [upd_ne npS]; exact hST
        generalize upd H3 pw (.lst (ys.map V.str ++ [V.str ((toString ((ns.length : Nat) : Int) : String) : Str)])) = H4 at hW' sm4 ha4 hS4
        obtain ⟨us, hD4, hus⟩ := id hW'
        refine ⟨_, rfl, .inl ⟨rfl, _, SqL.of hD4⟩, _, rfl, a, rfl, ⟨_, SqT.of ha4⟩, fun D nD => lc_tup (K := K) (a := a) (xs := ns.map V.int) (fun j H5 => Same H4 H5 ∧ WL H5 D ((ns.take j).map txt)) ⟨same_upd nD, [], upd_same, rfl⟩ (fun j H5 _ h => sqT_same (SqT.of ha4) h.1) ?_ ?_⟩
        · rintro j y H5 hy ⟨sm5, hWj⟩
          obtain ⟨n, rfl, hn⟩ := map_int_at hy
          have hj : j < ns.length := (List.getElem?_eq_some_iff.mp hn).1
          obtain ⟨ts, hDj, htl, hW2⟩ := hWj.app (z := ((toString n : String) : Str))
          rw [List.length_map, List.length_take] at htl
          refine ⟨rfl, tYes_go ⟨_, rfl, n, rfl, log90 (hbd.1 n (List.mem_of_getElem? hn)), _, hDj, by rw [List.length_map, htl]; exact small64 (by omega), ?_, ?_⟩⟩
          · exact fun b o e => by rw [upd_ne (ne_of_none e nD)]; exact sm5 _ _ e
          · rw [take_snoc hn, List.map_append]
            rw [str_txt] at hW2
            exact hW2
        · rintro H5 ⟨sm5, ts, hDj, hts⟩
          rw [List.length_map, List.take_length] at hts
          have htl : ts.length = ns.length := by rw [← List.length_map (f := TL.tl), hts, List.length_map]
          have hul : us.length = (TL.tl x.nm :: (x.fs.take i).flatMap Fv.words).length + 1 := by
            rw [← List.length_map (f := TL.tl), hus, List.length_append]
            rfl
          have npD : ∀ b o, H4 b = some o → b ≠ D := fun b o e => ne_of_none e nD
          refine ⟨pw, D, _, _, rfl, rfl, sm5 _ _ hD4, hDj, by rw [List.length_map, List.length_map]; exact size64 (by omega), ?_⟩
          refine ⟨_, _, _, rfl, fun b o e => ?_, ?_, us ++ ts, by rw [upd_same, List.map_append], ?_⟩
          · rw [upd_ne (npw b o e)]
            exact sm5 _ _ (sm4 _ _ e)
          · rw [upd_ne npS]
            exact sm5 _ _ hS4
          · rw [List.map_append, hus, hts, hnext, List.append_assoc]
            rfl
      · rw [decide_eq_false hf]
        cases d with
        | tup ns => exact absurd hk hf
        | str y =>
          have hdv : v = .str y := hdv
          subst hdv
          obtain ⟨ys, hD, hyl, hW'⟩ := hWT.app (z := y)
          refine iteF ⟨_, rfl, .inl ⟨rfl, _, SqL.of hD⟩, _, rfl, .inr ⟨y, rfl, pw, _, _, rfl, rfl, hD, by rw [List.length_map, hyl]; exact small64 (by omega), ?_⟩⟩
          refine ⟨_, _, _, rfl, fun b o e => by rw [upd_ne (npw b o e)]; exact smT _ _ e, by rw [upd_ne npS]; exact hST, ?_⟩
          rw [hnext]
          exact hW'
        | int n =>
          have hdv : v = .int n := hdv
          subst hdv
          obtain ⟨ys, hD, hyl, hW'⟩ := hWT.app (z := ((toString n : String) : Str))
          rw [str_txt] at hW'
          refine iteF ⟨_, rfl, .inl ⟨rfl, _, SqL.of hD⟩, _, rfl, .inl ⟨n, rfl, log90 hbd, pw, _, _, rfl, rfl, hD, by rw [List.length_map, hyl]; exact small64 (by omega), ?_⟩⟩
          refine ⟨_, _, _, rfl, fun b o e => by rw [upd_ne (npw b o e)]; exact smT _ _ e, by rw [upd_ne npS]; exact hST, ?_⟩
          rw [hnext]
          exact hW'
    · rintro σ H' ⟨v2, v3, v4, rfl, sm, hS', hWl⟩
      rw [List.length_map, hok.ty.len, List.take_length] at hWl
      obtain ⟨ys, hD, hys⟩ := hWl
      have hys : ys.map TL.tl = inW x := hys
      refine ⟨⟨_, rfl⟩, _, rfl, " ", pw, ys, rfl, rfl, .inl (SqL.of hD), ?_, q _ _ sm ?_⟩
      · have := lsum_strs ys
        rw [hys, hwl] at this
        exact size64 (by show _ + ys.length * 1 ≤ _; omega)
      · rw [join_tl, hys]
        rfl
/-! ### write_code -/
def spWC (K : PySem.W.Frag) : Sp := fun vs H Q _ => ∃ (pm p : Addr) (m : Mch) (ms : List Int) (xs : List Ins), vs = [.ref pm, .ref p] ∧ SqT K H pm (ms.map V.int) ∧ MOk m ms ∧ CodeAt K H p xs ∧ (∀ x ∈ xs, InOk x) ∧ (cdT xs).length ≤ 1500000 ∧ okC m xs ∧ ∀ H' y, Same H H' → TL.tl y = cdT xs → Q (.str y) H'
abbrev nWC : List Str := ["machine", "code", "instruction"]
theorem scWC : FnScope nWC ["machine", "code"] (defScope swrite_code) := ⟨rfl, rfl, rfl, by decide +kernel, rfl, by decide +kernel, by decide +kernel⟩
theorem ok_wc {C : Nat → Addr} {f : Addr} {fd : FuncData} (F : Fun K "write_code" "write_code" swrite_code f fd) (cCK : Calls P w K mg base (L2.CX P w) 5 "check_code" ["machine", "code"] (spCK K C)) (cLi : Calls P w K mg base CX0 1 "_line" ["instruction"] (spLi K)) : FnOk P w K mg base CX0 6 f fd ["machine", "code"] (spWC K) := by
  obtain ⟨fCK, dCK, GCK, kCK, bCK, gCK⟩ := cCK.ex
  obtain ⟨fLi, dLi, GLi, kLi, bLi, gLi⟩ := cLi.ex
  refine F.ok scWC (fun vs H Q E h => ?_) (fun cdv A outer s H vs Q E hr5 h => ?_)
  · obtain ⟨_, _, _, _, _, rfl, _⟩ := h
    rfl
  · obtain ⟨pm, p, m, ms, xs, rfl, hpm, hm, ⟨ws, hp, hI⟩, hok, hlen, hoc, q⟩ := h
    have hr1 : Room 1 _ := hr5.mono (by decide)
    refine ⟨_, (pss_cons (ps_expr (pe_call GCK hr5 (by rfl) gCK kCK bCK .nil passN (pa_cons (pv 0) (pa_cons (pv 1) pa_nil))))
      (pss_one (ps_ret (pe_join pe_str (pe_lc (own := [("instruction", 2)]) (g := (gName 2)) (tt := tYes) (te := (tOp _ (tCall (spLi K) [] E0 (tCons (tVar 2) tNil)) (tC (.str "
")))) rfl scWC.nd (pi_tup (pv 1)) (blkOk_by (N := nWC) (sc := defScope swrite_code) (by decide +kernel)) (fun _ _ _ _ _ => (pg_name (i := 2) scWC.nd rfl (.inl rfl) (hf := Or.inr rfl))) (fun _ _ _ _ _ => pts_nil) (fun _ _ _ _ _ => (pe_op op_add_str (pe_call GLi hr1 (by rfl) gLi kLi bLi .nil pass0 (pa_cons (pv 2) pa_nil)) pe_str))))))), ?_⟩
    have hwl : ws.length = xs.length := hI.1
    have hxl := cdT_len xs
    refine ⟨_, rfl, _, rfl, pm, p, m, ms, xs, rfl, hpm, hm, ⟨ws, hp, hI⟩, fun x hx => ⟨hok x hx, sml_of (N := 1500000) (by have := inL_mem hx; omega) (by decide)⟩, by omega, fun H1 s1 => ⟨fun _ => ?_, fun h => absurd hoc h⟩⟩
    have hp1 := sqT_same hp s1
    refine ⟨⟨_, rfl⟩, _, rfl, p, rfl, ⟨_, hp1⟩, fun D nD => lc_tup (K := K) (a := p) (xs := ws) (fun i H2 => Same H1 H2 ∧ WL H2 D ((xs.take i).map fun x => inL x ++ [10])) ⟨same_upd nD, [], upd_same, rfl⟩ (fun i H2 _ h => sqT_same hp1 h.1) ?_ ?_⟩
    · rintro i v H2 hx ⟨sm, hWl⟩
      have hi : i < ws.length := (List.getElem?_eq_some_iff.mp hx).1
      obtain ⟨x, hnd⟩ : ∃ x, xs[i]? = some x := ⟨_, List.getElem?_eq_getElem (by omega)⟩
      have hxm := List.mem_of_getElem? hnd
      have hxa := (hI.2 i v x hx hnd).same (s1.trans sm)
      obtain ⟨px, vx, rfl, hpx, hfx⟩ := id hxa
      have hxi := inL_mem hxm
      refine ⟨rfl, tYes_go ⟨_, rfl, px, x, rfl, hxa, hok x hxm, by omega, fun H3 z s3 hz => ?_⟩⟩
      have hzl := TL.len_tl z
      rw [hz] at hzl
      obtain ⟨ys, hD, hyl, hW'⟩ := (hWl.same s3).app (z := z ++ "\n")
      rw [List.length_map, List.length_take] at hyl
      refine ⟨z, "\n", rfl, rfl, size64 (by show z.length + 1 ≤ _; omega), _, hD, by rw [List.length_map, hyl]; exact small64 (by omega), fun b o e => ?_, ?_⟩
      · rw [upd_ne (ne_of_none e nD)]
        exact s3 _ _ (sm _ _ e)
      · rw [take_snoc hnd, List.map_append]
        rw [TL.tl_append, hz] at hW'
        exact hW'
    · rintro H2 ⟨sm2, ys, hD, hy⟩
      rw [hwl, List.take_length] at hy
      have hfl : (xs.map fun x => inL x ++ [10]).flatten = cdT xs := (List.flatMap_def).symm
      have hj : TL.tl (Txt.join "" ys) = cdT xs := by
        rw [join_tl, hy]
        show TL.joinL [] _ = _
        rw [joinL_fl, hfl]
      have hyl : ys.length = xs.length := by rw [← List.length_map (f := TL.tl), hy, List.length_map]
      have hls := lsum_strs ys
      rw [hy, lsum_flat, hfl, List.length_map] at hls
      exact ⟨"", D, ys, rfl, rfl, .inl (SqL.of hD), size64 (by show _ + ys.length * 0 ≤ _; omega), q _ _ (s1.trans sm2) hj⟩
end
def Kb (d : Addr) (H H' : Hp) : Prop := ∀ b o, b ≠ d → H b = some o → H' b = some o
theorem Kb.refl (d : Addr) (H : Hp) : Kb d H H := fun _ _ _ h => h
theorem Kb.trans {d : Addr} {H H1 H2 : Hp} (a : Kb d H H1) (b : Kb d H1 H2) : Kb d H H2 := fun c o n h => b c o n (a c o n h)
theorem But.kb {d : Addr} {H H' : Hp} (k : But d H H') : Kb d H H' := fun b o n h => by rw [k b n]; exact h
theorem Same.kb {d : Addr} {H H' : Hp} (k : Same H H') : Kb d H H' := fun b o _ h => k b o h
theorem Kb.nl {d c : Addr} {H H' : Hp} (k : Kb d H H') (h : DrAt H d c) : NL H H' := fun b o e => by
  by_cases hb : b = d
  · subst hb
    obtain ⟨xs, hx⟩ := h.lst
    rw [hx] at e
    exact .inl ⟨xs, (Option.some.inj e).symm⟩
  · exact .inr (k b o hb e)
theorem new_ne {H : Hp} {d c D : Addr} (dr : DrAt H d c) (n : H D = none) : D ≠ d ∧ D ≠ c := ⟨(ne_of_none dr.lst.choose_spec n).symm, (ne_of_none dr.lstc.choose_spec n).symm⟩

theorem KtAt {H H' : Hp} {d c a : Addr} {xs : List V} (k : Kb d H H') (dr : DrAt H d c) (h : H a = some (.tup xs)) : H' a = some (.tup xs) := by
  obtain ⟨ys, hd⟩ := dr.lst
  exact k _ _ (ne_of h hd (fun z => nomatch z)) h
/-! ### drawn instructions -/
def RngI (m : Mch) : List Str → List Int → Prop
  | [], [] => True
  | z :: zs, n :: ns => inB m z n ∧ RngI m zs ns
  | _, _ => False
def M6 : Nat := 1000000
def Lit (x : Ins) : Prop := ∀ f ∈ x.fs, match f with | .int n => n.natAbs < M6 | .str s => s ∈ PW | .tup ns => ns.length ≤ 3 ∧ ∀ n ∈ ns, n.natAbs < M6
structure Drn (m : Mch) (x : Ins) : Prop where
  ok : InOk x
  form : okForm x = true
  r : okR m x
  lit : Lit x
structure Leaf (m : Mch) (x : Ins) : Prop extends Drn m x where
  n1 : x.nm ≠ "loop"
  n2 : x.nm ≠ "end"
  n3 : x.nm ≠ "skip"
theorem m6_90 {n : Nat} (h : n < M6) : n < 10 ^ 90 := Nat.lt_trans h (by unfold M6; decide +kernel)
theorem Lit.bd {x : Ins} (h : Lit x) : ∀ d ∈ x.fs, d.bd := fun d hd => by
  have := h d hd
  cases d with
  | int n => exact m6_90 this
  | str s => exact this
  | tup ns =>
    refine ⟨fun n hn => m6_90 (this.2 n hn), m6_90 ?_⟩
    have h1 : ns.length ≤ 3 := this.1
    unfold M6
    omega
def iIns (nm : Str) (ns : List Int) : Ins := ⟨nm, ns.map Fv.int⟩
theorem plain_names : ∀ nm ∈ INm, nm ≠ "do" → nm ≠ "vector" → ∀ z ∈ fldN nm, z ≠ "kind" ∧ z ≠ "sources" ∧ z ≠ "info" := by decide +kernel
theorem rng_typ {m : Mch} : ∀ {zs : List Str} {ns : List Int}, RngI m zs ns → (∀ z ∈ zs, z ≠ "kind" ∧ z ≠ "sources" ∧ z ≠ "info") → Typ zs (ns.map Fv.int)
  | [], [], _, _ => trivial
  | _ :: _, _ :: _, h, k => ⟨k _ List.mem_cons_self, rng_typ h.2 fun z hz => k z (List.mem_cons_of_mem _ hz)⟩
theorem rng_flds {m : Mch} : ∀ {zs : List Str} {ns : List Int}, RngI m zs ns → fldsR m zs (ns.map Fv.int)
  | [], [], _ => fun _ h => nomatch h
  | z :: zs, n :: ns, h => fun p hp => by
    rw [List.map_cons, List.zip_cons_cons] at hp
    rcases List.mem_cons.mp hp with rfl | hp
    · exact h.1
    · exact rng_flds h.2 p hp
theorem iIns_drn {m : Mch} {nm : Str} {ns : List Int} (h1 : nm ∈ INm) (h2 : nm ≠ "do") (h3 : nm ≠ "vector") (h : RngI m (fldN nm) ns) (hl : ∀ n ∈ ns, n.natAbs < M6) (hr : nm = "loop" → loopR m (ns.map Fv.int)) : Drn m (iIns nm ns) := by
  have hlit : Lit (iIns nm ns) := fun f hf => by
    obtain ⟨n, hn, rfl⟩ := List.mem_map.mp hf
    exact hl n hn
  refine ⟨⟨h1, rng_typ h (plain_names nm h1 h2 h3), hlit.bd⟩, ?_, ⟨rng_flds h, fun e => absurd e h2, hr⟩, hlit⟩
  unfold okForm iIns
  rw [if_neg h2, if_neg h3]
  rfl
theorem iIns_leaf {m : Mch} {nm : Str} {ns : List Int} (h1 : nm ∈ INm) (h2 : nm ≠ "do" ∧ nm ≠ "vector" ∧ nm ≠ "loop" ∧ nm ≠ "end" ∧ nm ≠ "skip") (h : RngI m (fldN nm) ns) (hl : ∀ n ∈ ns, n.natAbs < M6) : Leaf m (iIns nm ns) := ⟨iIns_drn h1 h2.1 h2.2.1 h hl fun e => absurd e h2.2.2.1, h2.2.2.1, h2.2.2.2.1, h2.2.2.2.2⟩
theorem two_le {n : Nat} (h : 20 ≤ n) : (1048576 : Int) ≤ 2 ^ n := by
  have h1 : (2 : Nat) ^ 20 ≤ 2 ^ n := Nat.pow_le_pow_right (by decide) h
  have h2 : ((2 ^ n : Nat) : Int) = 2 ^ n := Int.natCast_pow 2 n
  have h3 : (2 : Nat) ^ 20 = 1048576 := by decide
  rw [← h2]
  omega
theorem inB_word {m : Mch} (hm : 32 ≤ m.w) {n : Int} (h : -1000000 < n ∧ n < 1000000) : inB m "word" n := by
  refine (inB_of (lo := wlo m) (hi := whi m) rfl).mpr ?_
  have := two_le (n := (m.w - 1).toNat) (by omega)
  unfold wlo whi
  omega
theorem inB_begin {m : Mch} (hm : 32 ≤ m.w) {n : Int} (h : -1000000 < n ∧ n < 1000000) : inB m "begin" n := by
  refine (inB_of (lo := -(1 * 2 ^ m.w.toNat)) (hi := 1 * 2 ^ m.w.toNat) rfl).mpr ?_
  have := two_le (n := m.w.toNat) (by omega)
  omega
theorem inB_slot {m : Mch} {n : Int} (h : 0 ≤ n ∧ n ≤ 31) : inB m "slot" n := (inB_of (lo := 0) (hi := 31) rfl).mpr h
theorem inB_offset {m : Mch} {n : Int} (h : -16384 ≤ n ∧ n ≤ 16384) : inB m "offset" n := (inB_of (lo := -16384) (hi := 16384) rfl).mpr h
theorem inB_lanes {m : Mch} {n : Int} (h : 1 ≤ n ∧ n ≤ m.l) : inB m "lanes" n := (inB_of (lo := 1) (hi := m.l) rfl).mpr h
theorem inB_turns {m : Mch} {n : Int} (h : 1 ≤ n ∧ n ≤ 1000) : inB m "turns" n := (inB_of (lo := 1) (hi := 1000) rfl).mpr h
theorem inB_skipped {m : Mch} {n : Int} (h : 0 ≤ n ∧ n ≤ 4000000) : inB m "skipped" n := (inB_of (lo := 0) (hi := 4000000) rfl).mpr h
theorem inB_queue {m : Mch} {n : Int} (h : 0 ≤ n ∧ n ≤ m.q - 1) : inB m "queue" n := (inB_of (lo := 0) (hi := m.q - 1) rfl).mpr h
theorem inB_count {m : Mch} {n : Int} (h : 1 ≤ n ∧ n ≤ 4096) : inB m "count" n := (inB_of (lo := 1) (hi := 4096) rfl).mpr h
/-- a drawn machine -/
structure MDr (m : Mch) (ms : List Int) : Prop where
  ok : MOk m ms
  e : ∃ n1 n2 : Int, ms = [m.w, n1, n2, m.q, m.l] ∧ 4 ≤ n1 ∧ n1 ≤ 12 ∧ 16 ≤ n2 ∧ n2 ≤ 20
section
variable {P : Program} {w : World} {K : PySem.W.Frag} {mg : Str → Option Value} {base : Heap}
def spMa (K : PySem.W.Frag) : Sp := fun vs H Q _ => ∃ (d c : Addr), vs = [.ref d] ∧ DrAt H d c ∧ ∀ H' a m ms, Kb d H H' → DrAt H' d c → H' a = some (.tup (ms.map V.int)) → MDr m ms → Q (.ref a) H'
abbrev nMa : List Str := ["d", "width"]
theorem scMa : FnScope nMa ["d"] (defScope s_law_machine) := ⟨rfl, rfl, rfl, by decide +kernel, rfl, by decide +kernel, by decide +kernel⟩
theorem ok_ma {f : Addr} {fd : FuncData} (F : Fun K "_law_machine" "_law_machine" s_law_machine f fd) (cT : Calls P w K mg base CX0 1 "_law_take" ["d", "many"] spTake) : FnOk P w K mg base CX0 2 f fd ["d"] (spMa K) := by
  obtain ⟨fT, dT, GT, kT, bT, gT⟩ := cT.ex
  refine F.ok scMa (fun vs H Q E h => ?_) (fun cdv A outer s H vs Q E hr1 h => ?_)
  · obtain ⟨_, _, rfl, _⟩ := h
    rfl
  · obtain ⟨d, c, rfl, dr, q⟩ := h
    refine ⟨_, (pss_cons (ps_set (i := 1) scMa.nd rfl (.inl rfl) (pe_ix ix_tup (pe_tup (pa_cons pe_int (pa_cons pe_int (pa_cons pe_int (pa_cons pe_int (pa_cons pe_int pa_nil)))))) (pe_call GT hr1 (by rfl) gT kT bT .nil pass0 (pa_cons (pv 0) (pa_cons pe_int pa_nil))) (fun _ _ => rfl)))
      (pss_one (ps_ret (pe_tup (pa_cons (pv 1) (pa_cons (pe_op op_add pe_int (pe_call GT hr1 (by rfl) gT kT bT .nil pass0 (pa_cons (pv 0) (pa_cons pe_int pa_nil)))) (pa_cons (pe_op op_add pe_int (pe_call GT hr1 (by rfl) gT kT bT .nil pass0 (pa_cons (pv 0) (pa_cons pe_int pa_nil)))) (pa_cons (pe_op op_add pe_int (pe_call GT hr1 (by rfl) gT kT bT .nil pass0 (pa_cons (pv 0) (pa_cons pe_int pa_nil)))) (pa_cons (pe_op op_add pe_int (pe_call GT hr1 (by rfl) gT kT bT .nil pass0 (pa_cons (pv 0) (pa_cons pe_int pa_nil)))) pa_nil))))))))), ?_⟩
    refine ⟨by show 5 ≤ sizeLine; decide, fun pt nt => ?_⟩
    have s1 := same_upd (o := .tup [V.int 32, .int 32, .int 33, .int 64, .int 256]) nt
    have hpt : (upd H pt (.tup [V.int 32, .int 32, .int 33, .int 64, .int 256])) pt = some (.tup [V.int 32, .int 32, .int 33, .int 64, .int 256]) := upd_same
    have dr1 := dr.same s1
    generalize upd H pt (.tup [V.int 32, .int 32, .int 33, .int 64, .int 256]) = H1 at s1 hpt dr1
    refine ⟨_, rfl, d, c, 5, rfl, dr1, by decide, bnd_le (by decide), fun H2 v k2 dr2 v0 v1 => ?_⟩
    obtain ⟨wd, hwd, w0, w1⟩ : ∃ wd : Int, atI [V.int 32, .int 32, .int 33, .int 64, .int 256] v = some (.int wd) ∧ 32 ≤ wd ∧ wd ≤ 256 := by
      have h5 : v = 0 ∨ v = 1 ∨ v = 2 ∨ v = 3 ∨ v = 4 := by omega
      rcases h5 with rfl | rfl | rfl | rfl | rfl
      · exact ⟨32, rfl, by decide, by decide⟩
      · exact ⟨32, rfl, by decide, by decide⟩
      · exact ⟨33, rfl, by decide, by decide⟩
      · exact ⟨64, rfl, by decide, by decide⟩
      · exact ⟨256, rfl, by decide, by decide⟩
    refine ⟨pt, _, v, _, rfl, rfl, SqT.of (KtAt k2.kb dr1 hpt), hwd, ?_⟩
    refine ⟨_, rfl, _, rfl, d, c, 9, rfl, dr2, by decide, bnd_le (by decide), fun H3 n1 k3 dr3 a0 a1 => ?_⟩
    refine ⟨_, _, rfl, rfl, _, rfl, d, c, 5, rfl, dr3, by decide, bnd_le (by decide), fun H4 n2 k4 dr4 b0 b1 => ?_⟩
    refine ⟨_, _, rfl, rfl, _, rfl, d, c, 3, rfl, dr4, by decide, bnd_le (by decide), fun H5 n3 k5 dr5 c0 c1 => ?_⟩
    refine ⟨_, _, rfl, rfl, _, rfl, d, c, 4, rfl, dr5, by decide, bnd_le (by decide), fun H6 n4 k6 dr6 d0 d1 => ?_⟩
    refine ⟨_, _, rfl, rfl, by show 5 ≤ sizeLine; decide, fun p np => ?_⟩
    have s7 := same_upd (o := .tup [V.int wd, .int (4 + n1), .int (16 + n2), .int (1 + n3), .int (1 + n4)]) np
    refine q _ p ⟨wd, 1 + n3, 1 + n4⟩ [wd, 4 + n1, 16 + n2, 1 + n3, 1 + n4] ((((((Same.kb s1).trans k2.kb).trans k3.kb).trans k4.kb).trans k5.kb).trans k6.kb |>.trans (Same.kb s7)) (dr6.same s7) upd_same ⟨⟨rfl, fun i n r hn hr => ?_, rfl, rfl, rfl⟩, _, _, rfl, by omega, by omega, by omega, by omega⟩
    match i with
    | 0 => cases hn; cases hr; exact ⟨w0, w1⟩
    | 1 => cases hn; cases hr; exact ⟨by show 1 ≤ 4 + n1; omega, by show 4 + n1 ≤ 16384; omega⟩
    | 2 => cases hn; cases hr; exact ⟨by show 16 ≤ 16 + n2; omega, by show 16 + n2 ≤ 4096; omega⟩
    | 3 => cases hn; cases hr; exact ⟨by show 1 ≤ 1 + n3; omega, by show 1 + n3 ≤ 4; omega⟩
    | 4 => cases hn; cases hr; exact ⟨by show 1 ≤ 1 + n4; omega, by show 1 + n4 ≤ 16; omega⟩
    | i + 5 => cases hn
end
def tStrs : List Str → TA
  | [] => tNil
  | z :: r => tCons (tC (.str z)) (tStrs r)
theorem tStrs_run : ∀ (zs : List Str) (σ : St) (H : Hp) (Q : List V → Hp → Prop), Q (zs.map V.str) H → tStrs zs σ H Q
  | [], _, _, _, h => h
  | z :: r, σ, H, Q, h => tStrs_run r σ H (fun vs H' => Q (.str z :: vs) H') h
/-- kind in ('a', 'b', ..) -/
def tInS (i : Nat) (zs : List Str) : TE := fun σ H Q => ∃ z, σ[i]? = some (some (.str z)) ∧ ∀ H', Same H H' → Q (.bl (decide (z ∈ zs))) H'
theorem pe_inS {X : Cx} {e : Expr} {es : List Expr} {i : Nat} {zs : List Str} {c : Nat} {pos pos' : Pos} (hz : zs.length ≤ 1000) (he : PE X e (tVar i)) (ht : PA X es (tStrs zs)) (hb : behindInMarks .In (.Tuple es c pos') = false := by rfl) : PE X (.Compare e [.In] [.Tuple es c pos'] pos) (tInS i zs) := by
  refine ⟨fun pins s σ H Q I h => ?_⟩
  obtain ⟨z, hz2, q⟩ := h
  refine (pe_cmpR op_in_seq he (pe_tup ht) hb).run pins s σ H Q I ⟨.str z, hz2, tStrs_run zs σ H _ ⟨?_, fun p np => ?_⟩⟩
  · rw [List.length_map]
    exact Nat.le_trans hz (by decide)
  · refine ⟨p, zs.map V.str, rfl, .inr (SqT.of upd_same), rfl, flat_strs zs, ?_⟩
    show Q (.bl (inV (.str z) (zs.map V.str))) _
    rw [inV_strs]
    exact q _ (same_upd np)
theorem pt_inS {X : Cx} {e : Expr} {es : List Expr} {i : Nat} {zs : List Str} {c : Nat} {pos pos' : Pos} (hz : zs.length ≤ 1000) (he : PE X e (tVar i)) (ht : PA X es (tStrs zs)) (hb : behindInMarks .In (.Tuple es c pos') = false := by rfl) : PT X (.Compare e [.In] [.Tuple es c pos'] pos) (tTest (tInS i zs)) := by
  refine ⟨fun pins s σ H Q I h => ?_⟩
  obtain ⟨z, hz2, q⟩ := h
  refine (pt_cmpR op_in_seq he (pe_tup ht) hb).run pins s σ H Q I ⟨.str z, hz2, tStrs_run zs σ H _ ⟨?_, fun p np => ?_⟩⟩
  · rw [List.length_map]
    exact Nat.le_trans hz (by decide)
  · refine ⟨p, zs.map V.str, rfl, .inr (SqT.of upd_same), rfl, flat_strs zs, ?_⟩
    have := q _ (same_upd (o := .tup (zs.map V.str)) np)
    rw [← inV_strs] at this
    exact this

structure IsOk (k : Str) (is : List Int) : Prop where
  l : is.length = (fiN k).length
  b : ∀ n ∈ is, n.natAbs ≤ 100
  c : k = "clamp" → ∃ a b, is = [a, b] ∧ a ≤ b
  s : k = "shift" → ∃ n, is = [n] ∧ 1 ≤ n ∧ n ≤ 30
section
variable {P : Program} {w : World} {K : PySem.W.Frag} {mg : Str → Option Value} {base : Heap}
def spIO (K : PySem.W.Frag) : Sp := fun vs H Q _ => ∃ (d c : Addr) (k : Str), vs = [.ref d, .str k] ∧ DrAt H d c ∧ k ∈ PW ∧ ∀ H' a is, Kb d H H' → DrAt H' d c → H' a = some (.tup (is.map V.int)) → IsOk k is → Q (.ref a) H'
abbrev nIO : List Str := ["d", "kind", "low"]
theorem scIO : FnScope nIO ["d", "kind"] (defScope s_law_info_of) := ⟨rfl, rfl, rfl, by decide +kernel, rfl, by decide +kernel, by decide +kernel⟩
theorem ok_io {f : Addr} {fd : FuncData} (F : Fun K "_law_info_of" "_law_info_of" s_law_info_of f fd) (cT : Calls P w K mg base CX0 1 "_law_take" ["d", "many"] spTake) (cS : Calls P w K mg base CX0 2 "_law_signed" ["d", "most"] spSigned) : FnOk P w K mg base CX0 3 f fd ["d", "kind"] (spIO K) := by
  obtain ⟨fT, dT, GT, kT, bT, gT⟩ := cT.ex
  obtain ⟨fS, dS, GS, kS, bS, gS⟩ := cS.ex
  refine F.ok scIO (fun vs H Q E h => ?_) (fun cdv A outer s H vs Q E hr2 h => ?_)
  · obtain ⟨_, _, _, rfl, _⟩ := h
    rfl
  · obtain ⟨d, c, k, rfl, dr, hk, q⟩ := h
    have hr1 : Room 1 _ := hr2.mono (by decide)
    refine ⟨_, (pss_cons (ps_if (pt_cmpR op_eq (pv 1) pe_str (nomark _)) (pss_cons (ps_set (i := 2) scIO.nd rfl (.inl rfl) (pe_call GS hr2 (by rfl) gS kS bS .nil pass0 (pa_cons (pv 0) (pa_cons pe_int pa_nil))))
      (pss_one (ps_ret (pe_tup (pa_cons (pv 2) (pa_cons (pe_op op_add (pv 2) (pe_call GT hr1 (by rfl) gT kT bT .nil pass0 (pa_cons (pv 0) (pa_cons pe_int pa_nil)))) pa_nil)))))) pss_nil)
      (pss_one (ps_ret (pe_ifExp (pt_cmpR op_eq (pv 1) pe_str (nomark _)) (pe_tup (pa_cons (pe_op op_add pe_int (pe_call GT hr1 (by rfl) gT kT bT .nil pass0 (pa_cons (pv 0) (pa_cons pe_int pa_nil)))) pa_nil)) (pe_tup pa_nil))))), ?_⟩
    refine ⟨_, rfl, rfl, _, rfl, ?_⟩
    by_cases c1 : k = "clamp"
    · rw [decide_eq_true (show V.str k = V.str "clamp" by rw [c1])]
      have hfk : (fiN k).length = 2 := by rw [c1]; decide +kernel
      have ncs : k ≠ "shift" := by rw [c1]; decide +kernel
      refine iteT ⟨_, rfl, d, c, 9, rfl, dr, by decide, bnd_le (by decide), fun H1 lo k1 dr1 l0 l1 => ?_⟩
      refine ⟨_, rfl, _, rfl, _, rfl, d, c, 12, rfl, dr1, by decide, bnd_le (by decide), fun H2 v k2 dr2 v0 v1 => ?_⟩
      refine ⟨_, _, rfl, rfl, by show 2 ≤ sizeLine; decide, fun p np => ?_⟩
      have s3 := same_upd (o := .tup [V.int lo, .int (lo + v)]) np
      refine q _ p [lo, lo + v] ((k1.kb.trans k2.kb).trans (Same.kb s3)) (dr2.same s3) upd_same ⟨hfk.symm, fun n hn => ?_, fun _ => ⟨_, _, rfl, by omega⟩, fun e => absurd e ncs⟩
      simp only [List.mem_cons, List.not_mem_nil, or_false] at hn
      rcases hn with rfl | rfl <;> omega
    rw [str_ne c1]
    refine iteF ⟨_, rfl, rfl, _, rfl, ?_⟩
    by_cases c2 : k = "shift"
    · rw [decide_eq_true (show V.str k = V.str "shift" by rw [c2])]
      have hfk : (fiN k).length = 1 := by rw [c2]; decide +kernel
      refine iteT ⟨_, rfl, d, c, 3, rfl, dr, by decide, bnd_le (by decide), fun H2 v k2 dr2 v0 v1 => ?_⟩
      refine ⟨_, _, rfl, rfl, by show 1 ≤ sizeLine; decide, fun p np => ?_⟩
      have s3 := same_upd (o := .tup [V.int (1 + v)]) np
      refine q _ p [1 + v] (k2.kb.trans (Same.kb s3)) (dr2.same s3) upd_same ⟨hfk.symm, fun n hn => ?_, fun e => absurd e c1, fun _ => ⟨_, rfl, by omega, by omega⟩⟩
      rw [List.mem_singleton.mp hn]
      omega
    rw [str_ne c2]
    have hfk : ∀ k ∈ PW, k ≠ "clamp" → k ≠ "shift" → (fiN k).length = 0 := by decide +kernel
    refine iteF ⟨by show 0 ≤ sizeLine; decide, fun p np => ?_⟩
    have s3 := same_upd (o := .tup []) np
    exact q _ p [] (Same.kb s3) (dr.same s3) upd_same ⟨(hfk k hk c1 c2).symm, fun _ h => (nomatch h), fun e => absurd e c1, fun e => absurd e c2⟩
/-! ### _law_do -/
def kds : List Str := ["add", "sub", "mul", "max", "min", "less", "equal", "neg", "clamp", "shift", "where", "add"]
def spDo (K : PySem.W.Frag) : Sp := fun vs H Q _ => ∃ (d c : Addr), vs = [.ref d, .int 6] ∧ DrAt H d c ∧ ∀ H' p x, Kb d H H' → DrAt H' d c → InAt H' (.ref p) x → (∀ m : Mch, 32 ≤ m.w → Leaf m x) → Q (.ref p) H'
theorem do_leaf {k : Str} {a : Int} {ss is : List Int} (hk : k ∈ PW) (ha : 0 ≤ a ∧ a ≤ 31) (hs : ss.length = acN k) (hsb : ∀ n ∈ ss, 0 ≤ n ∧ n ≤ 31) (hi : IsOk k is) {m : Mch} (hm : 32 ≤ m.w) : Leaf m ⟨"do", [.str k, .int a, .tup ss, .tup is]⟩ := by
  have hf : fldN "do" = (["kind", "slot", "sources", "info"] : List Str) := by decide +kernel
  have hac : ∀ k ∈ PW, acN k ≤ 3 ∧ (fiN k).length ≤ 2 := by decide +kernel
  have hlit : Lit ⟨"do", [.str k, .int a, .tup ss, .tup is]⟩ := fun f hf => by
    simp only [List.mem_cons, List.not_mem_nil, or_false] at hf
    rcases hf with rfl | rfl | rfl | rfl
    · exact hk
    · show a.natAbs < M6
      unfold M6
      omega
    · refine ⟨by rw [hs]; exact (hac k hk).1, fun n hn => ?_⟩
      have := hsb n hn
      unfold M6
      omega
    · refine ⟨by have := (hac k hk).2; rw [← hi.l] at this; omega, fun n hn => ?_⟩
      have := hi.b n hn
      unfold M6
      omega
  refine ⟨⟨⟨(show ("do" : Str) ∈ INm by decide +kernel), ?_, hlit.bd⟩, ?_, ⟨?_, fun _ => ?_, fun e => absurd e (show ("do" : Str) ≠ "loop" by decide +kernel)⟩, hlit⟩, (show ("do" : Str) ≠ "loop" by decide +kernel), (show ("do" : Str) ≠ "end" by decide +kernel), (show ("do" : Str) ≠ "skip" by decide +kernel)⟩
  · show Typ (fldN "do") _
    rw [hf]
    exact ⟨rfl, (show ("slot" : Str) ≠ "kind" ∧ ("slot" : Str) ≠ "sources" ∧ ("slot" : Str) ≠ "info" by decide +kernel), .inl rfl, .inr rfl, trivial⟩
  · unfold okForm
    rw [if_pos rfl, if_neg (show ("do" : Str) ≠ "vector" by decide +kernel), Bool.and_true]
    show (decide (ss.length = acN k) && decide (is.length = (fiN k).length)) = true
    rw [decide_eq_true hs, decide_eq_true hi.l]
    rfl
  · show fldsR m (fldN "do") _
    rw [hf]
    intro p hp
    simp only [List.zip_cons_cons, List.zip_nil_right, List.mem_cons, List.not_mem_nil, or_false] at hp
    rcases hp with rfl | rfl | rfl | rfl
    · exact trivial
    · exact inB_slot (m := m) ha
    · exact trivial
    · exact trivial
  · refine ⟨fun s hs => inB_slot (hsb s hs), ?_⟩
    by_cases c1 : k = "clamp"
    · obtain ⟨a, b, rfl, hab⟩ := hi.c c1
      have hA := hi.b a List.mem_cons_self
      have hB := hi.b b (List.mem_cons_of_mem _ List.mem_cons_self)
      intro _
      have hw := two_le (n := (200 : Int).toNat) (by decide)
      refine ⟨⟨hab, ?_, ?_⟩, inB_word hm (by omega), inB_word hm (by omega)⟩
      · unfold W200; omega
      · unfold W200; omega
    · by_cases c2 : k = "shift"
      · obtain ⟨n, rfl, h1, h2⟩ := hi.s c2
        exact fun _ => ⟨h1, h2⟩
      · have h0 : is = [] := by
          have : ∀ k ∈ PW, k ≠ "clamp" → k ≠ "shift" → (fiN k).length = 0 := by decide +kernel
          exact List.length_eq_zero_iff.mp (by rw [hi.l, this k hk c1 c2])
        rw [h0]
        exact trivial
abbrev nDo : List Str := ["d", "most", "kinds", "kind", "many", "k"]
theorem scDo : FnScope nDo ["d", "most"] (defScope s_law_do) := ⟨rfl, rfl, rfl, by decide +kernel, rfl, by decide +kernel, by decide +kernel⟩
theorem ok_do {f : Addr} {fd : FuncData} (F : Fun K "_law_do" "_law_do" s_law_do f fd) (T : TxtT mg) (cT : Calls P w K mg base CX0 1 "_law_take" ["d", "many"] spTake) (cIO : Calls P w K mg base CX0 3 "_law_info_of" ["d", "kind"] (spIO K)) : FnOk P w K mg base CX0 4 f fd ["d", "most"] (spDo K) := by
  obtain ⟨fT, dT, GT, kT, bT, gT⟩ := cT.ex
  obtain ⟨fIO, dIO, GIO, kIO, bIO, gIO⟩ := cIO.ex
  refine F.ok scDo (fun vs H Q E h => ?_) (fun cdv A outer s H vs Q E hr3 h => ?_)
  · obtain ⟨_, _, rfl, _⟩ := h
    rfl
  · obtain ⟨d, c, rfl, dr, q⟩ := h
    have hr1 : Room 1 _ := hr3.mono (by decide)
    refine ⟨_, (pss_cons (ps_set (i := 2) scDo.nd rfl (.inl rfl) (pe_tup (pa_cons pe_str (pa_cons pe_str (pa_cons pe_str (pa_cons pe_str (pa_cons pe_str (pa_cons pe_str (pa_cons pe_str (pa_cons pe_str (pa_cons pe_str (pa_cons pe_str (pa_cons pe_str (pa_cons pe_str pa_nil))))))))))))))
      (pss_cons (ps_set (i := 3) scDo.nd rfl (.inl rfl) (pe_ix ix_tup (pv 2) (pe_call GT hr1 (by rfl) gT kT bT .nil pass0 (pa_cons (pv 0) (pa_cons pe_int pa_nil))) (fun _ _ => rfl)))
      (Evl.pss_cut (ps_set (i := 4) scDo.nd rfl (.inl rfl) (pe_ifExp (pt_inS (zs := ["neg", "clamp", "shift"]) (by decide) (pv 3) (pa_cons pe_str (pa_cons pe_str (pa_cons pe_str pa_nil)))) pe_int (pe_ifExp (pt_cmpR op_eq (pv 3) pe_str (nomark _)) pe_int pe_int)))
      (pss_one (ps_ret (pe_tup (pa_cons pe_str (pa_cons (pv 3) (pa_cons (pe_call GT hr1 (by rfl) gT kT bT .nil pass0 (pa_cons (pv 0) (pa_cons (pv 1) pa_nil))) (pa_cons (pe_callTy call_tuple_of (by rfl) T.tuple (by decide +kernel) (pa_cons (pe_lc (own := [("k", 5)]) (g := (gName 5)) (tt := tYes) (te := (tCall spTake [] E0 (tCons (tVar 0) (tCons (tVar 1) tNil)))) rfl scDo.nd (pi_range1 rfl T.range (pa_cons (pv 4) pa_nil)) (blkOk_by (N := nDo) (sc := defScope s_law_do) (by decide +kernel)) (fun _ _ _ _ _ => (pg_name (i := 5) scDo.nd rfl (.inl rfl) (hf := Or.inr rfl))) (fun _ _ _ _ _ => pts_nil) (fun _ _ _ _ _ => (pe_call GT hr1 (by rfl) gT kT bT .nil pass0 (pa_cons (pv 0) (pa_cons (pv 1) pa_nil))))) pa_nil)) (pa_cons (pe_call GIO hr3 (by rfl) gIO kIO bIO .nil pass0 (pa_cons (pv 0) (pa_cons (pv 3) pa_nil))) pa_nil))))))))))), ?_⟩
    refine ⟨by show 12 ≤ sizeLine; decide, fun pt nt => ?_⟩
    rw [show ([V.str "add", V.str "sub", V.str "mul", V.str "max", V.str "min", V.str "less", V.str "equal", V.str "neg", V.str "clamp", V.str "shift", V.str "where", V.str "add"] : List V) = kds.map V.str from rfl]
    have s1 := same_upd (o := .tup (kds.map V.str)) nt
    have hpt : (upd H pt (.tup (kds.map V.str))) pt = some (.tup (kds.map V.str)) := upd_same
    have dr1 := dr.same s1
    have q0 : ∀ {H' : Hp} {p : Addr} {x : Ins}, Kb d (upd H pt (.tup (kds.map V.str))) H' → DrAt H' d c → InAt H' (.ref p) x → (∀ m : Mch, 32 ≤ m.w → Leaf m x) → Q (.ref p) H' := fun k dr i l => q _ _ _ ((Same.kb s1).trans k) dr i l
    clear q
    generalize upd H pt (.tup (kds.map V.str)) = H1 at hpt dr1 q0
    refine ⟨_, rfl, _, rfl, d, c, 12, rfl, dr1, by decide, bnd_le (by decide), fun H2 v k2 dr2 v0 v1 => ?_⟩
    have kb2 := k2.kb
    obtain ⟨vn, rfl⟩ : ∃ vn : Nat, v = (vn : Int) := ⟨v.toNat, by omega⟩
    obtain ⟨k, hk1⟩ : ∃ k, kds[vn]? = some k := ⟨_, List.getElem?_eq_getElem (by show vn < 12; omega)⟩
    have hk : k ∈ PW := by
      have : ∀ k ∈ kds, k ∈ PW := by decide +kernel
      exact this k (List.mem_of_getElem? hk1)
    refine ⟨pt, _, _, _, rfl, rfl, SqT.of (KtAt kb2 dr1 hpt), atI_nat (j := vn) (by rw [List.getElem?_map, hk1]; rfl), ?_⟩
    refine ⟨fun σ' H' => σ' = [some (.ref d), some (.int 6), some (.ref pt), some (.str k), some (.int ((acN k : Nat) : Int)), none] ∧ Same H2 H', ?_, ?_⟩
    · refine ⟨k, rfl, fun H3 s3 => ⟨_, rfl, ?_⟩⟩
      have h1 : ∀ k ∈ PW, k ∈ (["neg", "clamp", "shift"] : List Str) → acN k = 1 := by decide +kernel
      have h2 : acN "where" = 3 := by decide +kernel
      have h3 : ∀ k ∈ PW, ¬ k ∈ (["neg", "clamp", "shift"] : List Str) → k ≠ "where" → acN k = 2 := by decide +kernel
      by_cases c1 : k ∈ (["neg", "clamp", "shift"] : List Str)
      · rw [decide_eq_true c1]
        exact iteT ⟨by rw [h1 k hk c1]; rfl, s3⟩
      rw [decide_eq_false c1]
      refine iteF ⟨_, rfl, rfl, _, rfl, ?_⟩
      by_cases c2 : k = "where"
      · rw [decide_eq_true (show V.str k = V.str "where" by rw [c2])]
        exact iteT ⟨by rw [c2, h2]; rfl, s3⟩
      rw [str_ne c2]
      exact iteF ⟨by rw [h3 k hk c1 c2]; rfl, s3⟩
    rintro σ' H3 ⟨rfl, s3⟩
    have dr3 := dr2.same s3
    have kb3 := kb2.trans (Same.kb s3)
    refine ⟨_, rfl, _, rfl, _, rfl, d, c, 6, rfl, dr3, by decide, bnd_le (by decide), fun H4 a k4 dr4 a0 a1 => ?_⟩
    have kb4 := kb3.trans k4.kb
    have hac : acN k ≤ 3 := by
      have : ∀ k ∈ PW, acN k ≤ 3 := by decide +kernel
      exact this k hk
    refine ⟨_, rfl, _, rfl, by omega, by omega, fun D nD => lc_range (lo := 0) (n := ((acN k : Nat) : Int).toNat) (fun i H' => ∃ ss : List Int, Kb d H4 H' ∧ DrAt H' d c ∧ H' D = some (.lst (ss.map V.int)) ∧ ss.length = i ∧ ∀ n ∈ ss, 0 ≤ n ∧ n ≤ 31) ⟨[], Same.kb (same_upd nD), dr4.same (same_upd nD), upd_same, rfl, fun _ h => (nomatch h)⟩ ?_ ?_⟩
    · rintro i H5 hi ⟨ss, kb5, dr5, hD5, hsl, hsb⟩
      obtain ⟨hDd, hDc⟩ := new_ne dr4 nD
      refine ⟨rfl, tYes_go ⟨_, rfl, _, rfl, d, c, 6, rfl, dr5, by decide, bnd_le (by decide), fun H7 v k7 dr7 v0 v1 => ?_⟩⟩
      have hD7 : H7 D = some (.lst (ss.map V.int)) := by rw [k7 D hDd]; exact hD5
      refine ⟨_, hD7, by rw [List.length_map]; exact small64 (by omega), ss ++ [v], fun b o nb hbo => ?_, dr7.upd _ hDd hDc, by rw [upd_same, List.map_append]; rfl, by rw [List.length_append, hsl]; rfl, fun n hn => ?_⟩
      · rw [upd_ne (ne_of_none hbo nD)]
        exact k7.kb b o nb (kb5 b o nb hbo)
      · rcases List.mem_append.mp hn with hn | hn
        · exact hsb n hn
        · rw [List.mem_singleton.mp hn]
          omega
    · rintro H5 ⟨ss, kb5, dr5, hD5, hsl, hsb⟩
      rw [Int.toNat_natCast] at hsl
      refine ⟨D, _, rfl, .inl ⟨SqL.of hD5, fun t nt => ?_⟩⟩
      have st := same_upd (o := .tup (ss.map V.int)) nt
      have hT : (upd H5 t (.tup (ss.map V.int))) t = some (.tup (ss.map V.int)) := upd_same
      have dr6 := dr5.same st
      generalize upd H5 t (.tup (ss.map V.int)) = H6 at st hT dr6
      refine ⟨_, rfl, _, rfl, d, c, k, rfl, dr6, hk, fun H7 ai is k7 dr7 hai hio => ⟨by show 5 ≤ sizeLine; decide, fun p np => ?_⟩⟩
      have s8 := same_upd (o := .tup [V.str "do", .str k, .int a, .ref t, .ref ai]) np
      have hT8 := s8 _ _ (KtAt k7 dr6 hT)
      have hai8 := s8 _ _ hai
      refine q0 (((((kb4.trans kb5).trans (Same.kb st)).trans k7)).trans (Same.kb s8)) (dr7.same s8) (x := ⟨"do", [.str k, .int a, .tup ss, .tup is]⟩) ⟨p, _, rfl, upd_same, rfl, rfl, ⟨t, rfl, hT8⟩, ⟨ai, rfl, hai8⟩, trivial⟩ fun m hm => do_leaf hk (by omega) hsl hsb hio hm
/-! ### _law_transfer -/
def MAt (H : Hp) (a : Addr) (m : Mch) : Prop := ∃ n1 n2 : Int, H a = some (.tup [.int m.w, .int n1, .int n2, .int m.q, .int m.l]) ∧ 4 ≤ n1 ∧ n1 ≤ 12 ∧ 16 ≤ n2 ∧ n2 ≤ 20 ∧ 32 ≤ m.w ∧ 1 ≤ m.q ∧ m.q ≤ 4 ∧ 1 ≤ m.l ∧ m.l ≤ 16
theorem MAt.kb {H H' : Hp} {d c a : Addr} {m : Mch} (h : MAt H a m) (k : Kb d H H') (dr : DrAt H d c) : MAt H' a m := by
  obtain ⟨n1, n2, h1, h2⟩ := h
  exact ⟨n1, n2, KtAt k dr h1, h2⟩
theorem MAt.same {H H' : Hp} {a : Addr} {m : Mch} (h : MAt H a m) (s : Same H H') : MAt H' a m := by
  obtain ⟨n1, n2, h1, h2⟩ := h
  exact ⟨n1, n2, s _ _ h1, h2⟩
def spTr (K : PySem.W.Frag) : Sp := fun vs H Q _ => ∃ (d c a : Addr) (m : Mch), vs = [.ref d, .ref a] ∧ DrAt H d c ∧ MAt H a m ∧ ∀ H' p x, Kb d H H' → DrAt H' d c → InAt H' (.ref p) x → Leaf m x → Q (.ref p) H'
abbrev nTr : List Str := ["d", "machine", "count", "n", "m"]
theorem scTr : FnScope nTr ["d", "machine"] (defScope s_law_transfer) := ⟨rfl, rfl, rfl, by decide +kernel, rfl, by decide +kernel, by decide +kernel⟩
theorem ok_tr {f : Addr} {fd : FuncData} (F : Fun K "_law_transfer" "_law_transfer" s_law_transfer f fd) (T : TxtT mg) (cT : Calls P w K mg base CX0 1 "_law_take" ["d", "many"] spTake) : FnOk P w K mg base CX0 2 f fd ["d", "machine"] (spTr K) := by
  obtain ⟨fT, dT, GT, kT, bT, gT⟩ := cT.ex
  refine F.ok scTr (fun vs H Q E h => ?_) (fun cdv A outer s H vs Q E hr1 h => ?_)
  · obtain ⟨_, _, _, _, rfl, _⟩ := h
    rfl
  · obtain ⟨d, c, a, m, rfl, dr, hM, q⟩ := h
    refine ⟨_, (pss_cons (ps_set (i := 2) scTr.nd rfl (.inl rfl) (pe_op op_add pe_int (pe_call GT hr1 (by rfl) gT kT bT .nil pass0 (pa_cons (pv 0) (pa_cons pe_int pa_nil)))))
      (pss_cons (ps_set (i := 3) scTr.nd rfl (.inl rfl) (pe_call GT hr1 (by rfl) gT kT bT .nil pass0 (pa_cons (pv 0) (pa_cons (pe_callB (call_max2 rfl) (by rfl) T.max (by decide +kernel) (pa_cons pe_int (pa_cons (pe_op op_add (pe_op op_sub (pe_ix ix_tup (pv 1) pe_int (fun _ _ => rfl)) (pv 2)) pe_int) pa_nil))) pa_nil))))
      (pss_cons (ps_set (i := 4) scTr.nd rfl (.inl rfl) (pe_call GT hr1 (by rfl) gT kT bT .nil pass0 (pa_cons (pv 0) (pa_cons (pe_op op_add (pe_op op_sub (pe_ix ix_tup (pv 1) pe_int (fun _ _ => rfl)) (pv 2)) pe_int) pa_nil))))
      (pss_one (ps_ret (pe_tup (pa_cons (pe_ix ix_tup (pe_tup (pa_cons pe_str (pa_cons pe_str (pa_cons pe_str pa_nil)))) (pe_call GT hr1 (by rfl) gT kT bT .nil pass0 (pa_cons (pv 0) (pa_cons pe_int pa_nil))) (fun _ _ => rfl)) (pa_cons (pe_call GT hr1 (by rfl) gT kT bT .nil pass0 (pa_cons (pv 0) (pa_cons (pe_ix ix_tup (pv 1) pe_int (fun _ _ => rfl)) pa_nil))) (pa_cons (pe_call GT hr1 (by rfl) gT kT bT .nil pass0 (pa_cons (pv 0) (pa_cons pe_int pa_nil))) (pa_cons (pv 3) (pa_cons (pe_call GT hr1 (by rfl) gT kT bT .nil pass0 (pa_cons (pv 0) (pa_cons pe_int pa_nil))) (pa_cons (pv 4) (pa_cons (pv 2) pa_nil))))))))))))), ?_⟩
    refine ⟨_, rfl, d, c, 3, rfl, dr, by decide, bnd_le (by decide), fun H1 v1 k1 dr1 a0 a1 => ?_⟩
    have hM1 := hM.kb k1.kb dr
    have b1 := k1.kb
    obtain ⟨n1, n2, hMa, m0, m1, m2, m3, mw, mq0, mq1, ml0, ml1⟩ := id hM1
    refine ⟨_, _, rfl, rfl, _, rfl, _, rfl, a, _, 1, _, rfl, rfl, SqT.of hMa, i1, ?_⟩
    refine ⟨_, rfl, _, _, rfl, rfl, _, _, rfl, rfl, _, _, rfl, d, c, _, rfl, dr1, ?_, ?_, fun H2 v2 k2 dr2 b0 b1' => ?_⟩
    · split <;> omega
    · refine bnd_le ?_
      split <;> omega
    have hv2 : v2 < 20 := by
      split at b1' <;> omega
    clear b1'
    have b2 := b1.trans k2.kb
    have hM2 := hM1.kb k2.kb dr1
    obtain ⟨x1, x2, hMb, y0, y1, y2, y3, _⟩ := id hM2
    refine ⟨_, rfl, _, rfl, a, _, 2, _, rfl, rfl, SqT.of hMb, i2, _, rfl, _, _, rfl, rfl, _, _, rfl, rfl, d, c, _, rfl, dr2, by omega, bnd_le (by omega), fun H3 v3 k3 dr3 c0 c1 => ?_⟩
    have b3 := b2.trans k3.kb
    have hM3 := hM2.kb k3.kb dr2
    refine ⟨by show 3 ≤ sizeLine; decide, fun pt nt => ?_⟩
    have s4 := same_upd (o := .tup [V.str "in", .str "in", .str "out"]) nt
    have hpt : (upd H3 pt (.tup [V.str "in", .str "in", .str "out"])) pt = some (.tup [V.str "in", .str "in", .str "out"]) := upd_same
    have dr4 := dr3.same s4
    have hM4 := hM3.same s4
    have b4 := b3.trans (Same.kb s4)
    generalize upd H3 pt (.tup [V.str "in", .str "in", .str "out"]) = H4 at s4 hpt dr4 hM4 b4
    refine ⟨_, rfl, d, c, 3, rfl, dr4, by decide, bnd_le (by decide), fun H5 v5 k5 dr5 e0 e1 => ?_⟩
    have b5 := b4.trans k5.kb
    have hM5 := hM4.kb k5.kb dr4
    obtain ⟨nm, hnm, hio⟩ : ∃ nm : Str, atI [V.str "in", .str "in", .str "out"] v5 = some (.str nm) ∧ (nm = "in" ∨ nm = "out") := by
      have h3 : v5 = 0 ∨ v5 = 1 ∨ v5 = 2 := by omega
      rcases h3 with rfl | rfl | rfl
      · exact ⟨"in", rfl, .inl rfl⟩
      · exact ⟨"in", rfl, .inl rfl⟩
      · exact ⟨"out", rfl, .inr rfl⟩
    refine ⟨pt, _, v5, _, rfl, rfl, SqT.of (KtAt k5.kb dr4 hpt), hnm, ?_⟩
    obtain ⟨z1, z2, hMc, _⟩ := id hM5
    refine ⟨_, rfl, _, rfl, a, _, 3, _, rfl, rfl, SqT.of hMc, atI_nat (j := 3) rfl, d, c, m.q, rfl, dr5, by omega, bnd_le (by omega), fun H6 v6 k6 dr6 f0 f1 => ?_⟩
    refine ⟨_, rfl, d, c, 3, rfl, dr6, by decide, bnd_le (by decide), fun H7 v7 k7 dr7 g0 g1 => ?_⟩
    refine ⟨_, rfl, _, rfl, d, c, 3, rfl, dr7, by decide, bnd_le (by decide), fun H8 v8 k8 dr8 h0 h1 => ?_⟩
    refine ⟨_, rfl, _, rfl, by show 7 ≤ sizeLine; decide, fun p np => ?_⟩
    have s9 := same_upd (o := .tup [.str nm, .int v6, .int v7, .int v2, .int v8, .int v3, .int (1 + v1)]) np
    refine q _ p (iIns nm [v6, v7, v2, v8, v3, 1 + v1]) ((((b5.trans k6.kb).trans k7.kb).trans k8.kb).trans (Same.kb s9)) (dr8.same s9) ⟨p, _, rfl, upd_same, rfl, rfl, rfl, rfl, rfl, rfl, trivial⟩ ?_
    have hf : nm ∈ INm ∧ (nm ≠ "do" ∧ nm ≠ "vector" ∧ nm ≠ "loop" ∧ nm ≠ "end" ∧ nm ≠ "skip") ∧ fldN nm = (["queue", "slot", "offset", "slot", "offset", "count"] : List Str) := by
      rcases hio with rfl | rfl
      · decide +kernel
      · decide +kernel
    refine iIns_leaf hf.1 hf.2.1 ?_ fun n hn => ?_
    · rw [hf.2.2]
      exact ⟨inB_queue (by omega), inB_slot (by omega), inB_offset (by omega), inB_slot (by omega), inB_offset (by omega), inB_count (by omega), trivial⟩
    · simp only [List.mem_cons, List.not_mem_nil, or_false] at hn
      unfold M6
      rcases hn with rfl | rfl | rfl | rfl | rfl | rfl <;> omega
end

theorem fvs_ints (H : Hp) : ∀ ns : List Int, FvsAt H (ns.map V.int) (ns.map Fv.int)
  | [] => trivial
  | _ :: ns => ⟨rfl, fvs_ints H ns⟩
theorem vec_leaf {m : Mch} {k : Str} {a b e l : Int} (hk : k ∈ PW ∧ acN k = 2) (ha : 0 ≤ a ∧ a ≤ 31) (hb : 0 ≤ b ∧ b ≤ 31) (he : 0 ≤ e ∧ e ≤ 31) (hl : 1 ≤ l ∧ l ≤ m.l) (hm : m.l ≤ 16) : Leaf m ⟨"vector", [.str k, .int a, .int b, .int e, .int l]⟩ := by
  have hf : fldN "vector" = (["kind", "slot", "slot", "slot", "lanes"] : List Str) := by decide +kernel
  have hlit : Lit ⟨"vector", [.str k, .int a, .int b, .int e, .int l]⟩ := fun f hf => by
    simp only [List.mem_cons, List.not_mem_nil, or_false] at hf
    rcases hf with rfl | rfl | rfl | rfl | rfl
    · exact hk.1
    · show a.natAbs < M6
      unfold M6
      omega
    · show b.natAbs < M6
      unfold M6
      omega
    · show e.natAbs < M6
      unfold M6
      omega
    · show l.natAbs < M6
      unfold M6
      omega
  have ns : ("slot" : Str) ≠ "kind" ∧ ("slot" : Str) ≠ "sources" ∧ ("slot" : Str) ≠ "info" := by decide +kernel
  have nl : ("lanes" : Str) ≠ "kind" ∧ ("lanes" : Str) ≠ "sources" ∧ ("lanes" : Str) ≠ "info" := by decide +kernel
  have nvd : ("vector" : Str) ≠ "do" := by decide +kernel
  have nvl : ("vector" : Str) ≠ "loop" := by decide +kernel
  refine ⟨⟨⟨(show ("vector" : Str) ∈ INm by decide +kernel), ?_, hlit.bd⟩, ?_, ⟨?_, fun e => absurd e nvd, fun e => absurd e nvl⟩, hlit⟩, nvl, (show ("vector" : Str) ≠ "end" by decide +kernel), (show ("vector" : Str) ≠ "skip" by decide +kernel)⟩
  · show Typ (fldN "vector") _
    rw [hf]
    exact ⟨rfl, ns, ns, ns, nl, trivial⟩
  · unfold okForm
    rw [if_neg nvd, if_pos rfl]
    show (true && decide (acN k = 2)) = true
    rw [decide_eq_true hk.2]
    rfl
  · show fldsR m (fldN "vector") _
    rw [hf]
    intro p hp
    simp only [List.zip_cons_cons, List.zip_nil_right, List.mem_cons, List.not_mem_nil, or_false] at hp
    rcases hp with rfl | rfl | rfl | rfl | rfl
    · exact trivial
    · exact inB_slot (m := m) ha
    · exact inB_slot (m := m) hb
    · exact inB_slot (m := m) he
    · exact inB_lanes (m := m) hl
section
variable {P : Program} {w : World} {K : PySem.W.Frag} {mg : Str → Option Value} {base : Heap}
def spIn (K : PySem.W.Frag) : Sp := fun vs H Q _ => ∃ (d c a : Addr) (m : Mch), vs = [.ref d, .ref a] ∧ DrAt H d c ∧ MAt H a m ∧ ∀ H' p x, Kb d H H' → DrAt H' d c → InAt H' (.ref p) x → Leaf m x → Q (.ref p) H'
abbrev nIn : List Str := ["d", "machine", "menu", "count", "kind"]
theorem scIn : FnScope nIn ["d", "machine"] (defScope s_law_instruction) := ⟨rfl, rfl, rfl, by decide +kernel, rfl, by decide +kernel, by decide +kernel⟩
theorem ok_in {f : Addr} {fd : FuncData} (F : Fun K "_law_instruction" "_law_instruction" s_law_instruction f fd) (cT : Calls P w K mg base CX0 1 "_law_take" ["d", "many"] spTake) (cS : Calls P w K mg base CX0 2 "_law_signed" ["d", "most"] spSigned) (cDo : Calls P w K mg base CX0 4 "_law_do" ["d", "most"] (spDo K)) (cTr : Calls P w K mg base CX0 2 "_law_transfer" ["d", "machine"] (spTr K)) : FnOk P w K mg base CX0 5 f fd ["d", "machine"] (spIn K) := by
  obtain ⟨fT, dT, GT, kT, bT, gT⟩ := cT.ex
  obtain ⟨fS, dS, GS, kS, bS, gS⟩ := cS.ex
  obtain ⟨fDo, dDo, GDo, kDo, bDo, gDo⟩ := cDo.ex
  obtain ⟨fTr, dTr, GTr, kTr, bTr, gTr⟩ := cTr.ex
  refine F.ok scIn (fun vs H Q E h => ?_) (fun cdv A outer s H vs Q E hr4 h => ?_)
  · obtain ⟨_, _, _, _, rfl, _⟩ := h
    rfl
  · obtain ⟨d, c, a, m, rfl, dr, hM, q⟩ := h
    have hr1 : Room 1 _ := hr4.mono (by decide)
    have hr2 : Room 2 _ := hr4.mono (by decide)
    refine ⟨_, (pss_cons (ps_set (i := 2) scIn.nd rfl (.inl rfl) (pe_call GT hr1 (by rfl) gT kT bT .nil pass0 (pa_cons (pv 0) (pa_cons pe_int pa_nil))))
      (pss_cons (ps_if (pt_cmpR op_lt (pv 2) pe_int (nomark _)) (pss_one (ps_ret (pe_tup (pa_cons pe_str (pa_cons (pe_call GT hr1 (by rfl) gT kT bT .nil pass0 (pa_cons (pv 0) (pa_cons pe_int pa_nil))) (pa_cons (pe_ifExp (pt_cmpR op_eq (pv 2) pe_int (nomark _)) (pe_call GT hr1 (by rfl) gT kT bT .nil pass0 (pa_cons (pv 0) (pa_cons pe_int pa_nil))) (pe_call GS hr2 (by rfl) gS kS bS .nil pass0 (pa_cons (pv 0) (pa_cons pe_int pa_nil)))) pa_nil)))))) pss_nil)
      (pss_cons (ps_if (pt_cmpR op_lt (pv 2) pe_int (nomark _)) (pss_one (ps_ret (pe_call GDo hr4 (by rfl) gDo kDo bDo .nil pass0 (pa_cons (pv 0) (pa_cons pe_int pa_nil))))) pss_nil)
      (pss_cons (ps_if (pt_cmpR op_eq (pv 2) pe_int (nomark _)) (pss_one (ps_ret (pe_tup (pa_cons pe_str (pa_cons (pe_op op_add pe_int (pe_call GT hr1 (by rfl) gT kT bT .nil pass0 (pa_cons (pv 0) (pa_cons pe_int pa_nil)))) (pa_cons (pe_call GT hr1 (by rfl) gT kT bT .nil pass0 (pa_cons (pv 0) (pa_cons pe_int pa_nil))) (pa_cons (pe_call GT hr1 (by rfl) gT kT bT .nil pass0 (pa_cons (pv 0) (pa_cons (pe_ix ix_tup (pv 1) pe_int (fun _ _ => rfl)) pa_nil))) pa_nil))))))) pss_nil)
      (pss_cons (ps_if (pt_cmpR op_eq (pv 2) pe_int (nomark _)) (pss_one (ps_ret (pe_tup (pa_cons pe_str (pa_cons (pe_call GT hr1 (by rfl) gT kT bT .nil pass0 (pa_cons (pv 0) (pa_cons pe_int pa_nil))) (pa_cons (pe_call GT hr1 (by rfl) gT kT bT .nil pass0 (pa_cons (pv 0) (pa_cons (pe_ix ix_tup (pv 1) pe_int (fun _ _ => rfl)) pa_nil))) (pa_cons (pe_call GT hr1 (by rfl) gT kT bT .nil pass0 (pa_cons (pv 0) (pa_cons pe_int pa_nil))) pa_nil))))))) pss_nil)
      (pss_cons (ps_if (pt_cmpR op_eq (pv 2) pe_int (nomark _)) (pss_cons (ps_set (i := 3) scIn.nd rfl (.inl rfl) (pe_op op_add pe_int (pe_call GT hr1 (by rfl) gT kT bT .nil pass0 (pa_cons (pv 0) (pa_cons (pe_ix ix_tup (pv 1) pe_int (fun _ _ => rfl)) pa_nil)))))
      (pss_one (ps_ret (pe_tup (pa_cons pe_str (pa_cons (pe_op op_add pe_int (pe_call GT hr1 (by rfl) gT kT bT .nil pass0 (pa_cons (pv 0) (pa_cons pe_int pa_nil)))) (pa_cons (pe_call GT hr1 (by rfl) gT kT bT .nil pass0 (pa_cons (pv 0) (pa_cons pe_int pa_nil))) (pa_cons (pe_call GT hr1 (by rfl) gT kT bT .nil pass0 (pa_cons (pv 0) (pa_cons pe_int pa_nil))) (pa_cons (pe_call GT hr1 (by rfl) gT kT bT .nil pass0 (pa_cons (pv 0) (pa_cons pe_int pa_nil))) (pa_cons pe_int (pa_cons (pv 3) pa_nil))))))))))) pss_nil)
      (pss_cons (ps_if (pt_cmpR op_eq (pv 2) pe_int (nomark _)) (pss_cons (ps_set (i := 3) scIn.nd rfl (.inl rfl) (pe_op op_add pe_int (pe_call GT hr1 (by rfl) gT kT bT .nil pass0 (pa_cons (pv 0) (pa_cons (pe_ix ix_tup (pv 1) pe_int (fun _ _ => rfl)) pa_nil)))))
      (pss_cons (ps_set (i := 4) scIn.nd rfl (.inl rfl) (pe_ix ix_tup (pe_tup (pa_cons pe_str (pa_cons pe_str (pa_cons pe_str (pa_cons pe_str (pa_cons pe_str (pa_cons pe_str (pa_cons pe_str pa_nil)))))))) (pe_call GT hr1 (by rfl) gT kT bT .nil pass0 (pa_cons (pv 0) (pa_cons pe_int pa_nil))) (fun _ _ => rfl)))
      (pss_one (ps_ret (pe_tup (pa_cons pe_str (pa_cons (pv 4) (pa_cons (pe_call GT hr1 (by rfl) gT kT bT .nil pass0 (pa_cons (pv 0) (pa_cons pe_int pa_nil))) (pa_cons (pe_call GT hr1 (by rfl) gT kT bT .nil pass0 (pa_cons (pv 0) (pa_cons pe_int pa_nil))) (pa_cons (pe_call GT hr1 (by rfl) gT kT bT .nil pass0 (pa_cons (pv 0) (pa_cons pe_int pa_nil))) (pa_cons (pv 3) pa_nil))))))))))) pss_nil)
      (pss_cons (ps_if (PW.pt (pw_or (pt_cmpR op_eq (pv 2) pe_int (nomark _)) (pw_or1 (pt_cmpR op_eq (pv 2) pe_int (nomark _))))) (pss_one (ps_ret (pe_call GTr hr2 (by rfl) gTr kTr bTr .nil pass0 (pa_cons (pv 0) (pa_cons (pv 1) pa_nil))))) pss_nil)
      (pss_cons (ps_if (pt_cmpR op_eq (pv 2) pe_int (nomark _)) (pss_one (ps_ret (pe_tup (pa_cons pe_str (pa_cons (pe_call GT hr1 (by rfl) gT kT bT .nil pass0 (pa_cons (pv 0) (pa_cons (pe_ix ix_tup (pv 1) pe_int (fun _ _ => rfl)) pa_nil))) pa_nil))))) pss_nil)
      (pss_one (ps_ret (pe_tup (pa_cons pe_str (pa_cons pe_int (pa_cons (pe_call GT hr1 (by rfl) gT kT bT .nil pass0 (pa_cons (pv 0) (pa_cons (pe_ix ix_tup (pv 1) pe_int (fun _ _ => rfl)) pa_nil))) (pa_cons (pe_call GT hr1 (by rfl) gT kT bT .nil pass0 (pa_cons (pv 0) (pa_cons pe_int pa_nil))) pa_nil)))))))))))))))), ?_⟩
    refine ⟨_, rfl, d, c, 13, rfl, dr, by decide, bnd_le (by decide), fun H1 menu k1 dr1 a0 a1 => ?_⟩
    have b1 := k1.kb
    have hM1 := hM.kb b1 dr
    obtain ⟨n1, n2, hMa, m0, m1, m2, m3, mw, mq0, mq1, ml0, ml1⟩ := id hM1
    have fin : ∀ (nm : Str) (ns : List Int) {H' : Hp} {p : Addr}, Kb d H H' → DrAt H' d c → H' p = some (.tup (V.str nm :: ns.map V.int)) → (nm ∈ INm ∧ (nm ≠ "do" ∧ nm ≠ "vector" ∧ nm ≠ "loop" ∧ nm ≠ "end" ∧ nm ≠ "skip")) → RngI m (fldN nm) ns → (∀ n ∈ ns, n.natAbs < M6) → Q (.ref p) H' := fun nm ns {H' p} k dr h1 h2 h3 h4 => q _ _ (iIns nm ns) k dr ⟨p, _, rfl, h1, fvs_ints _ _⟩ (iIns_leaf h2.1 h2.2 h3 h4)
    refine ⟨_, rfl, _, _, rfl, rfl, _, rfl, ite2 (fun _ => ?_) (fun _ => ?_)⟩
    · refine ⟨_, rfl, d, c, 6, rfl, dr1, by decide, bnd_le (by decide), fun H2 v2 k2 dr2 b0 b1' => ?_⟩
      have b2 := b1.trans k2.kb
      have fset : ∀ {H' : Hp} {p : Addr} {n : Int}, Kb d H H' → DrAt H' d c → H' p = some (.tup [.str "set", .int v2, .int n]) → -1000 ≤ n ∧ n ≤ 1000 → Q (.ref p) H' := fun {H' p n} k dr h hn => by
        refine fin "set" [v2, n] k dr h (by decide +kernel) ?_ fun x hx => ?_
        · rw [show fldN "set" = (["slot", "word"] : List Str) by decide +kernel]
          exact ⟨inB_slot (by omega), inB_word mw (by omega), trivial⟩
        · simp only [List.mem_cons, List.not_mem_nil, or_false] at hx
          unfold M6
          rcases hx with rfl | rfl <;> omega
      refine ⟨_, rfl, rfl, _, rfl, ite2 (fun _ => ?_) (fun _ => ?_)⟩
      · refine ⟨_, rfl, d, c, 3, rfl, dr2, by decide, bnd_le (by decide), fun H3 v3 k3 dr3 c0 c1 => ⟨by show 3 ≤ sizeLine; decide, fun p np => ?_⟩⟩
        have s4 := same_upd (o := .tup [.str "set", .int v2, .int v3]) np
        exact fset ((b2.trans k3.kb).trans (Same.kb s4)) (dr3.same s4) upd_same (by omega)
      · refine ⟨_, rfl, d, c, 40, rfl, dr2, by decide, bnd_le (by decide), fun H3 v3 k3 dr3 c0 c1 => ⟨by show 3 ≤ sizeLine; decide, fun p np => ?_⟩⟩
        have s4 := same_upd (o := .tup [.str "set", .int v2, .int v3]) np
        exact fset ((b2.trans k3.kb).trans (Same.kb s4)) (dr3.same s4) upd_same (by omega)
    refine ⟨_, rfl, _, _, rfl, rfl, _, rfl, ite2 (fun _ => ?_) (fun _ => ?_)⟩
    · exact ⟨_, rfl, d, c, rfl, dr1, fun H2 p x k2 dr2 hx hl => q _ p x (b1.trans k2) dr2 hx (hl m mw)⟩
    refine ⟨_, rfl, rfl, _, rfl, ite2 (fun _ => ?_) (fun _ => ?_)⟩
    · refine ⟨_, rfl, d, c, 4, rfl, dr1, by decide, bnd_le (by decide), fun H2 v2 k2 dr2 b0 b1' => ?_⟩
      refine ⟨_, _, rfl, rfl, _, rfl, d, c, 4, rfl, dr2, by decide, bnd_le (by decide), fun H3 v3 k3 dr3 c0 c1 => ?_⟩
      have hM3 := (hM1.kb k2.kb dr1).kb k3.kb dr2
      obtain ⟨x1, x2, hMb, y0, y1, y2, y3, _⟩ := id hM3
      refine ⟨_, rfl, _, rfl, a, _, 2, _, rfl, rfl, SqT.of hMb, i2, d, c, _, rfl, dr3, by omega, bnd_le (by omega), fun H4 v4 k4 dr4 d0 d1 => ⟨by show 4 ≤ sizeLine; decide, fun p np => ?_⟩⟩
      have s5 := same_upd (o := .tup [.str "load", .int (2 + v2), .int v3, .int v4]) np
      refine fin "load" [2 + v2, v3, v4] ((((b1.trans k2.kb).trans k3.kb).trans k4.kb).trans (Same.kb s5)) (dr4.same s5) upd_same (by decide +kernel) ?_ fun x hx => ?_
      · rw [show fldN "load" = (["slot", "slot", "offset"] : List Str) by decide +kernel]
        exact ⟨inB_slot (by omega), inB_slot (by omega), inB_offset (by omega), trivial⟩
      · simp only [List.mem_cons, List.not_mem_nil, or_false] at hx
        unfold M6
        rcases hx with rfl | rfl | rfl <;> omega
    refine ⟨_, rfl, rfl, _, rfl, ite2 (fun _ => ?_) (fun _ => ?_)⟩
    · refine ⟨_, rfl, d, c, 4, rfl, dr1, by decide, bnd_le (by decide), fun H2 v2 k2 dr2 b0 b1' => ?_⟩
      have hM2 := hM1.kb k2.kb dr1
      obtain ⟨x1, x2, hMb, y0, y1, y2, y3, _⟩ := id hM2
      refine ⟨_, rfl, _, rfl, a, _, 2, _, rfl, rfl, SqT.of hMb, i2, d, c, _, rfl, dr2, by omega, bnd_le (by omega), fun H3 v3 k3 dr3 c0 c1 => ?_⟩
      refine ⟨_, rfl, d, c, 6, rfl, dr3, by decide, bnd_le (by decide), fun H4 v4 k4 dr4 d0 d1 => ⟨by show 4 ≤ sizeLine; decide, fun p np => ?_⟩⟩
      have s5 := same_upd (o := .tup [.str "store", .int v2, .int v3, .int v4]) np
      refine fin "store" [v2, v3, v4] ((((b1.trans k2.kb).trans k3.kb).trans k4.kb).trans (Same.kb s5)) (dr4.same s5) upd_same (by decide +kernel) ?_ fun x hx => ?_
      · rw [show fldN "store" = (["slot", "offset", "slot"] : List Str) by decide +kernel]
        exact ⟨inB_slot (by omega), inB_offset (by omega), inB_slot (by omega), trivial⟩
      · simp only [List.mem_cons, List.not_mem_nil, or_false] at hx
        unfold M6
        rcases hx with rfl | rfl | rfl <;> omega
    refine ⟨_, rfl, rfl, _, rfl, ite2 (fun _ => ?_) (fun _ => ?_)⟩
    · refine ⟨_, rfl, _, rfl, a, _, 4, _, rfl, rfl, SqT.of hMa, atI_nat (j := 4) rfl, d, c, m.l, rfl, dr1, by omega, bnd_le (by omega), fun H2 v2 k2 dr2 b0 b1' => ?_⟩
      refine ⟨_, _, rfl, rfl, ?_⟩
      refine ⟨_, rfl, d, c, 4, rfl, dr2, by decide, bnd_le (by decide), fun H3 v3 k3 dr3 c0 c1 => ?_⟩
      refine ⟨_, _, rfl, rfl, _, rfl, d, c, 3, rfl, dr3, by decide, bnd_le (by decide), fun H4 v4 k4 dr4 d0 d1 => ?_⟩
      refine ⟨_, rfl, d, c, 3, rfl, dr4, by decide, bnd_le (by decide), fun H5 v5 k5 dr5 e0 e1 => ?_⟩
      refine ⟨_, rfl, d, c, 3, rfl, dr5, by decide, bnd_le (by decide), fun H6 v6 k6 dr6 f0 f1 => ?_⟩
      refine ⟨_, rfl, by show 7 ≤ sizeLine; decide, fun p np => ?_⟩
      have s5 := same_upd (o := .tup [.str "mac", .int (2 + v3), .int v4, .int v5, .int v6, .int 1, .int (1 + v2)]) np
      refine fin "mac" [2 + v3, v4, v5, v6, 1, 1 + v2] ((((((b1.trans k2.kb).trans k3.kb).trans k4.kb).trans k5.kb).trans k6.kb).trans (Same.kb s5)) (dr6.same s5) upd_same (by decide +kernel) ?_ fun x hx => ?_
      · rw [show fldN "mac" = (["slot", "slot", "offset", "slot", "offset", "lanes"] : List Str) by decide +kernel]
        exact ⟨inB_slot (by omega), inB_slot (by omega), inB_offset (by omega), inB_slot (by omega), inB_offset (by omega), inB_lanes (by omega), trivial⟩
      · simp only [List.mem_cons, List.not_mem_nil, or_false] at hx
        unfold M6
        rcases hx with rfl | rfl | rfl | rfl | rfl | rfl <;> omega
    refine ⟨_, rfl, rfl, _, rfl, ite2 (fun _ => ?_) (fun _ => ?_)⟩
    · refine ⟨_, rfl, _, rfl, a, _, 4, _, rfl, rfl, SqT.of hMa, atI_nat (j := 4) rfl, d, c, m.l, rfl, dr1, by omega, bnd_le (by omega), fun H2 v2 k2 dr2 b0 b1' => ?_⟩
      refine ⟨_, _, rfl, rfl, ?_⟩
      refine ⟨by show 7 ≤ sizeLine; decide, fun pt nt => ?_⟩
      rw [show ([V.str "add", V.str "sub", V.str "mul", V.str "max", V.str "min", V.str "less", V.str "equal"] : List V) = (["add", "sub", "mul", "max", "min", "less", "equal"] : List Str).map V.str from rfl]
      have s3 := same_upd (o := .tup ((["add", "sub", "mul", "max", "min", "less", "equal"] : List Str).map V.str)) nt
      have hpt : (upd H2 pt (.tup ((["add", "sub", "mul", "max", "min", "less", "equal"] : List Str).map V.str))) pt = some (.tup ((["add", "sub", "mul", "max", "min", "less", "equal"] : List Str).map V.str)) := upd_same
      have dr3 := dr2.same s3
      generalize upd H2 pt (.tup ((["add", "sub", "mul", "max", "min", "less", "equal"] : List Str).map V.str)) = H3 at s3 hpt dr3
      refine ⟨_, rfl, d, c, 7, rfl, dr3, by decide, bnd_le (by decide), fun H4 v4 k4 dr4 d0 d1 => ?_⟩
      obtain ⟨vn, rfl⟩ : ∃ vn : Nat, v4 = (vn : Int) := ⟨v4.toNat, by omega⟩
      obtain ⟨k, hk1⟩ : ∃ k, (["add", "sub", "mul", "max", "min", "less", "equal"] : List Str)[vn]? = some k := ⟨_, List.getElem?_eq_getElem (by show vn < 7; omega)⟩
      have hk : k ∈ PW ∧ acN k = 2 := by
        have : ∀ k ∈ (["add", "sub", "mul", "max", "min", "less", "equal"] : List Str), k ∈ PW ∧ acN k = 2 := by decide +kernel
        exact this k (List.mem_of_getElem? hk1)
      refine ⟨pt, _, _, _, rfl, rfl, SqT.of (KtAt k4.kb dr3 hpt), atI_nat (j := vn) (by rw [List.getElem?_map, hk1]; rfl), ?_⟩
      refine ⟨_, rfl, _, rfl, d, c, 3, rfl, dr4, by decide, bnd_le (by decide), fun H5 v5 k5 dr5 e0 e1 => ?_⟩
      refine ⟨_, rfl, d, c, 3, rfl, dr5, by decide, bnd_le (by decide), fun H6 v6 k6 dr6 f0 f1 => ?_⟩
      refine ⟨_, rfl, d, c, 3, rfl, dr6, by decide, bnd_le (by decide), fun H7 v7 k7 dr7 g0 g1 => ?_⟩
      refine ⟨_, rfl, by show 6 ≤ sizeLine; decide, fun p np => ?_⟩
      have s5 := same_upd (o := .tup [.str "vector", .str k, .int v5, .int v6, .int v7, .int (1 + v2)]) np
      exact q _ p ⟨"vector", [.str k, .int v5, .int v6, .int v7, .int (1 + v2)]⟩ (((((((b1.trans k2.kb).trans (Same.kb s3)).trans k4.kb).trans k5.kb).trans k6.kb).trans k7.kb).trans (Same.kb s5)) (dr7.same s5) ⟨p, _, rfl, upd_same, rfl, rfl, rfl, rfl, rfl, trivial⟩ (vec_leaf hk (by omega) (by omega) (by omega) (by omega) ml1)
    refine ⟨_, rfl, rfl, _, rfl, ite2 (fun _ => iteT ?_) (fun _ => ⟨_, rfl, rfl, _, rfl, ite2 (fun _ => ?_) (fun _ => ?_)⟩)⟩
    · exact ⟨_, rfl, _, rfl, d, c, a, m, rfl, dr1, hM1, fun H2 p x k2 dr2 hx hl => q _ p x (b1.trans k2) dr2 hx hl⟩
    · exact ⟨_, rfl, _, rfl, d, c, a, m, rfl, dr1, hM1, fun H2 p x k2 dr2 hx hl => q _ p x (b1.trans k2) dr2 hx hl⟩
    refine ⟨_, rfl, rfl, _, rfl, ite2 (fun _ => ?_) (fun _ => ?_)⟩
    · refine ⟨_, rfl, _, rfl, a, _, 3, _, rfl, rfl, SqT.of hMa, atI_nat (j := 3) rfl, d, c, m.q, rfl, dr1, by omega, bnd_le (by omega), fun H2 v2 k2 dr2 b0 b1' => ⟨by show 2 ≤ sizeLine; decide, fun p np => ?_⟩⟩
      have s5 := same_upd (o := .tup [.str "wait", .int v2]) np
      refine fin "wait" [v2] ((b1.trans k2.kb).trans (Same.kb s5)) (dr2.same s5) upd_same (by decide +kernel) ?_ fun x hx => ?_
      · rw [show fldN "wait" = (["queue"] : List Str) by decide +kernel]
        exact ⟨inB_queue (by omega), trivial⟩
      · rw [List.mem_singleton.mp hx]
        unfold M6
        omega
    · refine ⟨_, rfl, _, rfl, a, _, 2, _, rfl, rfl, SqT.of hMa, i2, d, c, _, rfl, dr1, by omega, bnd_le (by omega), fun H3 v3 k3 dr3 c0 c1 => ?_⟩
      refine ⟨_, rfl, d, c, 6, rfl, dr3, by decide, bnd_le (by decide), fun H4 v4 k4 dr4 d0 d1 => ⟨by show 4 ≤ sizeLine; decide, fun p np => ?_⟩⟩
      have s5 := same_upd (o := .tup [.str "store", .int 0, .int v3, .int v4]) np
      refine fin "store" [0, v3, v4] (((b1.trans k3.kb).trans k4.kb).trans (Same.kb s5)) (dr4.same s5) upd_same (by decide +kernel) ?_ fun x hx => ?_
      · rw [show fldN "store" = (["slot", "offset", "slot"] : List Str) by decide +kernel]
        exact ⟨inB_slot (by omega), inB_offset (by omega), inB_slot (by omega), trivial⟩
      · simp only [List.mem_cons, List.not_mem_nil, or_false] at hx
        unfold M6
        rcases hx with rfl | rfl | rfl <;> omega
end

def SB : Nat → Int | 0 => 1 | n + 1 => 1 + 3 * (3 * SB n + 1)
def LB : Nat → Nat | 0 => 1 | n + 1 => 2 + 3 * LB n
theorem SB_pos : ∀ n, 1 ≤ SB n
  | 0 => Int.le_refl 1
  | n + 1 => by
    have := SB_pos n
    show 1 ≤ 1 + 3 * (3 * SB n + 1)
    omega
theorem LB_pos : ∀ n, 1 ≤ LB n
  | 0 => Nat.le_refl 1
  | n + 1 => by
    show 1 ≤ 2 + 3 * LB n
    omega
/-- a drawn block of so many parts -/
structure Blk (m : Mch) (n : Nat) (k : Nat) (xs : List Ins) : Prop where
  g : ∃ s, Good m n xs s ∧ 0 ≤ s ∧ s ≤ k * SB n
  l : xs.length ≤ k * LB n
  t : ∀ x ∈ xs, Lit x
theorem Blk.nil (m : Mch) (n : Nat) : Blk m n 0 [] := ⟨⟨0, Good.nil m n, Int.le_refl 0, by rw [Int.natCast_zero, Int.zero_mul]; exact Int.le_refl 0⟩, Nat.zero_le _, fun _ h => nomatch h⟩
theorem Blk.app {m : Mch} {n j k : Nat} {xs ys : List Ins} (h : Blk m n j xs) (g : Blk m n k ys) : Blk m n (j + k) (xs ++ ys) := by
  obtain ⟨s, h1, h2, h3⟩ := h.g
  obtain ⟨u, g1, g2, g3⟩ := g.g
  have hl := h.l
  have gl := g.l
  refine ⟨⟨s + u, h1.app g1, by omega, ?_⟩, ?_, fun x hx => (List.mem_append.mp hx).elim (h.t x) (g.t x)⟩
  · rw [Int.natCast_add, Int.add_mul]
    omega
  · rw [List.length_append, Nat.add_mul]
    omega
theorem Blk.leaf {m : Mch} {n : Nat} {x : Ins} (h : Leaf m x) : Blk m n 1 [x] := by
  have := SB_pos n
  have := LB_pos n
  refine ⟨⟨1, Good.leaf h.ok h.form h.r h.n1 h.n2 h.n3, by decide, ?_⟩, ?_, fun y hy => by rw [List.mem_singleton.mp hy]; exact h.lit⟩
  · show 1 ≤ (1 : Int) * SB n
    omega
  · show 1 ≤ 1 * LB n
    omega
theorem Blk.loop {m : Mch} {n k : Nat} {h e : Ins} {ys : List Ins} (g : Blk m n k ys) (hk : k ≤ 3) (h1 : Drn m h) (hn : h.nm = "loop") (ht : 0 ≤ iAt h 3 ∧ iAt h 3 ≤ 3) (e1 : Drn m e) (en : e.nm = "end") : Blk m (n + 1) 1 ([h] ++ ys ++ [e]) := by
  obtain ⟨s, g1, g2, g3⟩ := g.g
  have gl := g.l
  have hp := SB_pos n
  have hl := LB_pos n
  have hs : s ≤ 3 * SB n := by
    refine Int.le_trans g3 (Int.mul_le_mul_of_nonneg_right (by omega) (by omega))
  have hml : k * LB n ≤ 3 * LB n := Nat.mul_le_mul_right _ hk
  refine ⟨⟨_, g1.loop h1.ok h1.form h1.r hn e1.ok e1.form e1.r en, ?_, ?_⟩, ?_, fun x hx => ?_⟩
  · have := Int.mul_nonneg ht.1 (show 0 ≤ s + 1 by omega)
    omega
  · show _ ≤ (1 : Int) * (1 + 3 * (3 * SB n + 1))
    have h5 : iAt h 3 * (s + 1) ≤ 3 * (s + 1) := Int.mul_le_mul_of_nonneg_right ht.2 (by omega)
    omega
  · show _ ≤ 1 * (2 + 3 * LB n)
    simp only [List.length_append, List.length_cons, List.length_nil]
    omega
  · rcases List.mem_append.mp hx with hx | hx
    · rcases List.mem_append.mp hx with hx | hx
      · rw [List.mem_singleton.mp hx]; exact h1.lit
      · exact g.t x hx
    · rw [List.mem_singleton.mp hx]; exact e1.lit
theorem Good.up {m : Mch} {k j : Nat} {xs : List Ins} {s : Int} (h : Good m k xs s) (l : k ≤ j) : Good m j xs s := h.mono l
theorem Blk.skip {m : Mch} {n k : Nat} {h : Ins} {ys : List Ins} (g : Blk m n k ys) (hk : k ≤ 3) (h1 : Drn m h) (hn : h.nm = "skip") (hl : iAt h 1 = (ys.length : Int)) : Blk m (n + 1) 1 ([h] ++ ys) := by
  obtain ⟨s, g1, g2, g3⟩ := g.g
  have gl := g.l
  have hp := SB_pos n
  have hlp := LB_pos n
  have hs : s ≤ 3 * SB n := Int.le_trans g3 (Int.mul_le_mul_of_nonneg_right (by omega) (by omega))
  have hml : k * LB n ≤ 3 * LB n := Nat.mul_le_mul_right _ hk
  refine ⟨⟨_, (g1.mono (Nat.le_succ n)).skip h1.ok h1.form h1.r hn hl, by omega, ?_⟩, ?_, fun x hx => ?_⟩
  · show _ ≤ (1 : Int) * (1 + 3 * (3 * SB n + 1))
    omega
  · show _ ≤ 1 * (2 + 3 * LB n)
    simp only [List.length_append, List.length_cons, List.length_nil]
    omega
  · rcases List.mem_append.mp hx with hx | hx
    · rw [List.mem_singleton.mp hx]; exact h1.lit
    · exact g.t x hx
theorem Kb.none {d c a : Addr} {H H' : Hp} (k : Kb d H H') (dr : DrAt H' d c) (h : H' a = none) : H a = none := by
  cases e : H a with
  | none => rfl
  | some o =>
    exfalso
    by_cases hd : a = d
    · subst hd
      obtain ⟨xs, hx⟩ := dr.lst
      rw [hx] at h
      cases h
    · rw [k a o hd e] at h
      cases h
section
variable {P : Program} {w : World} {K : PySem.W.Frag} {mg : Str → Option Value} {base : Heap}
def spBl (K : PySem.W.Frag) : Nat → Sp := fun n vs H Q _ => ∃ (d c a : Addr) (m : Mch) (many : Nat), vs = [.ref d, .ref a, .int (4 - (n : Int)), .int (many : Int)] ∧ 1 ≤ n ∧ n ≤ 4 ∧ many ≤ 7 ∧ DrAt H d c ∧ MAt H a m ∧
  ∀ H' p us xs, Kb d H H' → DrAt H' d c → H p = none → p ≠ d → p ≠ c → H' p = some (.lst us) → InsAt H' us xs → Blk m (n - 1) many xs → Q (.ref p) H'
abbrev nBl : List Str := ["d", "machine", "depth", "many", "code", "k", "menu", "head", "inner"]
theorem scBl : FnScope nBl ["d", "machine", "depth", "many"] (defScope s_law_block) := ⟨rfl, rfl, rfl, by decide +kernel, rfl, by decide +kernel, by decide +kernel⟩
theorem ok_bl {f : Addr} {fd : FuncData} (F : Fun K "_law_block" "_law_block" s_law_block f fd) (T : TxtT mg) (cT : Calls P w K mg base CX0 1 "_law_take" ["d", "many"] spTake) (cS : Calls P w K mg base CX0 2 "_law_signed" ["d", "most"] spSigned) (cIn : Calls P w K mg base CX0 5 "_law_instruction" ["d", "machine"] (spIn K)) (kBl : PySem.W.keepIn K (.ref f) = true) (bBl : Binds K fd ["d", "machine", "depth", "many"] []) (gBl : mg "_law_block" = some (.ref f)) :
    ∀ n : Nat, n ≤ 4 → FnOk P w K mg base CX0 (n + 5) f fd ["d", "machine", "depth", "many"] (spBl K n) := by
  obtain ⟨fT, dT, GT, kT, bT, gT⟩ := cT.ex
  obtain ⟨fS, dS, GS, kS, bS, gS⟩ := cS.ex
  obtain ⟨fIn, dIn, GIn, kIn, bIn, gIn⟩ := cIn.ex
  intro n
  induction n with
  | zero => exact fun _ => ⟨fun vs H Q E h => (by obtain ⟨_, _, _, _, _, _, h1, _⟩ := h; exact absurd h1 (by decide)), fun A o s H args us vs Q E _ _ _ _ h => (by obtain ⟨_, _, _, _, _, _, h1, _⟩ := h; exact absurd h1 (by decide))⟩
  | succ n ih =>
  intro hn4
  have GBl := ih (by omega)
  refine F.ok scBl (fun vs H Q E h => ?_) (fun cdv A outer s H vs Q E hrn h => ?_)
  · obtain ⟨_, _, _, _, _, rfl, _⟩ := h
    rfl
  · obtain ⟨d, c, a, m, many, rfl, _, _, hmany, dr, hM, q⟩ := h
    have hr1 : Room 1 _ := hrn.mono (by omega)
    have hr2 : Room 2 _ := hrn.mono (by omega)
    have hr5 : Room 5 _ := hrn.mono (by omega)
    have hrs : Room (n + 5) _ := hrn
    rw [Nat.add_sub_cancel] at q
    refine ⟨_, (pss_cons (ps_set (i := 4) scBl.nd rfl (.inl rfl) (pe_lst pa_nil))
      (pss_cons (ps_for PassesOwn.never rfl (pi_range1 rfl T.range (pa_cons (pv 3) pa_nil)) (pg_name (i := 5) scBl.nd rfl (.inl rfl)) (Evl.pss_cut (ps_set (i := 6) scBl.nd rfl (.inl rfl) (pe_ifExp (pt_cmpR op_lt (pv 2) pe_int (nomark _)) (pe_call GT hr1 (by rfl) gT kT bT .nil pass0 (pa_cons (pv 0) (pa_cons pe_int pa_nil))) pe_int))
      (pss_one (ps_if (pt_cmpR op_eq (pv 6) pe_int (nomark _)) (pss_cons (ps_set (i := 7) scBl.nd rfl (.inl rfl) (pe_tup (pa_cons pe_str (pa_cons (pe_call GT hr1 (by rfl) gT kT bT .nil pass0 (pa_cons (pv 0) (pa_cons pe_int pa_nil))) (pa_cons (pe_call GS hr2 (by rfl) gS kS bS .nil pass0 (pa_cons (pv 0) (pa_cons pe_int pa_nil))) (pa_cons (pe_ix ix_tup (pe_tup (pa_cons pe_int (pa_cons pe_int (pa_cons (pe_op op_sub pe_int pe_int) pa_nil)))) (pe_call GT hr1 (by rfl) gT kT bT .nil pass0 (pa_cons (pv 0) (pa_cons pe_int pa_nil))) (fun _ _ => rfl)) (pa_cons (pe_op op_add pe_int (pe_call GT hr1 (by rfl) gT kT bT .nil pass0 (pa_cons (pv 0) (pa_cons pe_int pa_nil)))) pa_nil)))))))
      (pss_one (ps_set (i := 4) scBl.nd rfl (.inl rfl) (pe_op op_cat (pe_op op_cat (pe_op op_cat (pv 4) (pe_lst (pa_cons (pv 7) pa_nil))) (pe_call GBl hrs (by rfl) gBl kBl bBl .nil pass0 (pa_cons (pv 0) (pa_cons (pv 1) (pa_cons (pe_op op_add (pv 2) pe_int) (pa_cons (pe_op op_add pe_int (pe_call GT hr1 (by rfl) gT kT bT .nil pass0 (pa_cons (pv 0) (pa_cons pe_int pa_nil)))) pa_nil)))))) (pe_lst (pa_cons (pe_tup (pa_cons pe_str pa_nil)) pa_nil)))))) (pss_one (ps_if (pt_cmpR op_eq (pv 6) pe_int (nomark _)) (pss_cons (ps_set (i := 8) scBl.nd rfl (.inl rfl) (pe_call GBl hrs (by rfl) gBl kBl bBl .nil pass0 (pa_cons (pv 0) (pa_cons (pv 1) (pa_cons (pe_op op_add (pv 2) pe_int) (pa_cons (pe_op op_add pe_int (pe_call GT hr1 (by rfl) gT kT bT .nil pass0 (pa_cons (pv 0) (pa_cons pe_int pa_nil)))) pa_nil))))))
      (pss_one (ps_set (i := 4) scBl.nd rfl (.inl rfl) (pe_op op_cat (pe_op op_cat (pv 4) (pe_lst (pa_cons (pe_tup (pa_cons pe_str (pa_cons (pe_call GT hr1 (by rfl) gT kT bT .nil pass0 (pa_cons (pv 0) (pa_cons pe_int pa_nil))) (pa_cons (pe_callB call_len_seq (by rfl) T.len PySem.boot_len (pa_cons (pv 8) pa_nil)) pa_nil)))) pa_nil))) (pv 8))))) (pss_one (ps_expr (pe_bm PySem.F.plainAttrs_list PySem.F.slot_list_append PySem.F.type_list_append mt_append (pv 4) (pa_cons (pe_call GIn hr5 (by rfl) gIn kIn bIn .nil pass0 (pa_cons (pv 0) (pa_cons (pv 1) pa_nil))) pa_nil))))))))))
      (pss_one (ps_ret (pv 4))))), ?_⟩
    refine ⟨Nat.zero_le _, fun p0 np0 => ?_⟩
    have s0 := same_upd (o := .lst []) np0
    have dr0 := dr.same s0
    obtain ⟨n0d, n0c⟩ := new_ne dr np0
    have hp0 : (upd H p0 (.lst [])) p0 = some (.lst []) := upd_same
    generalize upd H p0 (.lst []) = H0 at s0 dr0 hp0
    refine ⟨_, rfl, _, rfl, by omega, by omega, for_range (lo := 0) (n := ((many : Nat) : Int).toNat) (fun i σ H' => ∃ (pc : Addr) (us : List V) (xs : List Ins) (v5 v6 v7 v8 : Option V), σ = [some (.ref d), some (.ref a), some (.int (4 - ((n + 1 : Nat) : Int))), some (.int (many : Int)), some (.ref pc), v5, v6, v7, v8] ∧ Kb d H H' ∧ DrAt H' d c ∧ H pc = none ∧ pc ≠ d ∧ pc ≠ c ∧ H' pc = some (.lst us) ∧ InsAt H' us xs ∧ Blk m n i xs)
      ⟨p0, [], [], none, none, none, none, rfl, Same.kb s0, dr0, np0, n0d, n0c, hp0, InsAt.nil _, Blk.nil m n⟩ ?_ ?_⟩
    · rintro i σ H1 hi ⟨pc, us, xs, v5, v6, v7, v8, rfl, kb1, dr1, npc, ncd, ncc, hpc, hI, hB⟩
      have hM1 := hM.kb kb1 dr
      have hus : us.length = xs.length := hI.1
      have hil : i < many := by rw [Int.toNat_natCast] at hi; exact hi
      have hxl : xs.length ≤ 1127 := by
        have h1 := hB.l
        have h2 : LB n ≤ 161 := by
          have : ∀ n, n < 5 → LB n ≤ 161 := by decide
          exact this n (by omega)
        have h3 : i * LB n ≤ 7 * 161 := Nat.mul_le_mul (by omega) h2
        omega
      have e1 : (4 - ((n + 1 : Nat) : Int)) + 1 = 4 - (n : Int) := by omega
      refine ⟨fun σ' H' => ∃ menu : Int, σ' = [some (.ref d), some (.ref a), some (.int (4 - ((n + 1 : Nat) : Int))), some (.int (many : Int)), some (.ref pc), some (.int (0 + (i : Int))), some (.int menu), v7, v8] ∧ Kb d H H' ∧ DrAt H' d c ∧ H' pc = some (.lst us) ∧ InsAt H' us xs ∧ (menu = 0 ∨ menu = 1 → 1 ≤ n), ?_, ?_⟩
      · refine ⟨_, rfl, _, _, rfl, rfl, _, rfl, ite2 (fun c1 => ?_) (fun c1 => ?_)⟩
        · have c1 := of_decide_eq_true c1
          refine ⟨_, rfl, d, c, 9, rfl, dr1, by decide, bnd_le (by decide), fun H2 v k2 dr2 v0 v1 => ?_⟩
          exact ⟨v, rfl, kb1.trans k2.kb, dr2, k2.kb _ _ ncd hpc, hI.keep (k2.kb.nl dr1), fun _ => by omega⟩
        · exact ⟨2, rfl, kb1, dr1, hpc, hI, fun h => by omega⟩
      rintro σ' H2 ⟨menu, rfl, kb2, dr2, hpc2, hI2, hmn⟩
      clear hpc hI dr1 kb1 hM1
      have hM2 := hM.kb kb2 dr
      refine ⟨_, rfl, rfl, _, rfl, ?_⟩
      by_cases cm0 : menu = 0
      · rw [decide_eq_true (show V.int menu = V.int 0 by rw [cm0])]
        have hn1 := hmn (.inl cm0)
        obtain ⟨n', rfl⟩ : ∃ n', n = n' + 1 := ⟨n - 1, by omega⟩
        refine iteT ⟨_, rfl, d, c, 5, rfl, dr2, by decide, bnd_le (by decide), fun H3 x1 k3 dr3 a0 a1 => ?_⟩
        refine ⟨_, rfl, d, c, 2, rfl, dr3, by decide, bnd_le (by decide), fun H4 x2 k4 dr4 b0 b1 => ?_⟩
        refine ⟨_, _, rfl, rfl, by show 3 ≤ sizeLine; decide, fun pt nt => ?_⟩
        have st := same_upd (o := .tup [V.int 1, .int 2, .int (0 - 1)]) nt
        have hpt : (upd H4 pt (.tup [V.int 1, .int 2, .int (0 - 1)])) pt = some (.tup [V.int 1, .int 2, .int (0 - 1)]) := upd_same
        have kb5 := (((kb2.trans k3.kb).trans k4.kb).trans (Same.kb st))
        have dr5 := dr4.same st
        have hpc5 := st _ _ (k4.kb _ _ ncd (k3.kb _ _ ncd hpc2))
        have hI5 := (((hI2.keep (k3.kb.nl dr2)).keep (k4.kb.nl dr3))).keep (Same.nl st)
        clear hI2 hpc2 kb2 dr2 k3 k4 dr3 dr4 hM2
        generalize upd H4 pt (.tup [V.int 1, .int 2, .int (0 - 1)]) = H5 at st hpt kb5 dr5 hpc5 hI5
        refine ⟨_, rfl, d, c, 3, rfl, dr5, by decide, bnd_le (by decide), fun H6 x3 k6 dr6 c0 c1 => ?_⟩
        obtain ⟨sp, hsp, sp0⟩ : ∃ sp : Int, atI [V.int 1, .int 2, .int (0 - 1)] x3 = some (.int sp) ∧ (-1 ≤ sp ∧ sp ≤ 2) := by
          have h3 : x3 = 0 ∨ x3 = 1 ∨ x3 = 2 := by omega
          rcases h3 with rfl | rfl | rfl
          · exact ⟨1, rfl, by decide⟩
          · exact ⟨2, rfl, by decide⟩
          · exact ⟨0 - 1, rfl, by decide⟩
        refine ⟨pt, _, x3, _, rfl, rfl, SqT.of (KtAt k6.kb dr5 hpt), hsp, ?_⟩
        refine ⟨_, rfl, d, c, 3, rfl, dr6, by decide, bnd_le (by decide), fun H7 x4 k7 dr7 d0 d1 => ?_⟩
        refine ⟨_, _, rfl, rfl, by show 5 ≤ sizeLine; decide, fun ph nh => ?_⟩
        have sh := same_upd (o := .tup [V.str "loop", .int x1, .int x2, .int sp, .int (1 + x4)]) nh
        have hph : (upd H7 ph (.tup [V.str "loop", .int x1, .int x2, .int sp, .int (1 + x4)])) ph = some (.tup [V.str "loop", .int x1, .int x2, .int sp, .int (1 + x4)]) := upd_same
        have kb8 := ((kb5.trans k6.kb).trans k7.kb).trans (Same.kb sh)
        have dr8 := dr7.same sh
        have hpc8 := sh _ _ (k7.kb _ _ ncd (k6.kb _ _ ncd hpc5))
        have hI8 := ((hI5.keep (k6.kb.nl dr5)).keep (k7.kb.nl dr6)).keep (Same.nl sh)
        clear hI5 hpc5 kb5 dr5 k6 k7 dr6 dr7 hpt st
        generalize upd H7 ph (.tup [V.str "loop", .int x1, .int x2, .int sp, .int (1 + x4)]) = H8 at sh hph kb8 dr8 hpc8 hI8
        -- code + [head]
        refine ⟨_, rfl, _, rfl, by show 1 ≤ sizeLine; decide, fun p1 np1 => ?_⟩
        have s9 := same_upd (o := .lst [V.ref ph]) np1
        refine ⟨pc, p1, us, [V.ref ph], rfl, rfl, s9 _ _ hpc8, upd_same, by rw [List.length_singleton]; exact size64 (by omega), fun p2 np2 => ?_⟩
        have s10 := same_upd (o := .lst (us ++ [V.ref ph])) np2
        have hp2 : (upd (upd H8 p1 (.lst [V.ref ph])) p2 (.lst (us ++ [V.ref ph]))) p2 = some (.lst (us ++ [V.ref ph])) := upd_same
        obtain ⟨n2d, n2c⟩ := new_ne (dr8.same s9) np2
        have s8 := s9.trans s10
        have kb10 := kb8.trans (Same.kb s8)
        have dr10 := dr8.same s8
        have hI10 := hI8.keep (Same.nl s8)
        have hph10 := s8 _ _ hph
        clear hI8 kb8 dr8 hpc8 hph
        generalize upd (upd H8 p1 (.lst [V.ref ph])) p2 (.lst (us ++ [V.ref ph])) = H10 at hp2 kb10 dr10 hI10 hph10
        refine ⟨_, rfl, _, rfl, _, rfl, _, _, rfl, rfl, _, rfl, d, c, 3, rfl, dr10, by decide, bnd_le (by decide), fun H11 x5 k11 dr11 g0 g1 => ?_⟩
        obtain ⟨k, hk⟩ : ∃ k : Nat, 1 + x5 = (k : Int) := ⟨(1 + x5).toNat, by omega⟩
        have kb11 := kb10.trans k11.kb
        refine ⟨_, _, rfl, rfl, d, c, a, m, k, by show [V.ref d, V.ref a, V.int ((4 - ((n' + 1 + 1 : Nat) : Int)) + 1), V.int (1 + x5)] = _; rw [e1, hk], by omega, by omega, by omega, dr11, hM.kb kb11 dr, fun H12 p3 ws ys k12 dr12 np3 n3d n3c hp3 hI3 hB3 => ?_⟩
        have hp2' := k12 _ _ n2d (k11.kb _ _ n2d hp2)
        have hI12 := (hI10.keep (k11.kb.nl dr10)).keep (k12.nl dr11)
        have hph12 := KtAt k12 dr11 (KtAt k11.kb dr10 hph10)
        have kb12 := kb11.trans k12
        have hyl : ys.length ≤ 1127 := by
          have h1 := hB3.l
          have h2 : LB (n' + 1 - 1) ≤ 161 := by
            have : ∀ n, n < 5 → LB n ≤ 161 := by decide
            exact this _ (by omega)
          have h3 : k * LB (n' + 1 - 1) ≤ 7 * 161 := Nat.mul_le_mul (by omega) h2
          omega
        have hwl : ws.length = ys.length := hI3.1
        refine ⟨p2, p3, _, _, rfl, rfl, hp2', hp3, by rw [List.length_append, List.length_singleton]; exact size64 (by omega), fun p4 np4 => ?_⟩
        have s13 := same_upd (o := .lst (us ++ [V.ref ph] ++ ws)) np4
        refine ⟨by show 1 ≤ sizeLine; decide, fun pe ne => ?_⟩
        have s14 := same_upd (o := .tup [V.str "end"]) ne
        refine ⟨by show 1 ≤ sizeLine; decide, fun p5 np5 => ?_⟩
        have s15 := same_upd (o := .lst [V.ref pe]) np5
        refine ⟨p4, p5, _, _, rfl, rfl, s15 _ _ (s14 _ _ upd_same), upd_same, by rw [List.length_append, List.length_append, List.length_singleton, List.length_singleton]; exact size64 (by omega), fun p6 np6 => ?_⟩
        have s16 := same_upd (o := .lst (us ++ [V.ref ph] ++ ws ++ [V.ref pe])) np6
        have s1216 := ((s13.trans s14).trans s15).trans s16
        have hpe := s16 _ _ (s15 _ _ (upd_same (H := upd H12 p4 (.lst (us ++ [V.ref ph] ++ ws))) (a := pe) (o := .tup [V.str "end"])))
        have s1215 := (s13.trans s14).trans s15
        obtain ⟨n6d, n6c⟩ := new_ne (dr12.same s1215) np6
        have kb16 := kb12.trans (Same.kb s1216)
        have dr16 := dr12.same s1216
        have np6H := (kb12.trans (Same.kb s1215)).none (dr12.same s1215) np6
        have hph16 := s1216 _ _ hph12
        have hI16 := hI12.keep (Same.nl s1216)
        have hI316 := hI3.keep (Same.nl s1216)
        have hm32 : 32 ≤ m.w := by
          obtain ⟨_, _, _, _, _, _, _, h, _⟩ := hM
          exact h
        have hdl : Drn m (iIns "loop" [x1, x2, sp, 1 + x4]) := by
          refine iIns_drn (by decide +kernel) (by decide +kernel) (by decide +kernel) ?_ (fun y hy => ?_) fun _ => ?_
          · rw [show fldN "loop" = (["slot", "begin", "begin", "turns"] : List Str) by decide +kernel]
            exact ⟨inB_slot (by omega), inB_begin hm32 (by omega), inB_begin hm32 (by omega), inB_turns (by omega), trivial⟩
          · simp only [List.mem_cons, List.not_mem_nil, or_false] at hy
            unfold M6
            rcases hy with rfl | rfl | rfl | rfl <;> omega
          · have h5 : sp * (1 + x4 - 1) ≤ 2 * 3 ∧ -(1 * 3) ≤ sp * (1 + x4 - 1) := by
              have h4 : 1 + x4 - 1 = x4 := by omega
              rw [h4]
              have h6 : x4 = 0 ∨ x4 = 1 ∨ x4 = 2 := by omega
              rcases h6 with rfl | rfl | rfl <;> omega
            exact ⟨inB_word hm32 (by omega), inB_word hm32 (by omega)⟩
        have hde : Drn m (iIns "end" []) := by
          refine iIns_drn (by decide +kernel) (by decide +kernel) (by decide +kernel) ?_ (fun y hy => nomatch hy) fun e => absurd e (by decide +kernel)
          rw [show fldN "end" = ([] : List Str) by decide +kernel]
          exact trivial
        have hBl := hB3.loop (h := iIns "loop" [x1, x2, sp, 1 + x4]) (e := iIns "end" []) (by omega) hdl rfl ⟨by show 0 ≤ 1 + x4; omega, by show 1 + x4 ≤ 3; omega⟩ hde rfl
        refine ⟨p6, _, xs ++ [iIns "loop" [x1, x2, sp, 1 + x4]] ++ ys ++ [iIns "end" []], _, _, _, _, rfl, kb16, dr16, np6H, n6d, n6c, upd_same, ?_, ?_⟩
        · exact ((hI16.app (InsAt.one (x := iIns "loop" [x1, x2, sp, 1 + x4]) ⟨ph, _, rfl, hph16, fvs_ints _ [x1, x2, sp, 1 + x4]⟩)).app hI316).app (InsAt.one (x := iIns "end" []) ⟨pe, [], rfl, hpe, trivial⟩)
        · have := hB.app hBl
          rw [List.append_assoc xs, List.append_assoc xs]
          exact this
      rw [decide_eq_false (show ¬ V.int menu = V.int 0 from fun z => cm0 (V.int.inj z))]
      refine iteF ⟨_, rfl, rfl, _, rfl, ?_⟩
      by_cases cm1 : menu = 1
      · rw [decide_eq_true (show V.int menu = V.int 1 by rw [cm1])]
        have hn1 := hmn (.inr cm1)
        obtain ⟨n', rfl⟩ : ∃ n', n = n' + 1 := ⟨n - 1, by omega⟩
        refine iteT ⟨_, rfl, _, rfl, _, rfl, _, _, rfl, rfl, _, rfl, d, c, 2, rfl, dr2, by decide, bnd_le (by decide), fun H3 x5 k3 dr3 g0 g1 => ?_⟩
        obtain ⟨k, hk⟩ : ∃ k : Nat, 1 + x5 = (k : Int) := ⟨(1 + x5).toNat, by omega⟩
        have kb3 := kb2.trans k3.kb
        refine ⟨_, _, rfl, rfl, d, c, a, m, k, by show [V.ref d, V.ref a, V.int ((4 - ((n' + 1 + 1 : Nat) : Int)) + 1), V.int (1 + x5)] = _; rw [e1, hk], by omega, by omega, by omega, dr3, hM.kb kb3 dr, fun H4 p3 ws ys k4 dr4 np3 n3d n3c hp3 hI3 hB3 => ?_⟩
        have kb4 := kb3.trans k4
        have hpc4 := k4 _ _ ncd (k3.kb _ _ ncd hpc2)
        have hI4 := (hI2.keep (k3.kb.nl dr2)).keep (k4.nl dr3)
        have hyl : ys.length ≤ 1127 := by
          have h1 := hB3.l
          have h2 : LB (n' + 1 - 1) ≤ 161 := by
            have : ∀ n, n < 5 → LB n ≤ 161 := by decide
            exact this _ (by omega)
          have h3 : k * LB (n' + 1 - 1) ≤ 7 * 161 := Nat.mul_le_mul (by omega) h2
          omega
        have hwl : ws.length = ys.length := hI3.1
        refine ⟨_, rfl, _, rfl, d, c, 5, rfl, dr4, by decide, bnd_le (by decide), fun H5 x1 k5 dr5 a0 a1 => ?_⟩
        have hp35 := k5.kb _ _ n3d hp3
        refine ⟨_, rfl, p3, _, rfl, .inl (SqL.of hp35), by show 3 ≤ sizeLine; decide, fun ps ns => ?_⟩
        have s6 := same_upd (o := .tup [V.str "skip", .int x1, .int ((ws.length : Nat) : Int)]) ns
        refine ⟨by show 1 ≤ sizeLine; decide, fun p1 np1 => ?_⟩
        have s7 := same_upd (o := .lst [V.ref ps]) np1
        have hpc5 := k5.kb _ _ ncd hpc4
        refine ⟨pc, p1, us, [V.ref ps], rfl, rfl, s7 _ _ (s6 _ _ hpc5), upd_same, by rw [List.length_singleton]; exact size64 (by omega), fun p2 np2 => ?_⟩
        have s8 := same_upd (o := .lst (us ++ [V.ref ps])) np2
        refine ⟨_, rfl, p2, p3, _, _, rfl, rfl, upd_same, s8 _ _ (s7 _ _ (s6 _ _ hp35)), by rw [List.length_append, List.length_singleton]; exact size64 (by omega), fun p4 np4 => ?_⟩
        have s9 := same_upd (o := .lst (us ++ [V.ref ps] ++ ws)) np4
        have s58 := (s6.trans s7).trans s8
        have s59 := s58.trans s9
        have hps := s9 _ _ (s8 _ _ (s7 _ _ (upd_same (H := H5) (a := ps) (o := .tup [V.str "skip", .int x1, .int ((ws.length : Nat) : Int)]))))
        have kb5 := kb4.trans k5.kb
        have kb9 := kb5.trans (Same.kb s59)
        have dr9 := dr5.same s59
        obtain ⟨n4d, n4c⟩ := new_ne (dr5.same s58) np4
        have np4H := (kb5.trans (Same.kb s58)).none (dr5.same s58) np4
        have hI9 := (hI4.keep (k5.kb.nl dr4)).keep (Same.nl s59)
        have hI39 := (hI3.keep (k5.kb.nl dr4)).keep (Same.nl s59)
        have hds : Drn m (iIns "skip" [x1, ((ws.length : Nat) : Int)]) := by
          refine iIns_drn (by decide +kernel) (by decide +kernel) (by decide +kernel) ?_ (fun y hy => ?_) fun e => absurd e (by decide +kernel)
          · rw [show fldN "skip" = (["slot", "skipped"] : List Str) by decide +kernel]
            exact ⟨inB_slot (by omega), inB_skipped (by omega), trivial⟩
          · simp only [List.mem_cons, List.not_mem_nil, or_false] at hy
            unfold M6
            rcases hy with rfl | rfl <;> omega
        have hBl := hB3.skip (h := iIns "skip" [x1, ((ws.length : Nat) : Int)]) (by omega) hds rfl (by show ((ws.length : Nat) : Int) = _; rw [hwl])
        refine ⟨p4, _, xs ++ [iIns "skip" [x1, ((ws.length : Nat) : Int)]] ++ ys, _, _, _, _, rfl, kb9, dr9, np4H, n4d, n4c, upd_same, ?_, ?_⟩
        · exact (hI9.app (InsAt.one (x := iIns "skip" [x1, ((ws.length : Nat) : Int)]) ⟨ps, _, rfl, hps, fvs_ints _ [x1, ((ws.length : Nat) : Int)]⟩)).app hI39
        · have := hB.app hBl
          rw [List.append_assoc xs]
          exact this
      rw [decide_eq_false (show ¬ V.int menu = V.int 1 from fun z => cm1 (V.int.inj z))]
      refine iteF ⟨_, rfl, .inl ⟨rfl, _, SqL.of hpc2⟩, _, rfl, _, rfl, d, c, a, m, rfl, dr2, hM2, fun H3 p x k3 dr3 hx hl => ?_⟩
      have hpc3 := k3 _ _ ncd hpc2
      refine ⟨pc, _, _, rfl, rfl, hpc3, small64 (by omega), ?_⟩
      have hn := nl_upd (o := .lst (us ++ [V.ref p])) hpc3
      refine ⟨pc, _, xs ++ [x], _, _, _, _, rfl, fun b o nb e => ?_, dr3.upd _ ncd ncc, npc, ncd, ncc, upd_same, ((hI2.keep (k3.nl dr2)).keep hn).app (InsAt.one (hx.keep hn)), hB.app (Blk.leaf hl)⟩
      rw [upd_ne (ne_of_none e npc)]
      exact (kb2.trans k3) b o nb e
    · rintro σ H1 ⟨pc, us, xs, v5, v6, v7, v8, rfl, kb1, dr1, npc, ncd, ncc, hpc, hI, hB⟩
      rw [Int.toNat_natCast] at hB
      exact ⟨_, rfl, q _ pc us xs kb1 dr1 npc ncd ncc hpc hI hB⟩
end

theorem wds_items (x : Ins) : inW x = (Fv.str x.nm :: x.fs).flatMap Fv.words := by
  rw [List.flatMap_cons]
  rfl
section
variable {P : Program} {w : World} {K : PySem.W.Frag} {mg : Str → Option Value} {base : Heap} {ZT : Addr}
/-! ### _law_line -/
def spLl (K : PySem.W.Frag) : Sp := fun vs H Q _ => ∃ (p : Addr) (x : Ins), vs = [.ref p] ∧ InAt H (.ref p) x ∧ InOk x ∧ (inL x).length ≤ 100000 ∧ ∀ H' y, Same H H' → TL.tl y = inL x ++ [10] → Q (.str y) H'
abbrev nLl : List Str := ["ins", "words", "field", "n"]
theorem scLl : FnScope nLl ["ins"] (defScope s_law_line) := ⟨rfl, rfl, rfl, by decide +kernel, rfl, by decide +kernel, by decide +kernel⟩
theorem ok_ll {f : Addr} {fd : FuncData} (F : Fun K "_law_line" "_law_line" s_law_line f fd) (T : TxtT mg) : FnOk P w K mg base CX0 1 f fd ["ins"] (spLl K) := by
  refine F.ok scLl (fun vs H Q E h => ?_) (fun cdv A outer s H vs Q E hr h => ?_)
  · obtain ⟨_, _, rfl, _⟩ := h
    rfl
  · obtain ⟨p, x, rfl, hx, hok, hlen, q⟩ := h
    obtain ⟨p', vx, e, hp, hv⟩ := hx
    cases e
    refine ⟨_, (pss_cons (ps_set (i := 1) scLl.nd rfl (.inl rfl) (pe_lst pa_nil))
      (pss_cons (ps_for PassesOwn.never rfl (pi_tup (pv 0)) (pg_name (i := 2) scLl.nd rfl (.inl rfl)) (pss_one (ps_if (pt_val (pe_callB call_isi (by rfl) T.isi (by decide +kernel) (pa_cons (pv 2) (pa_cons (pe_bltn (v := .ty "tuple") (by rfl) T.tuple (by decide +kernel) rfl) pa_nil)))) (pss_one (ps_set (i := 1) scLl.nd rfl (.inl rfl) (pe_op op_cat (pe_op op_cat (pv 1) (pe_lst (pa_cons (pe_callTy call_str_int (by rfl) T.str (by decide +kernel) (pa_cons (pe_callB call_len_seq (by rfl) T.len PySem.boot_len (pa_cons (pv 2) pa_nil)) pa_nil)) pa_nil))) (pe_lc (own := [("n", 3)]) (g := (gName 3)) (tt := tYes) (te := (tCB rStrI (tCons (tVar 3) tNil))) rfl scLl.nd (pi_tup (pv 2)) (blkOk_by (N := nLl) (sc := defScope s_law_line) (by decide +kernel)) (fun _ _ _ _ _ => (pg_name (i := 3) scLl.nd rfl (.inl rfl) (hf := Or.inr rfl))) (fun _ _ _ _ _ => pts_nil) (fun _ _ _ _ _ => (pe_callTy call_str_int (by rfl) T.str (by decide +kernel) (pa_cons (pv 3) pa_nil))))))) (pss_one (ps_expr (pe_bm PySem.F.plainAttrs_list PySem.F.slot_list_append PySem.F.type_list_append mt_append (pv 1) (pa_cons (pe_callTy call_strB (by rfl) T.str (by decide +kernel) (pa_cons (pv 2) pa_nil)) pa_nil)))))))
      (pss_one (ps_ret (pe_op op_add_str (pe_join pe_str (pv 1)) pe_str))))), ?_⟩
    have hits : FvsAt H (.str x.nm :: vx) (.str x.nm :: x.fs) := ⟨rfl, hv⟩
    have hwl : lsum (inW x) = (inL x).length + 1 := lsum_join (inW x) (List.cons_ne_nil _ _)
    have hwb : (inW x).length ≤ 100001 := by have := lsum_len (inW x); omega
    have hWI := wds_items x
    have hbdI : ∀ d ∈ Fv.str x.nm :: x.fs, (∃ z, d = .str z) ∨ d.bd := fun d hd => by
      rcases List.mem_cons.mp hd with rfl | hd
      · exact .inl ⟨_, rfl⟩
      · exact .inr (hok.bd d hd)
    have hnv : (V.str x.nm :: vx).length = (Fv.str x.nm :: x.fs).length := hits.len
    generalize V.str x.nm :: vx = vi at hits hp hnv
    generalize Fv.str x.nm :: x.fs = di at hits hWI hbdI hnv
    refine ⟨Nat.zero_le _, fun p0 np0 => ?_⟩
    have s0 := same_upd (o := .lst []) np0
    have hW0 : WL (upd H p0 (.lst [])) p0 ((di.take 0).flatMap Fv.words) := ⟨[], upd_same, rfl⟩
    generalize upd H p0 (.lst []) = H0 at s0 hW0
    refine ⟨_, rfl, p, rfl, ⟨_, sqT_same (SqT.of hp) s0⟩, for_tup (K := K) (a := p) (xs := vi) (fun i σ H' => ∃ (pw : Addr) (v2 v3 : Option V), σ = [some (.ref p), some (.ref pw), v2, v3] ∧ Same H H' ∧ H pw = none ∧ WL H' pw ((di.take i).flatMap Fv.words))
      ⟨p0, _, _, rfl, s0, np0, hW0⟩ (fun i σ H' _ ⟨_, _, _, _, sm, _⟩ => sqT_same (SqT.of hp) sm) ?_ ?_⟩
    · rintro i v σ H3 hi ⟨pw, v2, v3, rfl, sm, npw0, hWl⟩
      have hiv : i < di.length := by rw [← hnv]; exact (List.getElem?_eq_some_iff.mp hi).1
      have hd : di[i]? = some di[i] := List.getElem?_eq_getElem hiv
      generalize di[i] = d at hd
      have hdv := (hits.keep (Same.nl sm)).at hi hd
      have hbd := hbdI d (List.mem_of_getElem? hd)
      have hcount : ((di.take i).flatMap Fv.words).length + d.words.length ≤ 100001 := by
        have e : inW x = (di.take i).flatMap Fv.words ++ (d.words ++ (di.drop (i + 1)).flatMap Fv.words) := by
          rw [hWI]
          conv => lhs; rw [← List.take_append_drop i di, drop_at hd]
          rw [List.flatMap_append, List.flatMap_cons]
        rw [e, List.length_append, List.length_append] at hwb
        omega
      have hnext : (di.take (i + 1)).flatMap Fv.words = (di.take i).flatMap Fv.words ++ d.words := by
        rw [take_snoc hd, List.flatMap_append, List.flatMap_cons, List.flatMap_nil, List.append_nil]
      have npw : ∀ b o, H b = some o → b ≠ pw := fun b o e => ne_of_none e npw0
      cases d with
      | str y =>
        have hdv : v = .str y := hdv
        subst hdv
        obtain ⟨ys, hD, hyl, hW'⟩ := hWl.app (z := y)
        refine ⟨_, rfl, _, _, _, _, false, rfl, ClsV.ty "tuple", TyX.base (TyOf.str y), kit_ty (by decide +kernel), _, rfl, iteF ?_⟩
        refine ⟨_, rfl, .inl ⟨rfl, _, SqL.of hD⟩, _, rfl, .inr ⟨y, rfl, pw, _, _, rfl, rfl, hD, by rw [List.length_map, hyl]; exact small64 (by omega), ?_⟩⟩
        refine ⟨pw, _, _, rfl, fun b o e => by rw [upd_ne (npw b o e)]; exact sm _ _ e, npw0, ?_⟩
        rw [hnext]
        exact hW'
      | int n =>
        have hdv : v = .int n := hdv
        subst hdv
        have hbn : n.natAbs < 10 ^ 90 := by
          rcases hbd with ⟨z, e⟩ | h
          · cases e
          · exact h
        obtain ⟨ys, hD, hyl, hW'⟩ := hWl.app (z := ((toString n : String) : Str))
        rw [str_txt] at hW'
        refine ⟨_, rfl, _, _, _, _, false, rfl, ClsV.ty "tuple", TyX.base (TyOf.int n), kit_ty (by decide +kernel), _, rfl, iteF ?_⟩
        refine ⟨_, rfl, .inl ⟨rfl, _, SqL.of hD⟩, _, rfl, .inl ⟨n, rfl, log90 hbn, pw, _, _, rfl, rfl, hD, by rw [List.length_map, hyl]; exact small64 (by omega), ?_⟩⟩
        refine ⟨pw, _, _, rfl, fun b o e => by rw [upd_ne (npw b o e)]; exact sm _ _ e, npw0, ?_⟩
        rw [hnext]
        exact hW'
      | tup ns =>
        obtain ⟨a, rfl, ha⟩ := hdv
        have hwl1 : (Fv.tup ns).words.length = ns.length + 1 := by
          show (txt _ :: ns.map txt).length = _
          rw [List.length_cons, List.length_map]
        have hbn : ∀ n ∈ ns, n.natAbs < 10 ^ 90 := by
          rcases hbd with ⟨z, e⟩ | h
          · cases e
          · exact h.1
        obtain ⟨ys, hD, hys⟩ := hWl
        have hyl : ys.length = ((di.take i).flatMap Fv.words).length := by rw [← hys, List.length_map]
        refine ⟨_, rfl, _, _, _, _, true, rfl, ClsV.ty "tuple", TyX.base (TyOf.tup ha), kit_ty (by decide +kernel), _, rfl, iteT ?_⟩
        refine ⟨_, rfl, _, rfl, a, _, rfl, .inr (SqT.of ha), _, rfl, ?_, by show 1 ≤ sizeLine; decide, fun p1 np1 => ?_⟩
        · rw [List.length_map]
          exact log90 (by have : (1500001 : Nat) < 10 ^ 90 := by decide +kernel
                          omega)
        rw [List.length_map]
        have s1 := same_upd (o := .lst [V.str ((toString ((ns.length : Nat) : Int) : String) : Str)]) np1
        have hp1 : (upd H3 p1 (.lst [V.str ((toString ((ns.length : Nat) : Int) : String) : Str)])) p1 = some (.lst [V.str ((toString ((ns.length : Nat) : Int) : String) : Str)]) := upd_same
        have hD1 := s1 _ _ hD
        have ha1 := s1 _ _ ha
        have sm1 := sm.trans s1
        generalize upd H3 p1 (.lst [V.str ((toString ((ns.length : Nat) : Int) : String) : Str)]) = H4 at s1 hp1 hD1 ha1 sm1
        refine ⟨pw, p1, _, _, rfl, rfl, hD1, hp1, by rw [List.length_map, List.length_singleton]; exact size64 (by omega), fun p2 np2 => ?_⟩
        have s2 := same_upd (o := .lst (ys.map V.str ++ [V.str ((toString ((ns.length : Nat) : Int) : String) : Str)])) np2
        have hp2 : (upd H4 p2 (.lst (ys.map V.str ++ [V.str ((toString ((ns.length : Nat) : Int) : String) : Str)]))) p2 = some (.lst ((ys ++ [((toString ((ns.length : Nat) : Int) : String) : Str)]).map V.str)) := by rw [upd_same, List.map_append]; rfl
        have ha2 := s2 _ _ ha1
        have sm2 := sm1.trans s2
        generalize upd H4 p2 (.lst (ys.map V.str ++ [V.str ((toString ((ns.length : Nat) : Int) : String) : Str)])) = H5 at s2 hp2 ha2 sm2
        refine ⟨_, rfl, a, rfl, ⟨_, SqT.of ha2⟩, fun D nD => lc_tup (K := K) (a := a) (xs := ns.map V.int) (fun j H6 => Same H5 H6 ∧ WL H6 D ((ns.take j).map txt)) ⟨same_upd nD, [], upd_same, rfl⟩ (fun j H6 _ h => sqT_same (SqT.of ha2) h.1) ?_ ?_⟩
        · rintro j y H6 hy ⟨sm6, hWj⟩
          obtain ⟨n, rfl, hn⟩ := map_int_at hy
          have hj : j < ns.length := (List.getElem?_eq_some_iff.mp hn).1
          obtain ⟨ts, hDj, htl, hW2⟩ := hWj.app (z := ((toString n : String) : Str))
          rw [List.length_map, List.length_take] at htl
          refine ⟨rfl, tYes_go ⟨_, rfl, n, rfl, log90 (hbn n (List.mem_of_getElem? hn)), _, hDj, by rw [List.length_map, htl]; exact small64 (by omega), ?_, ?_⟩⟩
          · exact fun b o e => by rw [upd_ne (ne_of_none e nD)]; exact sm6 _ _ e
          · rw [take_snoc hn, List.map_append]
            rw [str_txt] at hW2
            exact hW2
        · rintro H6 ⟨sm6, ts, hDj, hts⟩
          rw [List.length_map, List.take_length] at hts
          have htl : ts.length = ns.length := by rw [← List.length_map (f := TL.tl), hts, List.length_map]
          refine ⟨p2, D, _, _, rfl, rfl, sm6 _ _ hp2, hDj, by rw [List.length_map, List.length_map, List.length_append, List.length_singleton]; exact size64 (by omega), fun p3 np3 => ?_⟩
          have s3 := same_upd (o := .lst ((ys ++ [((toString ((ns.length : Nat) : Int) : String) : Str)]).map V.str ++ ts.map V.str)) np3
          have sm36 := sm2.trans sm6
          have np3H : H p3 = none := by
            cases e : H p3 with
            | none => rfl
            | some o => rw [sm36 _ _ e] at np3; cases np3
          refine ⟨p3, _, _, rfl, sm36.trans s3, np3H, ys ++ [((toString ((ns.length : Nat) : Int) : String) : Str)] ++ ts, by rw [upd_same]; simp only [List.map_append], ?_⟩
          rw [List.map_append, List.map_append, hys, hts, hnext, List.append_assoc]
          show _ ++ (TL.tl ((toString ((ns.length : Nat) : Int) : String) : Str) :: ns.map txt) = _
          rw [str_txt]
          rfl
    · rintro σ H3 ⟨pw, v2, v3, rfl, sm, npw0, ys, hD, hys⟩
      rw [hnv, List.take_length, ← hWI] at hys
      have hls := lsum_strs ys
      rw [hys, hwl] at hls
      have hj : TL.tl (Txt.join " " ys) = inL x := by rw [join_tl, hys]; rfl
      have hjl := TL.len_tl (Txt.join " " ys)
      rw [hj] at hjl
      refine ⟨⟨_, rfl⟩, _, rfl, " ", pw, ys, rfl, rfl, .inl (SqL.of hD), size64 (by show _ + ys.length * 1 ≤ _; omega), _, _, rfl, rfl, size64 (by show _ + 1 ≤ _; omega), q _ _ sm ?_⟩
      rw [TL.tl_append, hj]
      rfl
/-! ### _law_told -/
structure Er47 (K : PySem.W.Frag) (mg : Str → Option Value) (C : Nat → Addr) (ZT TE : Addr) : Prop where
  nT : ErrN K mg "TensorError" TE
  isi : mg "isinstance" = none
  gT : mg "TextError" = some (.ref ZT)
  sT : PySem.W.subIn K (.ref ZT) (.ref TE) = some true
  eT : ExcC K ZT
  kT : PySem.W.kitOne K (.ref ZT) (.ref ZT) = some true
  s3 : PySem.W.subIn K (.ref (C 3)) (.ref TE) = some true
  s4 : PySem.W.subIn K (.ref (C 4)) (.ref TE) = some true
  s6 : PySem.W.subIn K (.ref (C 6)) (.ref TE) = some true
  e3 : ExcC K (C 3)
  e4 : ExcC K (C 4)
  e6 : ExcC K (C 6)
  k3 : PySem.W.kitOne K (.ref (C 3)) (.ref ZT) = some false
  k4 : PySem.W.kitOne K (.ref (C 4)) (.ref ZT) = some false
  k6 : PySem.W.kitOne K (.ref (C 6)) (.ref ZT) = some false
def spTo (K : PySem.W.Frag) : Sp := fun vs H Q _ => ∃ (pm : Addr) (m : Mch) (ms : List Int) (z : Str), vs = [.ref pm, .str z] ∧ SqT K H pm (ms.map V.int) ∧ MOk m ms ∧ z.length ≤ 1500000 ∧
  ∀ H', Same H H' → (rdC (TL.tl z) = none → Q (.str "text") H') ∧ ∀ xs, rdC (TL.tl z) = some xs → (¬ okC m xs → Q (.str "other") H') ∧ (okC m xs → ∀ p, CodeAt K H' p xs → Q (.ref p) H')
abbrev nTo : List Str := ["machine", "text", "code", "e"]
theorem scTo : FnScope nTo ["machine", "text"] (defScope s_law_told) := ⟨rfl, rfl, rfl, by decide +kernel, rfl, by decide +kernel, by decide +kernel⟩
theorem ok_to {C : Nat → Addr} {f TE : Addr} {fd : FuncData} (F : Fun K "_law_told" "_law_told" s_law_told f fd) (T : Er47 K mg C ZT TE) (cRC : Calls P w K mg base (L2.CX P w) 6 "read_code" ["machine", "text"] (spRC K C ZT)) : FnOk P w K mg base CX0 7 f fd ["machine", "text"] (spTo K) := by
  obtain ⟨fRC, dRC, GRC, kRC, bRC, gRC⟩ := cRC.ex
  refine F.ok scTo (fun vs H Q E h => ?_) (fun cdv A outer s H vs Q E hr6 h => ?_)
  · obtain ⟨_, _, _, _, rfl, _⟩ := h
    rfl
  · obtain ⟨pm, m, ms, z, rfl, hpm, hm, hz, q⟩ := h
    refine ⟨_, pss_cons (ps_try_as (i := 3) (tb := fun W => tAsg (tCallS (spRC K C ZT) (WE W) (tCons (tVar 0) (tCons (tVar 1) tNil))) (gName 2)) (Wout := fun _ _ _ _ => False) rfl rfl scTo.nd rfl rfl ⟨rfl, by decide, Or.inl T.nT.g⟩ takes0
        (fun W pn xe tk _ => pss_one (ps_set (i := 2) scTo.nd rfl (.inl rfl) (by exact (pe_callS GRC hr6 (by rfl) gRC kRC bRC (fun σ => passAt tk σ) (by exact (pa_cons (pv 0) (pa_cons (pv 1) pa_nil)))))))
        (fun a oe cls d pn hz hf => su_ok hz hf))
      (pss_one (ps_ret (pv 2))), ?_⟩
    refine ⟨_, rfl, _, rfl, pm, m, ms, z, rfl, hpm, hm, hz, fun H1 sm => ⟨fun hno => ?_, fun xs hrd => ⟨fun hb => ?_, fun ho p hc => ?_⟩⟩⟩
    · have q1 := (q _ sm).1 hno
      refine ⟨true, T.nT.ex T.sT, fun _ ax hax => fun oe pn hz hf => ?_, fun z => nomatch z⟩
      have EX := T.eT
      refine ⟨_, (pss_one (ps_ret (pe_ifExp (pt_val (pe_callB (call_isE EX hz hf) (by rfl) T.isi (by decide +kernel) (pa_cons (pv 3) (pa_cons (pe_glob (v := .ref ZT) (by rfl) T.gT rfl) pa_nil)))) pe_str pe_str))), ?_⟩
      exact ⟨_, rfl, _, _, _, rfl, fun _ h => h, T.kT, _, rfl, iteT q1⟩
    · have q1 := ((q _ sm).2 xs hrd).1 hb
      refine ⟨?_, ?_, ?_⟩
      · refine ⟨true, T.nT.ex T.s3, fun _ ax hax => fun oe pn hz hf => ?_, fun z => nomatch z⟩
        have EX := T.e3
        refine ⟨_, (pss_one (ps_ret (pe_ifExp (pt_val (pe_callB (call_isE EX hz hf) (by rfl) T.isi (by decide +kernel) (pa_cons (pv 3) (pa_cons (pe_glob (v := .ref ZT) (by rfl) T.gT rfl) pa_nil)))) pe_str pe_str))), ?_⟩
        exact ⟨_, rfl, _, _, _, rfl, fun _ h => h, T.k3, _, rfl, iteF q1⟩
      · refine ⟨true, T.nT.ex T.s4, fun _ ax hax => fun oe pn hz hf => ?_, fun z => nomatch z⟩
        have EX := T.e4
        refine ⟨_, (pss_one (ps_ret (pe_ifExp (pt_val (pe_callB (call_isE EX hz hf) (by rfl) T.isi (by decide +kernel) (pa_cons (pv 3) (pa_cons (pe_glob (v := .ref ZT) (by rfl) T.gT rfl) pa_nil)))) pe_str pe_str))), ?_⟩
        exact ⟨_, rfl, _, _, _, rfl, fun _ h => h, T.k4, _, rfl, iteF q1⟩
      · refine ⟨true, T.nT.ex T.s6, fun _ ax hax => fun oe pn hz hf => ?_, fun z => nomatch z⟩
        have EX := T.e6
        refine ⟨_, (pss_one (ps_ret (pe_ifExp (pt_val (pe_callB (call_isE EX hz hf) (by rfl) T.isi (by decide +kernel) (pa_cons (pv 3) (pa_cons (pe_glob (v := .ref ZT) (by rfl) T.gT rfl) pa_nil)))) pe_str pe_str))), ?_⟩
        exact ⟨_, rfl, _, _, _, rfl, fun _ h => h, T.k6, _, rfl, iteF q1⟩
    · exact ⟨_, rfl, ((q _ sm).2 xs hrd).2 ho p hc⟩
end
theorem catI {x y : V} {H : Hp} {Q1 Q2 : VK} (h : rCat x y H Q1) (k : ∀ u H', Q1 u H' → Q2 u H') : rCat x y H Q2 := by
  obtain ⟨l, b, xs, zs, e1, e2, h1, h2, sz, q⟩ := h
  exact ⟨l, b, xs, zs, e1, e2, h1, h2, sz, fun p np => k _ _ (q p np)⟩

section
variable {P : Program} {w : World} {K : PySem.W.Frag} {mg : Str → Option Value} {base : Heap}
/-! ### _law_bent -/
def spBe : Sp := fun vs H Q _ => ∃ (d c : Addr) (z : Str), vs = [.ref d, .str z] ∧ DrAt H d c ∧ z.length ≤ 700000 ∧ ∀ H' y, Kb d H H' → DrAt H' d c → y.length ≤ 1500000 → Q (.str y) H'
abbrev nBe : List Str := ["d", "text", "menu", "lines", "here", "place", "sign", "words", "spot"]
theorem scBe : FnScope nBe ["d", "text"] (defScope s_law_bent) := ⟨rfl, rfl, rfl, by decide +kernel, rfl, by decide +kernel, by decide +kernel⟩
theorem ok_bent {f : Addr} {fd : FuncData} (F : Fun K "_law_bent" "_law_bent" s_law_bent f fd) (T : TxtT mg) (cT : Calls P w K mg base CX0 1 "_law_take" ["d", "many"] spTake) : FnOk P w K mg base CX0 2 f fd ["d", "text"] spBe := by
  obtain ⟨fT, dT, GT, kT, bT, gT⟩ := cT.ex
  refine F.ok scBe (fun vs H Q E h => ?_) (fun cdv A outer s H vs Q E hr1 h => ?_)
  · obtain ⟨_, _, _, rfl, _⟩ := h
    rfl
  · obtain ⟨d, c, z, rfl, dr, hlen, q⟩ := h
    refine ⟨_, (pss_cons (ps_set (i := 2) scBe.nd rfl (.inl rfl) (pe_call GT hr1 (by rfl) gT kT bT .nil pass0 (pa_cons (pv 0) (pa_cons pe_int pa_nil))))
      (pss_cons (ps_set (i := 3) scBe.nd rfl (.inl rfl) (pe_split (pv 1) pe_str))
      (pss_cons (ps_set (i := 4) scBe.nd rfl (.inl rfl) (pe_call GT hr1 (by rfl) gT kT bT .nil pass0 (pa_cons (pv 0) (pa_cons (pe_callB call_len_seq (by rfl) T.len PySem.boot_len (pa_cons (pv 3) pa_nil)) pa_nil))))
      (pss_cons (ps_set (i := 5) scBe.nd rfl (.inl rfl) (pe_call GT hr1 (by rfl) gT kT bT .nil pass0 (pa_cons (pv 0) (pa_cons (pe_op op_add (pe_callB call_len_str (by rfl) T.len PySem.boot_len (pa_cons (pv 1) pa_nil)) pe_int) pa_nil))))
      (pss_cons (ps_set (i := 6) scBe.nd rfl (.inl rfl) (pe_ix ix_str pe_str (pe_call GT hr1 (by rfl) gT kT bT .nil pass0 (pa_cons (pv 0) (pa_cons pe_int pa_nil))) (fun _ _ => rfl)))
      (pss_cons (ps_if (pt_cmpR op_lt (pv 2) pe_int (nomark _)) (pss_one (ps_ret (pe_op op_add_str (pe_op op_add_str (pe_slice sl_str (pv 1) po_none (po_some (pv 5))) (pv 6)) (pe_slice sl_str (pv 1) (po_some (pe_op op_add (pv 5) pe_int)) po_none)))) pss_nil)
      (pss_cons (ps_if (pt_cmpR op_eq (pv 2) pe_int (nomark _)) (pss_one (ps_ret (pe_op op_add_str (pe_op op_add_str (pe_slice sl_str (pv 1) po_none (po_some (pv 5))) (pv 6)) (pe_slice sl_str (pv 1) (po_some (pv 5)) po_none)))) pss_nil)
      (pss_cons (ps_if (pt_cmpR op_eq (pv 2) pe_int (nomark _)) (pss_one (ps_ret (pe_op op_add_str (pe_slice sl_str (pv 1) po_none (po_some (pv 5))) (pe_slice sl_str (pv 1) (po_some (pe_op op_add (pv 5) pe_int)) po_none)))) pss_nil)
      (pss_cons (ps_if (pt_cmpR op_eq (pv 2) pe_int (nomark _)) (pss_one (ps_ret (pe_join pe_str (pe_op op_cat (pe_slice sl_list (pv 3) po_none (po_some (pv 4))) (pe_slice sl_list (pv 3) (po_some (pe_op op_add (pv 4) pe_int)) po_none))))) pss_nil)
      (pss_cons (ps_if (pt_cmpR op_eq (pv 2) pe_int (nomark _)) (pss_one (ps_ret (pe_join pe_str (pe_op op_cat (pe_slice sl_list (pv 3) po_none (po_some (pe_op op_add (pv 4) pe_int))) (pe_slice sl_list (pv 3) (po_some (pv 4)) po_none))))) pss_nil)
      (pss_cons (ps_set (i := 7) scBe.nd rfl (.inl rfl) (pe_split (pe_ix ix_list (pv 3) (pv 4) (fun _ _ => rfl)) pe_str))
      (pss_cons (ps_set (i := 8) scBe.nd rfl (.inl rfl) (pe_call GT hr1 (by rfl) gT kT bT .nil pass0 (pa_cons (pv 0) (pa_cons (pe_callB call_len_seq (by rfl) T.len PySem.boot_len (pa_cons (pv 7) pa_nil)) pa_nil))))
      (pss_one (ps_ret (pe_join pe_str (pe_op op_cat (pe_op op_cat (pe_slice sl_list (pv 3) po_none (po_some (pv 4))) (pe_lst (pa_cons (pe_join pe_str (pe_op op_cat (pe_slice sl_list (pv 7) po_none (po_some (pe_op op_add (pv 8) pe_int))) (pe_slice sl_list (pv 7) (po_some (pv 8)) po_none))) pa_nil))) (pe_slice sl_list (pv 3) (po_some (pe_op op_add (pv 4) pe_int)) po_none))))))))))))))))), ?_⟩
    have hzl := TL.len_tl z
    have bnd : ∀ m : Nat, m ≤ 1000000 → Bnd (m : Int) := fun m h => by
      have h2 : (1000000 : Int) < 2 ^ 400 := by decide +kernel
      unfold Bnd
      omega
    refine ⟨_, rfl, d, c, 7, rfl, dr, by decide, bnd 7 (by decide), fun H1 menu b1 dr1 m0 m1 => ?_⟩
    have kb1 := b1.kb
    refine ⟨_, rfl, ⟨_, rfl⟩, z, "\n", rfl, rfl, by decide, size64 (by omega), fun pl nl => ?_⟩
    have hL := split10 z
    have hSl := lsum_strs (Txt.split z "\n")
    rw [hL, lsum_j10 _ (by obtain ⟨a, b, e⟩ := prt_cons (s := 10) (TL.tl z); rw [e]; exact List.cons_ne_nil _ _), prt_join, ← hzl] at hSl
    have s2 := same_upd (o := .lst ((Txt.split z "\n").map V.str)) nl
    have hpl : (upd H1 pl (.lst ((Txt.split z "\n").map V.str))) pl = some (.lst ((Txt.split z "\n").map V.str)) := upd_same
    generalize Txt.split z "\n" = ys at hL hSl hpl s2
    generalize upd H1 pl (.lst (ys.map V.str)) = H2 at hpl s2
    obtain ⟨y0, yr, hys⟩ : ∃ y0 yr, ys = y0 :: yr := by
      cases ys with
      | nil =>
        obtain ⟨a, b, e⟩ := prt_cons (s := 10) (TL.tl z)
        rw [e] at hL
        cases hL
      | cons a b => exact ⟨a, b, rfl⟩
    have hyl1 : 0 < ys.length := by rw [hys, List.length_cons]; omega
    have dr2 := dr1.same s2
    have kb2 := kb1.trans (Same.kb s2)
    obtain ⟨hpd, _⟩ := new_ne dr1 nl
    refine ⟨_, rfl, _, rfl, pl, _, rfl, .inl (SqL.of hpl), d, c, _, rfl, dr2, by rw [List.length_map]; omega, by rw [List.length_map]; exact bnd _ (by omega), fun H3 here b3 dr3 h0 h1 => ?_⟩
    rw [List.length_map] at h1
    have kb3 := kb2.trans b3.kb
    refine ⟨_, rfl, _, rfl, z, rfl, size64 (by omega), _, _, rfl, rfl, d, c, _, rfl, dr3, by omega, by have := bnd (z.length + 1) (by omega); rw [Int.natCast_add] at this; exact this, fun H4 place b4 dr4 p0 p1 => ?_⟩
    have kb4 := kb3.trans b4.kb
    refine ⟨_, rfl, d, c, 16, rfl, dr4, by decide, bnd 16 (by decide), fun H5 sg b5 dr5 g0 g1 => ?_⟩
    have kb5 := kb4.trans b5.kb
    have hpl5 : H5 pl = some (.lst (ys.map V.str)) := (b5.kb _ _ hpd (b4.kb _ _ hpd (b3.kb _ _ hpd hpl)))
    obtain ⟨hn, rfl⟩ : ∃ hn : Nat, here = (hn : Int) := ⟨here.toNat, by omega⟩
    obtain ⟨pn, rfl⟩ : ∃ pn : Nat, place = (pn : Int) := ⟨place.toNat, by omega⟩
    obtain ⟨gn, rfl⟩ : ∃ gn : Nat, sg = (gn : Int) := ⟨sg.toNat, by omega⟩
    have hcl : (TL.tl ("0123456789- \nadl" : Str)).length = 16 := by decide +kernel
    obtain ⟨x, hx⟩ : ∃ x, (TL.tl ("0123456789- \nadl" : Str))[gn]? = some x := ⟨_, List.getElem?_eq_getElem (by omega)⟩
    refine ⟨_, _, x, rfl, rfl, by decide +kernel, atI_nat (j := gn) hx, ?_⟩
    have ht1 : TL.tl (cutS z none (some (pn : Int))) = (TL.tl z).take pn := cutS_to z pn
    have ht2 : TL.tl (cutS z (some ((pn : Int) + 1)) none) = (TL.tl z).drop (pn + 1) := cutS_from z (pn + 1)
    have ht3 : TL.tl (cutS z (some (pn : Int)) none) = (TL.tl z).drop pn := cutS_from z pn
    have hl1 : (cutS z none (some (pn : Int))).length ≤ 700000 := by
      rw [TL.len_tl, ht1, List.length_take]
      omega
    have hl2 : (cutS z (some ((pn : Int) + 1)) none).length ≤ 700000 := by
      rw [TL.len_tl, ht2, List.length_drop]
      omega
    have hl3 : (cutS z (some (pn : Int)) none).length ≤ 700000 := by
      rw [TL.len_tl, ht3, List.length_drop]
      omega
    have hls : lsum (ys.map TL.tl) ≤ 700001 := by
      rw [← lsum_strs, hSl]
      omega
    have fin : ∀ {H'} (us : List Str), Kb d H H' → DrAt H' d c → lsum (us.map TL.tl) ≤ 1500001 → Q (.str (Txt.join "\n" us)) H' := fun {H'} us kb dr h2 => q _ _ kb dr (by
      rw [TL.len_tl, join_tl]
      show (TL.joinL [10] (us.map TL.tl)).length ≤ _
      cases hu : us.map TL.tl with
      | nil => exact Nat.zero_le _
      | cons a r =>
        have h3 := lsum_j10 (a :: r) (List.cons_ne_nil _ _)
        rw [hu] at h2
        omega)
    have jsz : ∀ us : List Str, lsum (us.map TL.tl) ≤ 1500001 → (us.map (·.length)).sum + us.length * ("\n" : Str).length ≤ sizeLine := fun us h => by
      have := lsum_strs us
      exact size64 (by show _ + us.length * 1 ≤ _; omega)
    have hyll := lsum_len (ys.map TL.tl)
    rw [List.length_map] at hyll
    dsimp only [tNoPart]
    refine ⟨_, rfl, _, _, rfl, rfl, _, rfl, ite2 (fun _ => ?_) (fun _ => ?_)⟩
    · refine ⟨_, rfl, _, rfl, _, rfl, z, rfl, size64 (by omega), _, rfl, _, _, rfl, rfl, size64 (Nat.le_trans (Nat.add_le_add_right hl1 1) (by decide)), _, rfl, _, rfl, _, _, rfl, rfl, _, rfl, z, rfl, size64 (by omega), _, _, rfl, rfl, size64 ?_, q _ _ kb5 dr5 ?_⟩
      · rw [PySem.Str.length_append]
        exact Nat.le_trans (Nat.add_le_add (Nat.add_le_add_right hl1 1) hl2) (by decide)
      · rw [PySem.Str.length_append, PySem.Str.length_append]
        exact Nat.le_trans (Nat.add_le_add (Nat.add_le_add_right hl1 1) hl2) (by decide)
    refine ⟨_, rfl, rfl, _, rfl, ite2 (fun _ => ?_) (fun _ => ?_)⟩
    · refine ⟨_, rfl, _, rfl, _, rfl, z, rfl, size64 (by omega), _, rfl, _, _, rfl, rfl, size64 (Nat.le_trans (Nat.add_le_add_right hl1 1) (by decide)), _, rfl, _, rfl, _, rfl, z, rfl, size64 (by omega), _, _, rfl, rfl, size64 ?_, q _ _ kb5 dr5 ?_⟩
      · rw [PySem.Str.length_append]
        exact Nat.le_trans (Nat.add_le_add (Nat.add_le_add_right hl1 1) hl3) (by decide)
      · rw [PySem.Str.length_append, PySem.Str.length_append]
        exact Nat.le_trans (Nat.add_le_add (Nat.add_le_add_right hl1 1) hl3) (by decide)
    refine ⟨_, rfl, rfl, _, rfl, ite2 (fun _ => ?_) (fun _ => ?_)⟩
    · refine ⟨_, rfl, _, rfl, _, rfl, z, rfl, size64 (by omega), _, rfl, _, rfl, _, _, rfl, rfl, _, rfl, z, rfl, size64 (by omega), _, _, rfl, rfl, size64 (Nat.le_trans (Nat.add_le_add hl1 hl2) (by decide)), q _ _ kb5 dr5 ?_⟩
      rw [PySem.Str.length_append]
      exact Nat.le_trans (Nat.add_le_add hl1 hl2) (by decide)
    have cat : ∀ {H0 : Hp} (i j : List Str), Kb d H H0 → DrAt H0 d c → i.length ≤ ys.length → j.length ≤ ys.length → lsum (i.map TL.tl) ≤ 700001 → lsum (j.map TL.tl) ≤ 700001 → ∀ (p1 p2 : Addr), H0 p1 = some (.lst (i.map V.str)) → H0 p2 = some (.lst (j.map V.str)) → rCat (.ref p1) (.ref p2) H0 fun x H1 => ∃ us : List Str, ∃ p : Addr, x = .ref p ∧ H1 p = some (.lst (us.map V.str)) ∧ (us.map (·.length)).sum + us.length * ("\n" : Str).length ≤ sizeLine ∧ Q (.str (Txt.join "\n" us)) H1 := fun {H0} i j kb dr li lj ni nj p1 p2 h1 h2 => by
      refine ⟨p1, p2, _, _, rfl, rfl, h1, h2, by rw [List.length_map, List.length_map]; exact size64 (by omega), fun p3 n3 => ⟨i ++ j, p3, rfl, by rw [upd_same, List.map_append], jsz _ ?_, fin _ (kb.trans (Same.kb (same_upd n3))) (dr.same (same_upd n3)) ?_⟩⟩
      · rw [List.map_append, lsum_app]
        omega
      · rw [List.map_append, lsum_app]
        omega
    have two : ∀ (i j : Nat) (p1 p2 : Addr) (n1 : H5 p1 = none) (n2 : (upd H5 p1 (.lst ((ys.take i).map V.str))) p2 = none), rCat (.ref p1) (.ref p2) (upd (upd H5 p1 (.lst ((ys.take i).map V.str))) p2 (.lst ((ys.drop j).map V.str))) fun x H1 => ∃ us : List Str, ∃ p : Addr, x = .ref p ∧ H1 p = some (.lst (us.map V.str)) ∧ (us.map (·.length)).sum + us.length * ("\n" : Str).length ≤ sizeLine ∧ Q (.str (Txt.join "\n" us)) H1 := fun i j p1 p2 n1 n2 => by
      have s1 := same_upd (o := .lst ((ys.take i).map V.str)) n1
      have s2 := same_upd (o := .lst ((ys.drop j).map V.str)) n2
      refine cat _ _ (kb5.trans (Same.kb (s1.trans s2))) (dr5.same (s1.trans s2)) (by rw [List.length_take]; omega) (by rw [List.length_drop]; omega) ?_ ?_ p1 p2 (s2 _ _ upd_same) upd_same
      · rw [List.map_take]; exact Nat.le_trans (lsum_take _ _) hls
      · rw [List.map_drop]; exact Nat.le_trans (lsum_drop _ _) hls
    refine ⟨_, rfl, rfl, _, rfl, ite2 (fun _ => ?_) (fun _ => ?_)⟩
    · refine ⟨⟨_, rfl⟩, _, rfl, _, rfl, _, rfl, pl, _, rfl, SqL.of hpl5, fun p1 n1 => ?_⟩
      rw [cutV_strTo]
      refine ⟨_, rfl, _, rfl, _, _, rfl, rfl, _, rfl, pl, _, rfl, SqL.of ((same_upd n1) _ _ hpl5), fun p2 n2 => ?_⟩
      rw [show cutV (ys.map V.str) (some ((hn : Int) + 1)) none = (ys.drop (hn + 1)).map V.str from cutV_strFrom ys (hn + 1)]
      exact catI (two hn (hn + 1) p1 p2 n1 n2) fun x H1 ⟨us, p, e, h1, h2, h3⟩ => by subst e; exact ⟨"\n", p, us, rfl, rfl, .inl (SqL.of h1), h2, h3⟩
    refine ⟨_, rfl, rfl, _, rfl, ite2 (fun _ => ?_) (fun _ => ?_)⟩
    · refine ⟨⟨_, rfl⟩, _, rfl, _, rfl, _, _, rfl, rfl, _, rfl, pl, _, rfl, SqL.of hpl5, fun p1 n1 => ?_⟩
      rw [show cutV (ys.map V.str) none (some ((hn : Int) + 1)) = (ys.take (hn + 1)).map V.str from cutV_strTo ys (hn + 1)]
      refine ⟨_, rfl, _, rfl, _, rfl, pl, _, rfl, SqL.of ((same_upd n1) _ _ hpl5), fun p2 n2 => ?_⟩
      rw [cutV_strFrom]
      exact catI (two (hn + 1) hn p1 p2 n1 n2) fun x H1 ⟨us, p, e, h1, h2, h3⟩ => by subst e; exact ⟨"\n", p, us, rfl, rfl, .inl (SqL.of h1), h2, h3⟩
    obtain ⟨y, hy⟩ : ∃ y, ys[hn]? = some y := ⟨_, List.getElem?_eq_getElem (by omega)⟩
    have hyt : (ys.map TL.tl)[hn]? = some (TL.tl y) := by rw [List.getElem?_map, hy]; rfl
    have hyz : y.length ≤ 700000 := by
      have := mem_sumL (l := ys.map (·.length)) (n := y.length) (List.mem_map.mpr ⟨y, List.mem_of_getElem? hy, rfl⟩)
      omega
    have hsum : lsum ((ys.map TL.tl).take hn) + ((TL.tl y).length + 1 + lsum ((ys.map TL.tl).drop (hn + 1))) ≤ 700001 := by
      refine Nat.le_trans (Nat.le_of_eq ?_) hls
      conv => rhs; rw [← List.take_append_drop hn (ys.map TL.tl), drop_at hyt, lsum_app]
      rfl
    refine ⟨_, rfl, _, rfl, pl, _, _, _, rfl, rfl, SqL.of hpl5, atI_nat (j := hn) (by rw [List.getElem?_map, hy]; rfl), ⟨_, rfl⟩, y, " ", rfl, rfl, by decide, size64 (by omega), fun pw nw => ?_⟩
    have hyW := split_wds y
    have hyS := lsum_strs (Txt.split y " ")
    rw [hyW, prt_wds, lsum_join _ (by obtain ⟨a, b, e⟩ := prt_cons (s := 32) (TL.tl y); rw [e]; exact List.cons_ne_nil _ _), prt_join, ← TL.len_tl] at hyS
    have sw := same_upd (o := .lst ((Txt.split y " ").map V.str)) nw
    have hpw : (upd H5 pw (.lst ((Txt.split y " ").map V.str))) pw = some (.lst ((Txt.split y " ").map V.str)) := upd_same
    generalize Txt.split y " " = us at hyW hyS hpw sw
    generalize upd H5 pw (.lst (us.map V.str)) = H6 at hpw sw
    have hul : 0 < us.length := by
      cases us with
      | nil =>
        obtain ⟨a, b, e⟩ := wds_cons (TL.tl y)
        rw [e] at hyW
        cases hyW
      | cons a b => rw [List.length_cons]; omega
    have dr6 := dr5.same sw
    have kb6 := kb5.trans (Same.kb sw)
    obtain ⟨hpwd, _⟩ := new_ne dr5 nw
    have hpl6 := sw _ _ hpl5
    have hlsW : lsum (us.map TL.tl) = y.length + 1 := by rw [← lsum_strs]; omega
    refine ⟨_, rfl, _, rfl, pw, _, rfl, .inl (SqL.of hpw), d, c, _, rfl, dr6, by rw [List.length_map]; omega, by rw [List.length_map]; exact bnd _ (by omega), fun H7 spot b7 dr7 q0 q1 => ?_⟩
    rw [List.length_map] at q1
    obtain ⟨sn, rfl⟩ : ∃ sn : Nat, spot = (sn : Int) := ⟨spot.toNat, by omega⟩
    have kb7 := kb6.trans b7.kb
    have hpl7 := b7.kb _ _ hpd hpl6
    have hpw7 := b7.kb _ _ hpwd hpw
    have hul2 : us.length ≤ 700001 := by omega
    refine ⟨⟨_, rfl⟩, _, rfl, _, rfl, _, rfl, pl, _, rfl, SqL.of hpl7, fun p1 n1 => ?_⟩
    rw [cutV_strTo]
    have t1 := same_upd (o := .lst ((ys.take hn).map V.str)) n1
    refine ⟨⟨_, rfl⟩, _, rfl, _, rfl, _, _, rfl, rfl, _, rfl, pw, _, rfl, SqL.of (t1 _ _ hpw7), fun p2 n2 => ?_⟩
    rw [show cutV (us.map V.str) none (some ((sn : Int) + 1)) = (us.take (sn + 1)).map V.str from cutV_strTo us (sn + 1)]
    have t2 := same_upd (o := .lst ((us.take (sn + 1)).map V.str)) n2
    refine ⟨_, rfl, _, rfl, _, rfl, pw, _, rfl, SqL.of (t2 _ _ (t1 _ _ hpw7)), fun p3 n3 => ?_⟩
    rw [cutV_strFrom]
    have t3 := same_upd (o := .lst ((us.drop sn).map V.str)) n3
    refine ⟨p2, p3, _, _, rfl, rfl, t3 _ _ upd_same, upd_same, by rw [List.length_map, List.length_map, List.length_take, List.length_drop]; exact size64 (by omega), fun p4 n4 => ?_⟩
    have t4 := same_upd (o := .lst ((us.take (sn + 1)).map V.str ++ (us.drop sn).map V.str)) n4
    have hws : (upd (upd (upd (upd H7 p1 (.lst ((ys.take hn).map V.str))) p2 (.lst ((us.take (sn + 1)).map V.str))) p3 (.lst ((us.drop sn).map V.str))) p4 (.lst ((us.take (sn + 1)).map V.str ++ (us.drop sn).map V.str))) p4 = some (.lst ((us.take (sn + 1) ++ us.drop sn).map V.str)) := by rw [upd_same, List.map_append]
    have t14 := (t2.trans t3).trans t4
    have hp1 := t14 _ _ (upd_same (H := H7) (a := p1) (o := .lst ((ys.take hn).map V.str)))
    have hpl8 := t14 _ _ (t1 _ _ hpl7)
    have kb8 := kb7.trans (Same.kb (t1.trans t14))
    have dr8 := dr7.same (t1.trans t14)
    generalize (upd (upd (upd (upd H7 p1 (.lst ((ys.take hn).map V.str))) p2 (.lst ((us.take (sn + 1)).map V.str))) p3 (.lst ((us.drop sn).map V.str))) p4 (.lst ((us.take (sn + 1)).map V.str ++ (us.drop sn).map V.str))) = H8 at hws hp1 hpl8 kb8 dr8
    have hlw : lsum ((us.take (sn + 1) ++ us.drop sn).map TL.tl) ≤ 2 * (y.length + 1) := by
      rw [List.map_append, List.map_take, List.map_drop, lsum_app]
      have := lsum_take (us.map TL.tl) (sn + 1)
      have := lsum_drop (us.map TL.tl) sn
      omega
    generalize us.take (sn + 1) ++ us.drop sn = ws at hws hlw
    have hwss := lsum_strs ws
    have hline : TL.tl (Txt.join " " ws) = TL.joinL [32] (ws.map TL.tl) := join_tl " " ws
    have hjl := lsum_jn (ws.map TL.tl)
    have hjl2 := TL.len_tl (Txt.join " " ws)
    rw [hline] at hjl2
    have hyl3 := TL.len_tl y
    refine ⟨" ", p4, ws, rfl, rfl, .inl (SqL.of hws), size64 (by show _ + ws.length * 1 ≤ _; omega), ?_⟩
    refine ⟨by show 1 ≤ sizeLine; decide, fun p5 n5 => ?_⟩
    have t5 := same_upd (o := .lst [V.str (Txt.join " " ws)]) n5
    refine ⟨p1, p5, _, _, rfl, rfl, t5 _ _ hp1, upd_same, by rw [List.length_map, List.length_take]; exact size64 (by show _ + 1 ≤ _; omega), fun p6 n6 => ?_⟩
    have t6 := same_upd (o := .lst ((ys.take hn).map V.str ++ [V.str (Txt.join " " ws)])) n6
    refine ⟨_, rfl, _, rfl, _, _, rfl, rfl, _, rfl, pl, _, rfl, SqL.of (t6 _ _ (t5 _ _ hpl8)), fun p7 n7 => ?_⟩
    rw [show cutV (ys.map V.str) (some ((hn : Int) + 1)) none = (ys.drop (hn + 1)).map V.str from cutV_strFrom ys (hn + 1)]
    have t7 := same_upd (o := .lst ((ys.drop (hn + 1)).map V.str)) n7
    refine ⟨p6, p7, _, _, rfl, rfl, t7 _ _ upd_same, upd_same, by rw [List.length_append, List.length_map, List.length_map, List.length_take, List.length_drop]; exact size64 (by show _ + 1 + _ ≤ _; omega), fun p8 n8 => ?_⟩
    have t8 := same_upd (o := .lst ((ys.take hn).map V.str ++ [V.str (Txt.join " " ws)] ++ (ys.drop (hn + 1)).map V.str)) n8
    have t58 := ((t5.trans t6).trans t7).trans t8
    have hbd : lsum ((ys.take hn ++ [Txt.join " " ws] ++ ys.drop (hn + 1)).map TL.tl) ≤ 1500001 := by
      rw [List.map_append, List.map_append, List.map_take, List.map_drop, List.map_cons, List.map_nil, hline, lsum_app, lsum_app]
      have e : lsum [TL.joinL [32] (ws.map TL.tl)] = (TL.joinL [32] (ws.map TL.tl)).length + 1 := rfl
      rw [e]
      omega
    exact ⟨"\n", p8, ys.take hn ++ [Txt.join " " ws] ++ ys.drop (hn + 1), rfl, rfl, .inl (SqL.of (by rw [upd_same, List.map_append, List.map_append]; rfl)), jsz _ hbd, fin _ (kb8.trans (Same.kb t58)) (dr8.same t58) hbd⟩
end
section
open PySem.Spec PyProof.Rows
variable {X : Cx}
/-- x not in a tuple of texts, where x is a text or a tuple -/
def rNotInT (K : PySem.W.Frag) : R2 := fun x y H Q => ∃ (p : Addr) (zs : List Str), y = .ref p ∧ SqT K H p (zs.map V.str) ∧ ((∃ z : Str, x = .str z ∧ Q (.bl (!decide (z ∈ zs))) H) ∨ ∃ a xs, x = .ref a ∧ SqT K H a xs ∧ Q (.bl true) H)
theorem op_notInT (hu : X.A.units + 1 < cLine) : OpR X (compareOp .NotIn) (rNotInT X.K) := by
  intro pins s σ H x y v u Q I rx ry h
  obtain ⟨p, zs, rfl, hq, h⟩ := h
  rcases h with ⟨z, rfl, q⟩ | ⟨a, xs, rfl, ha, q⟩
  · refine op_notIn_seq pins s σ H (.str z) (.ref p) v u Q I rx ry ⟨p, zs.map V.str, rfl, .inr hq, rfl, flat_strs zs, ?_⟩
    show Q (.bl (!inV (.str z) (zs.map V.str))) H
    rw [inV_strs]
    exact q
  · cases ry
    cases rx
    obtain ⟨its, r, pl, hz⟩ := I.tuple hq
    obtain ⟨its2, r2, pl2, hz2⟩ := I.tuple ha
    refine SeqAt.notIn_tupleAt (fun _ => false) pl (fun w hw => ?_) ⟨.bl _, H, I, rfl, ?_⟩
    · have hstr : ∀ {zs : List Str} {us : List Value}, Vals (zs.map V.str) us → ∀ u ∈ us, ∃ z t, u = .str z t := fun {zs us} => by
        induction zs generalizing us with
        | nil => intro h u hu; cases h; cases hu
        | cons b zs ih =>
          intro h u hu
          cases h with
          | cons rb rt =>
            rcases List.mem_cons.mp hu with rfl | hu
            · obtain ⟨t, e⟩ := rb
              exact ⟨b, t, e⟩
            · exact ih rt u hu
      obtain ⟨z, t, rfl⟩ := hstr r w (by simpa using hw)
      exact SeqAt.EqAt.str_tuple z t pl2 (by
        have : X.A.in1.units = X.A.units + 1 := rfl
        omega)
    · rw [show its.toArray.any (fun _ => false) = false by simp]
      exact q
end
theorem eqv_self {d : PyData} (h : SeqAt.shaped d = true) : PyData.eqv d d = true := by
  unfold SeqAt.shaped at h
  rw [Bool.and_eq_true] at h
  exact PySem.SeqAt.eqv_refl d h.1

/-! ### shapes of data -/
theorem lay_ints : ∀ ns : List Int, PyData.canLayAll0 (ns.map PyData.int) = true
  | [] => by simp [PyData.canLayAll0]
  | n :: ns => by simp [PyData.canLayAll0, PyData.canLay0, lay_ints ns]
theorem pdep_ints : ∀ ns : List Int, PyData.depthAll (ns.map PyData.int) ≤ 1
  | [] => by simp [PyData.depthAll]
  | n :: ns => by
    have ih := pdep_ints ns
    simp only [List.map_cons, PyData.depthAll, PyData.depth]
    omega
theorem names_ok : (∀ k ∈ INm, PyData.strOk k = true) ∧ ∀ k ∈ PW, PyData.strOk k = true := by decide +kernel
theorem lay_flds : ∀ fs : List Fv, (∀ d ∈ fs, d.bd) → PyData.canLayAll0 (fs.map dF) = true
  | [], _ => by simp [PyData.canLayAll0]
  | f :: fs, h => by
    have ih := lay_flds fs fun d hd => h d (List.mem_cons_of_mem _ hd)
    have hf := h f List.mem_cons_self
    cases f with
    | int n => simp [PyData.canLayAll0, PyData.canLay0, dF, ih]
    | str s =>
      have := names_ok.2 s hf
      simp [PyData.canLayAll0, PyData.canLay0, dF, ih, this]
    | tup ns => simp [PyData.canLayAll0, PyData.canLay0, dF, ih, lay_ints ns]
theorem pdep_flds : ∀ fs : List Fv, PyData.depthAll (fs.map dF) ≤ 3
  | [] => by simp [PyData.depthAll]
  | f :: fs => by
    have ih := pdep_flds fs
    cases f with
    | int n =>
      simp only [List.map_cons, dF, PyData.depthAll, PyData.depth]
      omega
    | str n =>
      simp only [List.map_cons, dF, PyData.depthAll, PyData.depth]
      omega
    | tup ns =>
      have := pdep_ints ns
      simp only [List.map_cons, dF, PyData.depthAll, PyData.depth]
      omega
theorem lay_code : ∀ xs : List Ins, (∀ x ∈ xs, InOk x) → PyData.canLayAll0 (xs.map dI) = true
  | [], _ => by simp [PyData.canLayAll0]
  | x :: xs, h => by
    have ih := lay_code xs fun d hd => h d (List.mem_cons_of_mem _ hd)
    have hx := h x List.mem_cons_self
    have h1 := lay_flds x.fs hx.bd
    have h2 := names_ok.1 _ hx.nm
    simp [PyData.canLayAll0, PyData.canLay0, dI, ih, h1, h2]
theorem pdep_code : ∀ xs : List Ins, PyData.depthAll (xs.map dI) ≤ 6
  | [] => by simp [PyData.depthAll]
  | x :: xs => by
    have ih := pdep_code xs
    have := pdep_flds x.fs
    simp only [List.map_cons, dI, PyData.depthAll, PyData.depth]
    omega
theorem code_shaped {xs : List Ins} (h : ∀ x ∈ xs, InOk x) : SeqAt.shaped (.tuple (xs.map dI)) = true := by
  have h1 := pdep_code xs
  have h2 : PyData.depth (.tuple (xs.map dI)) ≤ 64 := by
    simp only [PyData.depth]
    omega
  show (PyData.canLay0 (.tuple (xs.map dI)) && decide (PyData.depth (.tuple (xs.map dI)) ≤ 64)) = true
  rw [Bool.and_eq_true]
  exact ⟨by simp only [PyData.canLay0]; exact lay_code xs h, decide_eq_true h2⟩
theorem dp_all {K : PySem.W.Frag} {H : Hp} : ∀ {ws : List V} {xs : List Ins}, InsAt H ws xs → DpAll K H ws (xs.map dI)
  | [], [], _ => .nil
  | [], _ :: _, h => nomatch h.1
  | _ :: _, [], h => nomatch h.1
  | v :: ws, x :: xs, h => .cons (dp_in (h.2 0 v x rfl rfl)) (dp_all ⟨Nat.succ.inj h.1, fun i v' x' a b => h.2 (i + 1) v' x' (by simpa using a) (by simpa using b)⟩)
theorem dp_code {K : PySem.W.Frag} {H : Hp} {p : Addr} {xs : List Ins} (h : CodeAt K H p xs) : Dp K H (.ref p) (.tuple (xs.map dI)) := by
  obtain ⟨ws, h1, h2⟩ := h
  exact .tup h1 (dp_all h2)
/-! ### parts of texts -/
theorem occ_two {t s : Str} {a b : Nat} (hs : TL.tl s = [a, b]) (h : (Builtin.Str.occurrences t s 0 t.length 1).isEmpty = false) : ∃ u v, TL.tl t = u ++ a :: b :: v := by
  cases e : Builtin.Str.occurrences t s 0 t.length 1 with
  | nil => rw [e] at h; cases h
  | cons i r =>
    obtain ⟨h1, h2⟩ := PySem.StrLaws.occ_spec t s 0 t.length 1 i (by rw [e]; exact List.mem_cons_self)
    rw [PySem.StrLaws.subAt_eq] at h2
    have hsl : s.length = 2 := by
      have := TL.len_tl s
      rw [hs] at this
      exact this
    have hy : s.cps.toList = [a, b] := hs
    rw [hy, hsl] at h2
    have h2' : ((TL.tl t).drop i).take 2 = [a, b] := by simpa using h2
    refine ⟨(TL.tl t).take i, ((TL.tl t).drop i).drop 2, ?_⟩
    conv => lhs; rw [← List.take_append_drop i (TL.tl t), ← List.take_append_drop 2 ((TL.tl t).drop i), h2']
    rfl
/-! ### tests that are known -/
def PTr (t : TT) (σ : St) (H : Hp) (b : Bool) : Prop := ∀ k : Bool → Hp → Prop, k b H → t σ H k
theorem ptr_or {t1 t2 : TT} {σ : St} {H : Hp} {b1 b2 : Bool} (h1 : PTr t1 σ H b1) (h2 : PTr t2 σ H b2) : PTr (tOr t1 t2) σ H (b1 || b2) := fun k q => by
  refine h1 _ ?_
  cases b1 with
  | true => exact iteT q
  | false => exact iteF (h2 _ q)
theorem ptr_and {t1 t2 : TT} {σ : St} {H : Hp} {b1 b2 : Bool} (h1 : PTr t1 σ H b1) (h2 : PTr t2 σ H b2) : PTr (tAnd t1 t2) σ H (b1 && b2) := fun k q => by
  refine h1 _ ?_
  cases b1 with
  | true => exact iteT (h2 _ q)
  | false => exact iteF q
theorem ptr_ne {i : Nat} {b z : Str} {σ : St} {H : Hp} (hv : σ[i]? = some (some (.str b))) : PTr (tTest (tOp rNe (tVar i) (tC (.str z)))) σ H (!decide (TL.tl b = TL.tl z)) := fun k q => by
  refine ⟨_, hv, rfl, _, rfl, ?_⟩
  rw [dec_tl]
  exact q
theorem ptr_cut {i : Nat} {b z : Str} {σ : St} {H : Hp} (hv : σ[i]? = some (some (.str b))) (hb : b.length ≤ 1500000) : PTr (tTest (tOp rNe (tSl rSlS (tVar i) (tPart (tUn (rU fun i => V.int (-i)) (tC (V.int 1)))) tNoPart) (tC (.str z)))) σ H (!decide (TL.tl (cutS b (some (-1)) none) = TL.tl z)) := fun k q => by
  refine ⟨_, hv, _, rfl, _, rfl, b, rfl, size64 (by omega), rfl, _, rfl, ?_⟩
  rw [dec_tl]
  exact q
theorem ptr_in {i : Nat} {b z : Str} {σ : St} {H : Hp} (hv : σ[i]? = some (some (.str b))) : PTr (tTest (tOp (fun x y H Q => ∃ i j, x = V.str i ∧ y = V.str j ∧ Q (V.bl !(Builtin.Str.occurrences j i 0 j.length 1).isEmpty) H) (tC (.str z)) (tVar i))) σ H (!(Builtin.Str.occurrences b z 0 b.length 1).isEmpty) := fun k q => ⟨_, hv, z, b, rfl, rfl, _, rfl, q⟩
/-- what the law calls surely wrong -/
def wrg (b : Str) : Bool := (!decide (TL.tl b = TL.tl ("" : Str)) && !decide (TL.tl (cutS b (some (-1)) none) = TL.tl ("\n" : Str))) || ((!(Builtin.Str.occurrences b "  " 0 b.length 1).isEmpty) || ((!(Builtin.Str.occurrences b " \n" 0 b.length 1).isEmpty) || !(Builtin.Str.occurrences b "\n\n" 0 b.length 1).isEmpty))
theorem wrg_no {b : Str} (hb : b.length ≤ 1500000) (h : (rdC (TL.tl b)).isSome = true) : wrg b = false := by
  obtain ⟨xs, hr⟩ := Option.isSome_iff_exists.mp h
  have hbl := TL.len_tl b
  have h1080 : (1500001 : Nat) < 10 ^ 80 := by decide +kernel
  have hlt : (TL.tl b).length < 10 ^ 80 := by omega
  obtain ⟨_, _, _, h4⟩ := rdC_inv hr hlt
  have a1 : (!decide (TL.tl b = TL.tl ("" : Str)) && !decide (TL.tl (cutS b (some (-1)) none) = TL.tl ("\n" : Str))) = false := by
    have e0 : TL.tl ("" : Str) = [] := rfl
    have e1 : TL.tl ("\n" : Str) = [10] := by decide +kernel
    rw [e0, e1]
    rcases h4 with h4 | h4
    · rw [decide_eq_true h4]
      rfl
    · have hne : TL.tl b ≠ [] := fun e => by rw [e] at h4; cases h4
      have e2 : TL.tl (cutS b (some (-1)) none) = [10] := by
        rw [cutS_last]
        have e3 := List.dropLast_concat_getLast hne
        rw [List.getLast?_eq_some_getLast hne] at h4
        rw [Option.some.inj h4] at e3
        have e4 : (TL.tl b).length - 1 = (TL.tl b).dropLast.length := by rw [List.length_dropLast]
        rw [e4]
        conv => lhs; rw [← e3]
        simp
      rw [decide_eq_true e2]
      simp
  have a2 : (Builtin.Str.occurrences b "  " 0 b.length 1).isEmpty = true := by
    cases e : (Builtin.Str.occurrences b "  " 0 b.length 1).isEmpty with
    | true => rfl
    | false =>
      obtain ⟨u, v, e2⟩ := occ_two (a := 32) (b := 32) (by decide +kernel) e
      exact absurd e2 (no_ss hr hlt)
  have a3 : (Builtin.Str.occurrences b " \n" 0 b.length 1).isEmpty = true := by
    cases e : (Builtin.Str.occurrences b " \n" 0 b.length 1).isEmpty with
    | true => rfl
    | false =>
      obtain ⟨u, v, e2⟩ := occ_two (a := 32) (b := 10) (by decide +kernel) e
      exact absurd e2 (no_sn hr hlt)
  have a4 : (Builtin.Str.occurrences b "\n\n" 0 b.length 1).isEmpty = true := by
    cases e : (Builtin.Str.occurrences b "\n\n" 0 b.length 1).isEmpty with
    | true => rfl
    | false =>
      obtain ⟨u, v, e2⟩ := occ_two (a := 10) (b := 10) (by decide +kernel) e
      exact absurd e2 (no_nn hr hlt)
  unfold wrg
  rw [a1, a2, a3, a4]
  rfl
/-! ### lengths -/
theorem lit_len {x : Ins} (h : InOk x) (hl : Lit x) : (inL x).length ≤ 300 := by
  have hw : lsum (inW x) = (inL x).length + 1 := lsum_join (inW x) (List.cons_ne_nil _ _)
  obtain ⟨n1, n2⟩ := names_len.1 _ h.nm
  have n3 := h.ty.len
  have tx : ∀ {n : Int}, n.natAbs < M6 → (txt n).length ≤ 7 := fun {n} hn => txt_len' (k := 6) (by decide) (by unfold M6 at hn; exact hn)
  have fl : ∀ {fs : List Fv}, (∀ f ∈ fs, match f with | .int n => n.natAbs < M6 | .str s => s ∈ PW | .tup ns => ns.length ≤ 3 ∧ ∀ n ∈ ns, n.natAbs < M6) → lsum (fs.flatMap Fv.words) ≤ fs.length * 32 := fun {fs} => by
    induction fs with
    | nil => intro _; exact Nat.zero_le _
    | cons f fs ih =>
      intro hf
      have h1 := ih fun g hg => hf g (List.mem_cons_of_mem _ hg)
      have h2 := hf f List.mem_cons_self
      rw [List.flatMap_cons, lsum_app, List.length_cons]
      have h3 : lsum f.words ≤ 32 := by
        cases f with
        | int n =>
          have := tx (n := n) h2
          show (txt n).length + 1 + 0 ≤ 32
          omega
        | str s =>
          have := names_len.2 s h2
          have hs := TL.len_tl s
          show (TL.tl s).length + 1 + 0 ≤ 32
          omega
        | tup ns =>
          obtain ⟨a1, a2⟩ := h2
          have t0 : (txt ((ns.length : Nat) : Int)).length ≤ 7 := tx (by unfold M6; omega)
          have t1 : ∀ {ms : List Int}, (∀ n ∈ ms, n.natAbs < M6) → lsum (ms.map txt) ≤ ms.length * 8 := fun {ms} => by
            induction ms with
            | nil => intro _; exact Nat.zero_le _
            | cons m ms ih2 =>
              intro hm
              have b1 := ih2 fun n hn => hm n (List.mem_cons_of_mem _ hn)
              have b2 := tx (hm m List.mem_cons_self)
              show (txt m).length + 1 + lsum (ms.map txt) ≤ (ms.length + 1) * 8
              omega
          have t2 := t1 a2
          show (txt ((ns.length : Nat) : Int)).length + 1 + lsum (ns.map txt) ≤ 32
          omega
      omega
  have h1 := fl hl
  have h2 : lsum (inW x) = (TL.tl x.nm).length + 1 + lsum (x.fs.flatMap Fv.words) := rfl
  have h3 := TL.len_tl x.nm
  omega
theorem code_len : ∀ {xs : List Ins}, (∀ x ∈ xs, InOk x ∧ Lit x) → (cdT xs).length ≤ xs.length * 301
  | [], _ => Nat.zero_le _
  | x :: xs, h => by
    have ih := code_len (xs := xs) fun y hy => h y (List.mem_cons_of_mem _ hy)
    obtain ⟨h1, h2⟩ := h x List.mem_cons_self
    have h3 := lit_len h1 h2
    have e : cdT (x :: xs) = inL x ++ [10] ++ cdT xs := rfl
    rw [e, List.length_append, List.length_append]
    show (inL x).length + 1 + _ ≤ (xs.length + 1) * 301
    omega
section
variable {P : Program} {w : World} {K : PySem.W.Frag} {mg : Str → Option Value} {base : Heap} {ZT : Addr}
def spLaw (K : PySem.W.Frag) : Sp := fun vs H Q _ => ∃ (a : Addr) (ns : List Int), vs = [.ref a] ∧ SqL K H a (ns.map V.int) ∧ ns.length ≤ 63 ∧ ∀ H', Q (.bl true) H'
abbrev nLaw : List Str := ["script", "d", "machine", "code", "due", "text", "turn", "bent", "told", "ins"]
theorem scLaw : FnScope nLaw ["script"] (defScope slaw) := ⟨rfl, rfl, rfl, by decide +kernel, rfl, by decide +kernel, by decide +kernel⟩
theorem ok_law {C : Nat → Addr} {f : Addr} {fd : FuncData} (F : Fun K "law" "law" slaw f fd) (T : TxtT mg) (cB : Calls P w K mg base CX0 1 "_law_begin" ["script"] (spBegin K)) (cT : Calls P w K mg base CX0 1 "_law_take" ["d", "many"] spTake) (cMa : Calls P w K mg base CX0 2 "_law_machine" ["d"] (spMa K)) (cBz : Calls P w K mg base CX0 9 "_law_block" ["d", "machine", "depth", "many"] (spBl K 4)) (cLl : Calls P w K mg base CX0 1 "_law_line" ["ins"] (spLl K)) (cWC : Calls P w K mg base CX0 6 "write_code" ["machine", "code"] (spWC K)) (cRC : Calls P w K mg base (L2.CX P w) 6 "read_code" ["machine", "text"] (spRC K C ZT)) (cBe : Calls P w K mg base CX0 2 "_law_bent" ["d", "text"] spBe) (cTo : Calls P w K mg base CX0 7 "_law_told" ["machine", "text"] (spTo K)) : FnOk P w K mg base CX0 10 f fd ["script"] (spLaw K) := by
  obtain ⟨fB, dB, GB, kB, bB, gB⟩ := cB.ex
  obtain ⟨fT, dT, GT, kT, bT, gT⟩ := cT.ex
  obtain ⟨fMa, dMa, GMa, kMa, bMa, gMa⟩ := cMa.ex
  obtain ⟨fBz, dBz, GBz, kBz, bBz, gBz⟩ := cBz.ex
  obtain ⟨fLl, dLl, GLl, kLl, bLl, gLl⟩ := cLl.ex
  obtain ⟨fWC, dWC, GWC, kWC, bWC, gWC⟩ := cWC.ex
  obtain ⟨fRC, dRC, GRC, kRC, bRC, gRC⟩ := cRC.ex
  obtain ⟨fBe, dBe, GBe, kBe, bBe, gBe⟩ := cBe.ex
  obtain ⟨fTo, dTo, GTo, kTo, bTo, gTo⟩ := cTo.ex
  refine F.ok scLaw (fun vs H Q E h => ?_) (fun cdv A outer s H vs Q E hr9 h => ?_)
  · obtain ⟨a, ns, rfl, _⟩ := h
    rfl
  · obtain ⟨a, ns, rfl, hS, hlen, q⟩ := h
    have hr1 : Room 1 _ := hr9.mono (by decide)
    have hr2 : Room 2 _ := hr9.mono (by decide)
    have hr6 : Room 6 _ := hr9.mono (by decide)
    have hr7 : Room 7 _ := hr9.mono (by decide)
    have hu : (A.deeper (PyProof.Rows.envOfC "law" (defScope slaw) s.heap.objs.size f cdv)).units + 1 < cLine := by have := hr1.units; omega
    refine ⟨_, (pss_cons (ps_set (i := 1) scLaw.nd rfl (.inl rfl) (pe_call GB hr1 (by rfl) gB kB bB .nil pass0 (pa_cons (pv 0) pa_nil)))
      (pss_cons (ps_set (i := 2) scLaw.nd rfl (.inl rfl) (pe_call GMa hr2 (by rfl) gMa kMa bMa .nil pass0 (pa_cons (pv 1) pa_nil)))
      (pss_cons (ps_set (i := 3) scLaw.nd rfl (.inl rfl) (pe_callTy call_tuple_of (by rfl) T.tuple (by decide +kernel) (pa_cons (pe_call GBz hr9 (by rfl) gBz kBz bBz .nil pass0 (pa_cons (pv 1) (pa_cons (pv 2) (pa_cons pe_int (pa_cons (pe_op op_add pe_int (pe_call GT hr1 (by rfl) gT kT bT .nil pass0 (pa_cons (pv 1) (pa_cons pe_int pa_nil)))) pa_nil))))) pa_nil)))
      (pss_cons (ps_set (i := 4) scLaw.nd rfl (.inl rfl) (pe_join pe_str (pe_lc (own := [("ins", 9)]) (g := (gName 9)) (tt := tYes) (te := (tCall (spLl K) [] E0 (tCons (tVar 9) tNil))) rfl scLaw.nd (pi_tup (pv 3)) (blkOk_by (N := nLaw) (sc := defScope slaw) (by decide +kernel)) (fun _ _ _ _ _ => (pg_name (i := 9) scLaw.nd rfl (.inl rfl) (hf := Or.inr rfl))) (fun _ _ _ _ _ => pts_nil) (fun _ _ _ _ _ => (pe_call GLl hr1 (by rfl) gLl kLl bLl .nil pass0 (pa_cons (pv 9) pa_nil))))))
      (pss_cons (ps_set (i := 5) scLaw.nd rfl (.inl rfl) (pe_call GWC hr6 (by rfl) gWC kWC bWC .nil pass0 (pa_cons (pv 2) (pa_cons (pv 3) pa_nil))))
      (pss_cons (ps_if (PW.pt (pw_or (pt_not (pt_val (pe_callB call_isi (by rfl) T.isi (by decide +kernel) (pa_cons (pv 5) (pa_cons (pe_bltn (v := .ty "str") (by rfl) T.str (by decide +kernel) rfl) pa_nil))))) (pw_or (pt_cmpR op_ne (pv 5) (pv 4) (nomark _)) (pw_or (pt_cmpR (op_neD hr9.units) (pe_call GRC hr6 (by rfl) gRC kRC bRC .nil passN (pa_cons (pv 2) (pa_cons (pv 4) pa_nil))) (pv 3) (nomark _)) (pw_or1 (pt_cmpR op_ne (pe_call GWC hr6 (by rfl) gWC kWC bWC .nil pass0 (pa_cons (pv 2) (pa_cons (pe_tup pa_nil) pa_nil))) pe_str (nomark _))))))) (pss_one (ps_ret pe_bl)) pss_nil)
      (pss_cons (ps_for PassesOwn.never rfl (pi_range1 rfl T.range (pa_cons pe_int pa_nil)) (pg_name (i := 6) scLaw.nd rfl (.inl rfl)) (pss_cons (ps_set (i := 7) scLaw.nd rfl (.inl rfl) (pe_call GBe hr2 (by rfl) gBe kBe bBe .nil pass0 (pa_cons (pv 1) (pa_cons (pv 4) pa_nil))))
      (Evl.pss_cut (ps_set (i := 8) scLaw.nd rfl (.inl rfl) (pe_call GTo hr7 (by rfl) gTo kTo bTo .nil pass0 (pa_cons (pv 2) (pa_cons (pv 7) pa_nil))))
      (Evl.pss_cut (ps_if (pt_cmpR (op_notInT hu) (pv 8) (pe_tup (pa_cons pe_str (pa_cons pe_str pa_nil))) rfl) (pss_one (ps_if (pt_cmpR op_ne (pe_call GWC hr6 (by rfl) gWC kWC bWC .nil pass0 (pa_cons (pv 2) (pa_cons (pv 8) pa_nil))) (pv 7) (nomark _)) (pss_one (ps_ret pe_bl)) pss_nil)) pss_nil)
      (pss_one (ps_if (PW.pt (pw_or (PW.pt (pw_and (pt_cmpR op_ne (pv 7) pe_str (nomark _)) (pw_and1 (pt_cmpR op_ne (pe_slice sl_str (pv 7) (po_some (pe_un un_neg pe_int)) po_none) pe_str (nomark _))))) (pw_or (pt_cmpR op_in_str pe_str (pv 7) rfl) (pw_or (pt_cmpR op_in_str pe_str (pv 7) rfl) (pw_or1 (pt_cmpR op_in_str pe_str (pv 7) rfl)))))) (pss_one (ps_if (pt_cmpR op_ne (pv 8) pe_str (nomark _)) (pss_one (ps_ret pe_bl)) pss_nil)) pss_nil))))))
      (pss_one (ps_ret (pe_and (pe_cmpR (op_eqD hr9.units) (pe_call GTo hr7 (by rfl) gTo kTo bTo .nil pass0 (pa_cons (pv 2) (pa_cons pe_str pa_nil))) (pe_tup pa_nil) (nomark _)) (pe_one (pe_cmpR op_eq (pe_call GTo hr7 (by rfl) gTo kTo bTo .nil pass0 (pa_cons (pv 2) (pa_cons (pe_op op_add_str (pv 4) pe_str) pa_nil))) pe_str (nomark _))))))))))))), ?_⟩
    refine ⟨_, rfl, a, ns, rfl, hS, hlen, fun H1 d c s1 nd nc dr1 => ?_⟩
    refine ⟨_, rfl, d, c, rfl, dr1, fun H2 pm m ms k2 dr2 hpm hm => ?_⟩
    clear k2 s1 nd nc dr1
    refine ⟨_, rfl, _, rfl, _, rfl, d, c, 7, rfl, dr2, by decide, bnd_le (by decide), fun H3 v k3 dr3 v0 v1 => ?_⟩
    obtain ⟨many, hmany⟩ : ∃ k : Nat, 1 + v = (k : Int) := ⟨(1 + v).toNat, by omega⟩
    have hpm3 := KtAt k3.kb dr2 hpm
    obtain ⟨y1, y2, hms, y3, y4, y5, y6⟩ := hm.e
    have hMp : MAt H3 pm m := ⟨y1, y2, by rw [hms] at hpm3; exact hpm3, y3, y4, y5, y6, hm.ok.wb.1, hm.ok.qb.1, hm.ok.qb.2, hm.ok.lb.1, hm.ok.lb.2⟩
    refine ⟨_, _, rfl, rfl, d, c, pm, m, many, by show [V.ref d, V.ref pm, V.int 0, V.int (1 + v)] = _; rw [hmany]; rfl, by decide, by decide, by omega, dr3, hMp, fun H4 pb us xs k4 dr4 npb nbd nbc hpb hI hB => ?_⟩
    have hpm4 := KtAt k4 dr3 hpm3
    refine ⟨pb, _, rfl, .inl ⟨SqL.of hpb, fun pc npc => ?_⟩⟩
    have s5 := same_upd (o := .tup us) npc
    have hpc : (upd H4 pc (.tup us)) pc = some (.tup us) := upd_same
    have dr5 := dr4.same s5
    have hpm5 := s5 _ _ hpm4
    have hI5 := hI.keep (Same.nl s5)
    clear hpm hpm3 hMp k3 k4 dr3 dr4 npb nbd nbc hpb hI dr2 hpm4
    generalize upd H4 pc (.tup us) = H5 at s5 hpc dr5 hpm5 hI5
    clear s5 npc
    obtain ⟨sg, hgood, hg0, hg1⟩ := hB.g
    have hSB : SB (4 - 1) = 1093 := by decide
    have hLB : LB (4 - 1) = 53 := by decide
    have hlit := hB.t
    have hokC : okC m xs := hgood.okC (by decide) (by
      rw [hSB] at hg1
      omega)
    have hxl : xs.length ≤ 371 := by
      have h1 := hB.l
      rw [hLB] at h1
      omega
    have hin : ∀ x ∈ xs, InOk x := fun x hx => (hgood.ok x hx).1
    have hTl : (cdT xs).length ≤ 111671 := by
      have h1 := code_len (xs := xs) fun x hx => ⟨hin x hx, hB.t x hx⟩
      omega
    clear hgood hB hg0 hg1 hSB hLB hmany
    have hus : us.length = xs.length := hI5.1
    -- the text that is due
    refine ⟨⟨_, rfl⟩, _, rfl, pc, rfl, ⟨_, SqT.of hpc⟩, fun D nD => lc_tup (K := K) (a := pc) (xs := us) (fun i H' => Same H5 H' ∧ WL H' D ((xs.take i).map fun x => inL x ++ [10])) ⟨same_upd nD, [], upd_same, rfl⟩ (fun i H' _ h => sqT_same (SqT.of hpc) h.1) ?_ ?_⟩
    · rintro i x H6 hx ⟨sm, hWl⟩
      have hi : i < us.length := (List.getElem?_eq_some_iff.mp hx).1
      obtain ⟨y, hy⟩ : ∃ y, xs[i]? = some y := ⟨_, List.getElem?_eq_getElem (by omega)⟩
      have hym := List.mem_of_getElem? hy
      have hxa := (hI5.2 i x y hx hy).same sm
      obtain ⟨px, vx, rfl, hpx, hfx⟩ := id hxa
      have hxi := lit_len (hin y hym) (hlit y hym)
      refine ⟨rfl, tYes_go ⟨_, rfl, px, y, rfl, hxa, hin y hym, by omega, fun H7 z s7 hz => ?_⟩⟩
      obtain ⟨ys, hD, hyl, hW'⟩ := (hWl.same s7).app (z := z)
      rw [List.length_map, List.length_take] at hyl
      refine ⟨_, hD, by rw [List.length_map, hyl]; exact small64 (by omega), fun b o e => ?_, ?_⟩
      · rw [upd_ne (ne_of_none e nD)]
        exact s7 _ _ (sm _ _ e)
      · rw [take_snoc hy, List.map_append]
        rw [hz] at hW'
        exact hW'
    rintro H6 ⟨sm6, ys, hD, hy⟩
    rw [hus, List.take_length] at hy
    have hfl : (xs.map fun x => inL x ++ [10]).flatten = cdT xs := (List.flatMap_def).symm
    have hj : TL.tl (Txt.join "" ys) = cdT xs := by
      rw [join_tl, hy]
      show TL.joinL [] _ = _
      rw [joinL_fl, hfl]
    have hyl : ys.length = xs.length := by rw [← List.length_map (f := TL.tl), hy, List.length_map]
    have hls := lsum_strs ys
    rw [hy, lsum_flat, hfl, List.length_map] at hls
    refine ⟨"", D, ys, rfl, rfl, .inl (SqL.of hD), size64 (by show _ + ys.length * 0 ≤ _; omega), ?_⟩
    generalize Txt.join "" ys = due at hj
    have hdl := TL.len_tl due
    rw [hj] at hdl
    have dr6 := dr5.same sm6
    have hpm6 := sm6 _ _ hpm5
    have hpc6 := sm6 _ _ hpc
    have hI6 := hI5.keep (Same.nl sm6)
    clear sm6 hD hy hyl hls hpc hI5 hpm5 dr5 nD
    -- write_code
    refine ⟨_, rfl, _, rfl, pm, pc, m, ms, xs, rfl, SqT.of hpm6, hm.ok, ⟨us, SqT.of hpc6, hI6⟩, hin, by omega, hokC, fun H7 text s7 htx => ?_⟩
    have hpm7 := s7 _ _ hpm6
    have hpc7 := s7 _ _ hpc6
    have hI7 := hI6.keep (Same.nl s7)
    have dr7 := dr6.same s7
    refine ⟨_, rfl, _, _, _, _, true, rfl, ClsV.ty "str", TyX.base (TyOf.str text), kit_ty (by decide +kernel), _, rfl, iteF ?_⟩
    refine ⟨_, rfl, _, rfl, rfl, _, rfl, ?_⟩
    rw [dec_tl, decide_eq_true (htx.trans hj.symm)]
    refine iteF ⟨_, rfl, _, rfl, pm, m, ms, due, rfl, SqT.of hpm7, hm.ok, by omega, fun H8 s8 => ⟨fun hn => ?_, fun xs' hx' => ?_⟩⟩
    · rw [hj, rdC_fwd hin] at hn
      cases hn
    rw [hj, rdC_fwd hin] at hx'
    cases hx'
    refine ⟨fun hb => absurd hokC hb, fun _ pr hpr => ?_⟩
    have hpc8 := s8 _ _ hpc7
    have hI8 := hI7.keep (Same.nl s8)
    refine ⟨_, rfl, .tuple (xs.map dI), .tuple (xs.map dI), dp_code hpr, dp_code ⟨us, SqT.of hpc8, hI8⟩, code_shaped hin, code_shaped hin, _, rfl, ?_⟩
    rw [eqv_self (code_shaped hin)]
    have hpm8 := s8 _ _ hpm7
    refine iteF ⟨_, rfl, by show 0 ≤ sizeLine; decide, fun pe npe => ?_⟩
    have s9 := same_upd (o := .tup []) npe
    have hpe : SqT K (upd H8 pe (.tup [])) pe [] := SqT.of upd_same
    have hnil : okC m [] := ⟨fun _ h => (nomatch h), [], rfl, fun a x h => by simp at h, fun _ h => (nomatch h), 0, rfl, by decide⟩
    refine ⟨pm, pe, m, ms, [], rfl, SqT.of (s9 _ _ hpm8), hm.ok, ⟨[], hpe, InsAt.nil _⟩, fun _ h => (nomatch h), by decide, hnil, fun H10 y s10 hy => ?_⟩
    refine ⟨rfl, _, rfl, ?_⟩
    have hy0 : TL.tl y = TL.tl ("" : Str) := hy
    rw [dec_tl, decide_eq_true hy0]
    refine iteF ?_
    have s710 := (s8.trans s9).trans s10
    have hpm10 := s710 _ _ hpm7
    have dr10 := dr7.same s710
    clear hpm7 hpc7 hI7 dr7 hpm6 hpc6 hI6 dr6 hpr hpc8 hI8 hpm8 s7 s8 s9 s10 s710 npe hpe
    refine ⟨4, rfl, by decide, by decide, for_range (lo := 0) (n := 4) (fun i σ H' => ∃ (v6 v7 v8 : Option V), σ = [some (.ref a), some (.ref d), some (.ref pm), some (.ref pc), some (.str due), some (.str text), v6, v7, v8, none] ∧ DrAt H' d c ∧ H' pm = some (.tup (ms.map V.int))) ⟨_, _, _, rfl, dr10, hpm10⟩ ?_ ?_⟩
    · rintro i σ H11 hi ⟨v6, v7, v8, rfl, dr11, hpm11⟩
      refine ⟨_, rfl, _, rfl, d, c, due, rfl, dr11, by omega, fun H12 b k12 dr12 hb => ?_⟩
      have hpm12 := KtAt k12 dr11 hpm11
      have hbl := TL.len_tl b
      have h1080 : (1500001 : Nat) < 10 ^ 80 := by decide +kernel
      refine ⟨fun σ' H' => ∃ tv : V, σ' = [some (.ref a), some (.ref d), some (.ref pm), some (.ref pc), some (.str due), some (.str text), some (.int (0 + (i : Int))), some (.str b), some tv, none] ∧ DrAt H' d c ∧ H' pm = some (.tup (ms.map V.int)) ∧
        ((rdC (TL.tl b) = none ∧ tv = .str "text") ∨ ((rdC (TL.tl b)).isSome = true ∧ tv = .str "other") ∨ ∃ xs' p', rdC (TL.tl b) = some xs' ∧ okC m xs' ∧ tv = .ref p' ∧ CodeAt K H' p' xs'), ?_, ?_⟩
      · refine ⟨_, rfl, _, rfl, pm, m, ms, b, rfl, SqT.of hpm12, hm.ok, hb, fun H13 s13 => ⟨fun hn => ⟨_, rfl, dr12.same s13, s13 _ _ hpm12, .inl ⟨hn, rfl⟩⟩, fun xs' h => ⟨fun _ => ⟨_, rfl, dr12.same s13, s13 _ _ hpm12, .inr (.inl ⟨by rw [h]; rfl, rfl⟩)⟩, fun h0 p' hc => ⟨_, rfl, dr12.same s13, s13 _ _ hpm12, .inr (.inr ⟨xs', p', h, h0, rfl, hc⟩)⟩⟩⟩⟩
      rintro σ' H13 ⟨tv, rfl, dr13, hpm13, ht⟩
      refine ⟨fun σ' H' => ∃ tv : V, σ' = [some (.ref a), some (.ref d), some (.ref pm), some (.ref pc), some (.str due), some (.str text), some (.int (0 + (i : Int))), some (.str b), some tv, none] ∧ DrAt H' d c ∧ H' pm = some (.tup (ms.map V.int)) ∧ ((rdC (TL.tl b) = none ∧ tv = .str "text") ∨ (rdC (TL.tl b)).isSome = true), ?_, ?_⟩
      · have hmem : ("text" : Str) ∈ (["text", "other"] : List Str) ∧ ("other" : Str) ∈ (["text", "other"] : List Str) := by decide +kernel
        refine ⟨_, rfl, by show 2 ≤ sizeLine; decide, fun pq nq => ?_⟩
        have s14 := same_upd (o := .tup [V.str "text", .str "other"]) nq
        have hpq : SqT K (upd H13 pq (.tup [V.str "text", .str "other"])) pq ((["text", "other"] : List Str).map V.str) := SqT.of upd_same
        have dr14 := dr13.same s14
        have hpm14 := s14 _ _ hpm13
        rcases ht with ⟨hn, rfl⟩ | ⟨hs, rfl⟩ | ⟨xs', p', hr, h0, rfl, hc⟩
        · refine ⟨pq, ["text", "other"], rfl, hpq, .inl ⟨"text", rfl, _, rfl, ?_⟩⟩
          rw [decide_eq_true hmem.1]
          exact iteF ⟨_, rfl, dr14, hpm14, .inl ⟨hn, rfl⟩⟩
        · refine ⟨pq, ["text", "other"], rfl, hpq, .inl ⟨"other", rfl, _, rfl, ?_⟩⟩
          rw [decide_eq_true hmem.2]
          exact iteF ⟨_, rfl, dr14, hpm14, .inr hs⟩
        · have hc14 := hc.same s14
          obtain ⟨ws', hw1, hw2⟩ := id hc14
          obtain ⟨i1, i2, _, _⟩ := rdC_inv hr (by omega)
          refine ⟨pq, ["text", "other"], rfl, hpq, .inr ⟨p', _, rfl, hw1, _, rfl, ?_⟩⟩
          refine iteT ⟨_, rfl, _, rfl, pm, p', m, ms, xs', rfl, SqT.of hpm14, hm.ok, hc14, i2, by rw [i1]; omega, h0, fun H15 y s15 hy => ?_⟩
          refine ⟨_, rfl, rfl, _, rfl, ?_⟩
          rw [dec_tl, decide_eq_true (hy.trans i1)]
          exact iteF ⟨_, rfl, dr14.same s15, s15 _ _ hpm14, .inr (by rw [hr]; rfl)⟩
      rintro σ' H14 ⟨tv, rfl, dr14, hpm14, ht⟩
      refine (ptr_or (ptr_and (ptr_ne (b := b) rfl) (ptr_cut (b := b) rfl hb)) (ptr_or (ptr_in (b := b) rfl) (ptr_or (ptr_in (b := b) rfl) (ptr_in (b := b) rfl)))) _ ?_
      show if wrg b = true then _ else _
      rcases ht with ⟨hn, rfl⟩ | hs
      · cases wrg b with
        | false => exact iteF ⟨_, _, _, rfl, dr14, hpm14⟩
        | true =>
          refine iteT ⟨_, rfl, rfl, _, rfl, ?_⟩
          rw [decide_eq_true rfl]
          exact iteF ⟨_, _, _, rfl, dr14, hpm14⟩
      · rw [wrg_no hb hs]
        exact iteF ⟨_, _, _, rfl, dr14, hpm14⟩
    · rintro σ H11 ⟨v6, v7, v8, rfl, dr11, hpm11⟩
      have n1 : rdC (TL.tl ("" : Str)) = some [] := by
        show rdC [] = _
        have := rdC_fwd (xs := []) fun _ h => nomatch h
        exact this
      have n2 : rdC (TL.tl (due ++ "\n")) = none := by
        rw [TL.tl_append, hj]
        exact rdC_more (by
          have : (111672 : Nat) < 10 ^ 70 := by decide +kernel
          omega)
      refine ⟨_, rfl, pm, m, ms, "", rfl, SqT.of hpm11, hm.ok, by decide, fun H12 s12 => ⟨fun h => (by rw [n1] at h; cases h), fun xs' h => ?_⟩⟩
      rw [n1] at h
      cases h
      refine ⟨fun h => absurd hnil h, fun _ p' hc => ?_⟩
      refine ⟨by show 0 ≤ sizeLine; decide, fun pe npe => ?_⟩
      have s13 := same_upd (o := .tup []) npe
      have hce : CodeAt K (upd H12 pe (.tup [])) pe [] := ⟨[], SqT.of upd_same, InsAt.nil _⟩
      refine ⟨.tuple (([] : List Ins).map dI), .tuple (([] : List Ins).map dI), dp_code (hc.same s13), dp_code hce, code_shaped fun _ h => (nomatch h), code_shaped fun _ h => (nomatch h), _, rfl, ?_⟩
      rw [eqv_self (code_shaped (xs := []) fun _ h => nomatch h)]
      refine iteT ⟨_, rfl, _, rfl, _, _, rfl, rfl, size64 (by show due.length + 1 ≤ _; omega), pm, m, ms, due ++ "\n", rfl, SqT.of (s13 _ _ (s12 _ _ hpm11)), hm.ok, by rw [PySem.Str.length_append]; show due.length + 1 ≤ _; omega, fun H14 s14 => ⟨fun _ => ?_, fun xs' h => (by rw [n2] at h; cases h)⟩⟩
      refine ⟨rfl, ?_⟩
      rw [decide_eq_true rfl]
      exact q _
end
def keysB (es : Array DictEntry) (ks : List Str) : Bool := es.toList.all fun e => match e.key with | .str s _ => ks.contains s | _ => false
theorem ns_no {K : PySem.W.Frag} {w : World} {d : Addr} {es : Array DictEntry} {n : Nat} {ks : List Str} (D : KDict K w d es n) (h : keysB es ks = true) {k : Str} (hk : k ∉ ks) : PySem.W.nsIn K d k = some none := by
  have h1 : es.toList.find? (·.key.isStr k) = none := by
    rw [List.find?_eq_none]
    intro e he hs
    unfold keysB at h
    rw [List.all_eq_true] at h
    have h2 := h e he
    cases q : e.key with
    | str s t =>
      rw [q] at h2 hs
      have h2 : ks.contains s = true := h2
      have hs : (s == k) = true := hs
      rw [beq_iff_eq] at hs
      subst hs
      exact hk (List.contains_iff_mem.mp h2)
    | _ => rw [q] at h2; cases h2
  have h3 : es.toList.any (·.refKey) = false := by
    rw [List.any_eq_false]
    intro e he hr
    obtain ⟨x, t, e1, _⟩ := D.lit.all e he
    unfold DictEntry.refKey at hr
    rw [e1] at hr
    cases hr
  unfold PySem.W.nsIn
  rw [D.at_]
  dsimp only
  rw [h1, h3]
  rfl

def CC47 (z3 z4 z6 : Addr) : Nat → Addr
  | 3 => z3
  | 4 => z4
  | 6 => z6
  | _ => z3
/-! ### what the top has written, the head -/
theorem all_mk {l : PySem.W.OpenLaw} {w : World} {K : PySem.W.Frag} {h : Heap} {mg : Str → Option Value} {fa f1 f2 f3 f4 f5 f6 f7 f8 f9 f10 f11 f12 f13 f14 f15 f16 f17 f18 f19 f20 f21 f22 f23 f24 f25 f26 f27 f28 f29 f30 f31 f32 f33 f34 z3 z4 z6 zT cT cA cF cN cR cP uf1 uf2 uf3 uf4 uf5 uf6 uf7 uf8 uf9 uf10 uf11 ui1 ui2 ui3 ui4 ui5 ui6 ui7 ui8 ui9 ui10 ui11 ui12 vN mB mw1 mw2 mw3 mw4 mw5 : Addr} (X : K.In h) (G : h.Ns mainGlobals mg) (hfa : mg "law" = some (.ref fa))
    {od1 an1 od2 an2 od3 an3 od4 an4 od5 an5 od6 an6 od7 an7 od8 an8 od9 an9 od10 an10 od11 an11 od12 an12 od13 an13 od14 an14 od15 an15 od16 an16 od17 an17 od18 an18 od19 an19 od20 an20 od21 an21 od22 an22 od23 an23 od24 an24 od25 an25 od26 an26 od27 an27 od28 an28 od29 an29 od30 an30 od31 an31 od32 an32 od33 an33 od34 an34 : Option Addr} {sl1 sl2 sl3 sl4 sl5 sl6 sl7 sl8 sl9 sl10 sl11 sl12 sl13 sl14 sl15 sl16 sl17 sl18 sl19 sl20 sl21 sl22 sl23 sl24 sl25 sl26 sl27 sl28 sl29 sl30 sl31 sl32 sl33 sl34 : Array (Option Value)} {oc1 kV1 dc1 pm1 cd1 ct1 oc2 kV2 dc2 pm2 cd2 ct2 oc3 kV3 dc3 pm3 cd3 ct3 oc4 kV4 dc4 pm4 cd4 ct4 oc5 kV5 dc5 pm5 cd5 ct5 oc6 kV6 dc6 pm6 cd6 ct6 oc7 kV7 dc7 pm7 cd7 ct7 oc8 kV8 dc8 pm8 cd8 ct8 oc9 kV9 dc9 pm9 cd9 ct9 oc10 kV10 dc10 pm10 cd10 ct10 oc11 kV11 dc11 pm11 cd11 ct11 oc12 kV12 dc12 pm12 cd12 ct12 oc13 kV13 dc13 pm13 cd13 ct13 oc14 kV14 dc14 pm14 cd14 ct14 oc15 kV15 dc15 pm15 cd15 ct15 oc16 kV16 dc16 pm16 cd16 ct16 oc17 kV17 dc17 pm17 cd17 ct17 oc18 kV18 dc18 pm18 cd18 ct18 oc19 kV19 dc19 pm19 cd19 ct19 oc20 kV20 dc20 pm20 cd20 ct20 oc21 kV21 dc21 pm21 cd21 ct21 oc22 kV22 dc22 pm22 cd22 ct22 oc23 kV23 dc23 pm23 cd23 ct23 oc24 kV24 dc24 pm24 cd24 ct24 oc25 kV25 dc25 pm25 cd25 ct25 oc26 kV26 dc26 pm26 cd26 ct26 oc27 kV27 dc27 pm27 cd27 ct27 oc28 kV28 dc28 pm28 cd28 ct28 oc29 kV29 dc29 pm29 cd29 ct29 oc30 kV30 dc30 pm30 cd30 ct30 oc31 kV31 dc31 pm31 cd31 ct31 oc32 kV32 dc32 pm32 cd32 ct32 oc33 kV33 dc33 pm33 cd33 ct33 oc34 kV34 dc34 pm34 cd34 ct34 : Value}
    {escA : Array DictEntry} {ncA : Nat} {escF : Array DictEntry} {ncF : Nat} {escN : Array DictEntry} {ncN : Nat} {escR : Array DictEntry} {ncR : Nat} {odcP : Option Addr} {itcP : Array Value} {nbcP : Nat} {slcP : Array (Option Value)} {oduf1 : Option Addr} {ituf1 : Array Value} {nbuf1 : Nat} {sluf1 : Array (Option Value)} {tkuf1 : Tok} {oduf2 : Option Addr} {ituf2 : Array Value} {nbuf2 : Nat} {sluf2 : Array (Option Value)} {tkuf2 : Tok} {oduf3 : Option Addr} {ituf3 : Array Value} {nbuf3 : Nat} {sluf3 : Array (Option Value)} {tkuf3 : Tok} {oduf4 : Option Addr} {ituf4 : Array Value} {nbuf4 : Nat} {sluf4 : Array (Option Value)} {tkuf4 : Tok} {oduf5 : Option Addr} {ituf5 : Array Value} {nbuf5 : Nat} {sluf5 : Array (Option Value)} {tkuf5 : Tok} {oduf6 : Option Addr} {ituf6 : Array Value} {nbuf6 : Nat} {sluf6 : Array (Option Value)} {tkuf6 : Tok} {oduf7 : Option Addr} {ituf7 : Array Value} {nbuf7 : Nat} {sluf7 : Array (Option Value)} {tkuf7 : Tok} {oduf8 : Option Addr} {ituf8 : Array Value} {nbuf8 : Nat} {sluf8 : Array (Option Value)} {tkuf8 : Tok} {oduf9 : Option Addr} {ituf9 : Array Value} {nbuf9 : Nat} {sluf9 : Array (Option Value)} {tkuf9 : Tok} {oduf10 : Option Addr} {ituf10 : Array Value} {nbuf10 : Nat} {sluf10 : Array (Option Value)} {tkuf10 : Tok} {oduf11 : Option Addr} {ituf11 : Array Value} {nbuf11 : Nat} {sluf11 : Array (Option Value)} {tkuf11 : Tok} {odui1 : Option Addr} {itui1 : Array Value} {nbui1 : Nat} {slui1 : Array (Option Value)} {odui2 : Option Addr} {itui2 : Array Value} {nbui2 : Nat} {slui2 : Array (Option Value)} {odui3 : Option Addr} {itui3 : Array Value} {nbui3 : Nat} {slui3 : Array (Option Value)} {odui4 : Option Addr} {itui4 : Array Value} {nbui4 : Nat} {slui4 : Array (Option Value)} {odui5 : Option Addr} {itui5 : Array Value} {nbui5 : Nat} {slui5 : Array (Option Value)} {odui6 : Option Addr} {itui6 : Array Value} {nbui6 : Nat} {slui6 : Array (Option Value)} {odui7 : Option Addr} {itui7 : Array Value} {nbui7 : Nat} {slui7 : Array (Option Value)} {odui8 : Option Addr} {itui8 : Array Value} {nbui8 : Nat} {slui8 : Array (Option Value)} {odui9 : Option Addr} {itui9 : Array Value} {nbui9 : Nat} {slui9 : Array (Option Value)} {odui10 : Option Addr} {itui10 : Array Value} {nbui10 : Nat} {slui10 : Array (Option Value)} {odui11 : Option Addr} {itui11 : Array Value} {nbui11 : Nat} {slui11 : Array (Option Value)} {odui12 : Option Addr} {itui12 : Array Value} {nbui12 : Nat} {slui12 : Array (Option Value)} {odvN : Option Addr} {itvN : Array Value} {nbvN : Nat} {slvN : Array (Option Value)} {odB : Option Addr} {itsB : Array Value} {nB : Nat} {slB : Array (Option Value)} {odmw1 : Option Addr} {itmw1 : Array Value} {nbmw1 : Nat} {slmw1 : Array (Option Value)} {odmw2 : Option Addr} {itmw2 : Array Value} {nbmw2 : Nat} {slmw2 : Array (Option Value)} {odmw3 : Option Addr} {itmw3 : Array Value} {nbmw3 : Nat} {slmw3 : Array (Option Value)} {odmw4 : Option Addr} {itmw4 : Array Value} {nbmw4 : Nat} {slmw4 : Array (Option Value)} {odmw5 : Option Addr} {itmw5 : Array Value} {nbmw5 : Nat} {slmw5 : Array (Option Value)} {tkS tkO tkC tkD tkT tkG tkW : Tok}
    (a1 : PySem.W.nsIn K mainGlobals "check_fields" = some (some (.ref f1))) (l1 : K.lookup f1 = some ⟨oc1, od1, .func (PySem.W.fnOf "check_fields" "check_fields" (defArgs s_check_fields) (defBody s_check_fields) (defScope s_check_fields) .none kV1 dc1 pm1 an1 cd1 ct1), sl1⟩) (c1 : PySem.W.codeIn K cd1 "check_fields" = true) (k1 : PySem.W.keepIn K (.ref f1) = true)
    (a2 : PySem.W.nsIn K mainGlobals "_check_clamp" = some (some (.ref f2))) (l2 : K.lookup f2 = some ⟨oc2, od2, .func (PySem.W.fnOf "_check_clamp" "_check_clamp" (defArgs s_check_clamp) (defBody s_check_clamp) (defScope s_check_clamp) .none kV2 dc2 pm2 an2 cd2 ct2), sl2⟩) (c2 : PySem.W.codeIn K cd2 "_check_clamp" = true) (k2 : PySem.W.keepIn K (.ref f2) = true)
    (a3 : PySem.W.nsIn K mainGlobals "check_machine" = some (some (.ref f3))) (l3 : K.lookup f3 = some ⟨oc3, od3, .func (PySem.W.fnOf "check_machine" "check_machine" (defArgs scheck_machine) (defBody scheck_machine) (defScope scheck_machine) .none kV3 dc3 pm3 an3 cd3 ct3), sl3⟩) (c3 : PySem.W.codeIn K cd3 "check_machine" = true) (k3 : PySem.W.keepIn K (.ref f3) = true)
    (a4 : PySem.W.nsIn K mainGlobals "word_bounds" = some (some (.ref f4))) (l4 : K.lookup f4 = some ⟨oc4, od4, .func (PySem.W.fnOf "word_bounds" "word_bounds" (defArgs sword_bounds) (defBody sword_bounds) (defScope sword_bounds) .none kV4 dc4 pm4 an4 cd4 ct4), sl4⟩) (c4 : PySem.W.codeIn K cd4 "word_bounds" = true) (k4 : PySem.W.keepIn K (.ref f4) = true)
    (a5 : PySem.W.nsIn K mainGlobals "check_code" = some (some (.ref f5))) (l5 : K.lookup f5 = some ⟨oc5, od5, .func (PySem.W.fnOf "check_code" "check_code" (defArgs scheck_code) (defBody scheck_code) (defScope scheck_code) .none kV5 dc5 pm5 an5 cd5 ct5), sl5⟩) (c5 : PySem.W.codeIn K cd5 "check_code" = true) (k5 : PySem.W.keepIn K (.ref f5) = true)
    (a6 : PySem.W.nsIn K mainGlobals "_check_form" = some (some (.ref f6))) (l6 : K.lookup f6 = some ⟨oc6, od6, .func (PySem.W.fnOf "_check_form" "_check_form" (defArgs s_check_form) (defBody s_check_form) (defScope s_check_form) .none kV6 dc6 pm6 an6 cd6 ct6), sl6⟩) (c6 : PySem.W.codeIn K cd6 "_check_form" = true) (k6 : PySem.W.keepIn K (.ref f6) = true)
    (a7 : PySem.W.nsIn K mainGlobals "_is_of_its_kind" = some (some (.ref f7))) (l7 : K.lookup f7 = some ⟨oc7, od7, .func (PySem.W.fnOf "_is_of_its_kind" "_is_of_its_kind" (defArgs s_is_of_its_kind) (defBody s_is_of_its_kind) (defScope s_is_of_its_kind) .none kV7 dc7 pm7 an7 cd7 ct7), sl7⟩) (c7 : PySem.W.codeIn K cd7 "_is_of_its_kind" = true) (k7 : PySem.W.keepIn K (.ref f7) = true)
    (a8 : PySem.W.nsIn K mainGlobals "_check_counts" = some (some (.ref f8))) (l8 : K.lookup f8 = some ⟨oc8, od8, .func (PySem.W.fnOf "_check_counts" "_check_counts" (defArgs s_check_counts) (defBody s_check_counts) (defScope s_check_counts) .none kV8 dc8 pm8 an8 cd8 ct8), sl8⟩) (c8 : PySem.W.codeIn K cd8 "_check_counts" = true) (k8 : PySem.W.keepIn K (.ref f8) = true)
    (a9 : PySem.W.nsIn K mainGlobals "_loops_behind" = some (some (.ref f9))) (l9 : K.lookup f9 = some ⟨oc9, od9, .func (PySem.W.fnOf "_loops_behind" "_loops_behind" (defArgs s_loops_behind) (defBody s_loops_behind) (defScope s_loops_behind) .none kV9 dc9 pm9 an9 cd9 ct9), sl9⟩) (c9 : PySem.W.codeIn K cd9 "_loops_behind" = true) (k9 : PySem.W.keepIn K (.ref f9) = true)
    (a10 : PySem.W.nsIn K mainGlobals "_check_skips" = some (some (.ref f10))) (l10 : K.lookup f10 = some ⟨oc10, od10, .func (PySem.W.fnOf "_check_skips" "_check_skips" (defArgs s_check_skips) (defBody s_check_skips) (defScope s_check_skips) .none kV10 dc10 pm10 an10 cd10 ct10), sl10⟩) (c10 : PySem.W.codeIn K cd10 "_check_skips" = true) (k10 : PySem.W.keepIn K (.ref f10) = true)
    (a11 : PySem.W.nsIn K mainGlobals "_bounds" = some (some (.ref f11))) (l11 : K.lookup f11 = some ⟨oc11, od11, .func (PySem.W.fnOf "_bounds" "_bounds" (defArgs s_bounds) (defBody s_bounds) (defScope s_bounds) .none kV11 dc11 pm11 an11 cd11 ct11), sl11⟩) (c11 : PySem.W.codeIn K cd11 "_bounds" = true) (k11 : PySem.W.keepIn K (.ref f11) = true)
    (a12 : PySem.W.nsIn K mainGlobals "_check_ranges" = some (some (.ref f12))) (l12 : K.lookup f12 = some ⟨oc12, od12, .func (PySem.W.fnOf "_check_ranges" "_check_ranges" (defArgs s_check_ranges) (defBody s_check_ranges) (defScope s_check_ranges) .none kV12 dc12 pm12 an12 cd12 ct12), sl12⟩) (c12 : PySem.W.codeIn K cd12 "_check_ranges" = true) (k12 : PySem.W.keepIn K (.ref f12) = true)
    (a13 : PySem.W.nsIn K mainGlobals "_check_range" = some (some (.ref f13))) (l13 : K.lookup f13 = some ⟨oc13, od13, .func (PySem.W.fnOf "_check_range" "_check_range" (defArgs s_check_range) (defBody s_check_range) (defScope s_check_range) .none kV13 dc13 pm13 an13 cd13 ct13), sl13⟩) (c13 : PySem.W.codeIn K cd13 "_check_range" = true) (k13 : PySem.W.keepIn K (.ref f13) = true)
    (a14 : PySem.W.nsIn K mainGlobals "_check_number" = some (some (.ref f14))) (l14 : K.lookup f14 = some ⟨oc14, od14, .func (PySem.W.fnOf "_check_number" "_check_number" (defArgs s_check_number) (defBody s_check_number) (defScope s_check_number) .none kV14 dc14 pm14 an14 cd14 ct14), sl14⟩) (c14 : PySem.W.codeIn K cd14 "_check_number" = true) (k14 : PySem.W.keepIn K (.ref f14) = true)
    (a15 : PySem.W.nsIn K mainGlobals "_check_loops" = some (some (.ref f15))) (l15 : K.lookup f15 = some ⟨oc15, od15, .func (PySem.W.fnOf "_check_loops" "_check_loops" (defArgs s_check_loops) (defBody s_check_loops) (defScope s_check_loops) .none kV15 dc15 pm15 an15 cd15 ct15), sl15⟩) (c15 : PySem.W.codeIn K cd15 "_check_loops" = true) (k15 : PySem.W.keepIn K (.ref f15) = true)
    (a16 : PySem.W.nsIn K mainGlobals "read_integer" = some (some (.ref f16))) (l16 : K.lookup f16 = some ⟨oc16, od16, .func (PySem.W.fnOf "read_integer" "read_integer" (defArgs sread_integer) (defBody sread_integer) (defScope sread_integer) .none kV16 dc16 pm16 an16 cd16 ct16), sl16⟩) (c16 : PySem.W.codeIn K cd16 "read_integer" = true) (k16 : PySem.W.keepIn K (.ref f16) = true)
    (a17 : PySem.W.nsIn K mainGlobals "write_code" = some (some (.ref f17))) (l17 : K.lookup f17 = some ⟨oc17, od17, .func (PySem.W.fnOf "write_code" "write_code" (defArgs swrite_code) (defBody swrite_code) (defScope swrite_code) .none kV17 dc17 pm17 an17 cd17 ct17), sl17⟩) (c17 : PySem.W.codeIn K cd17 "write_code" = true) (k17 : PySem.W.keepIn K (.ref f17) = true)
    (a18 : PySem.W.nsIn K mainGlobals "read_code" = some (some (.ref f18))) (l18 : K.lookup f18 = some ⟨oc18, od18, .func (PySem.W.fnOf "read_code" "read_code" (defArgs sread_code) (defBody sread_code) (defScope sread_code) .none kV18 dc18 pm18 an18 cd18 ct18), sl18⟩) (c18 : PySem.W.codeIn K cd18 "read_code" = true) (k18 : PySem.W.keepIn K (.ref f18) = true)
    (a19 : PySem.W.nsIn K mainGlobals "_line" = some (some (.ref f19))) (l19 : K.lookup f19 = some ⟨oc19, od19, .func (PySem.W.fnOf "_line" "_line" (defArgs s_line) (defBody s_line) (defScope s_line) .none kV19 dc19 pm19 an19 cd19 ct19), sl19⟩) (c19 : PySem.W.codeIn K cd19 "_line" = true) (k19 : PySem.W.keepIn K (.ref f19) = true)
    (a20 : PySem.W.nsIn K mainGlobals "_read_line" = some (some (.ref f20))) (l20 : K.lookup f20 = some ⟨oc20, od20, .func (PySem.W.fnOf "_read_line" "_read_line" (defArgs s_read_line) (defBody s_read_line) (defScope s_read_line) .none kV20 dc20 pm20 an20 cd20 ct20), sl20⟩) (c20 : PySem.W.codeIn K cd20 "_read_line" = true) (k20 : PySem.W.keepIn K (.ref f20) = true)
    (a21 : PySem.W.nsIn K mainGlobals "_read_field" = some (some (.ref f21))) (l21 : K.lookup f21 = some ⟨oc21, od21, .func (PySem.W.fnOf "_read_field" "_read_field" (defArgs s_read_field) (defBody s_read_field) (defScope s_read_field) .none kV21 dc21 pm21 an21 cd21 ct21), sl21⟩) (c21 : PySem.W.codeIn K cd21 "_read_field" = true) (k21 : PySem.W.keepIn K (.ref f21) = true)
    (a22 : PySem.W.nsIn K mainGlobals "_law_begin" = some (some (.ref f22))) (l22 : K.lookup f22 = some ⟨oc22, od22, .func (PySem.W.fnOf "_law_begin" "_law_begin" (defArgs sBegin) (defBody sBegin) (defScope sBegin) .none kV22 dc22 pm22 an22 cd22 ct22), sl22⟩) (c22 : PySem.W.codeIn K cd22 "_law_begin" = true) (k22 : PySem.W.keepIn K (.ref f22) = true)
    (a23 : PySem.W.nsIn K mainGlobals "_law_take" = some (some (.ref f23))) (l23 : K.lookup f23 = some ⟨oc23, od23, .func (PySem.W.fnOf "_law_take" "_law_take" (defArgs sTake) (defBody sTake) (defScope sTake) .none kV23 dc23 pm23 an23 cd23 ct23), sl23⟩) (c23 : PySem.W.codeIn K cd23 "_law_take" = true) (k23 : PySem.W.keepIn K (.ref f23) = true)
    (a24 : PySem.W.nsIn K mainGlobals "_law_signed" = some (some (.ref f24))) (l24 : K.lookup f24 = some ⟨oc24, od24, .func (PySem.W.fnOf "_law_signed" "_law_signed" (defArgs sSigned) (defBody sSigned) (defScope sSigned) .none kV24 dc24 pm24 an24 cd24 ct24), sl24⟩) (c24 : PySem.W.codeIn K cd24 "_law_signed" = true) (k24 : PySem.W.keepIn K (.ref f24) = true)
    (a25 : PySem.W.nsIn K mainGlobals "_law_machine" = some (some (.ref f25))) (l25 : K.lookup f25 = some ⟨oc25, od25, .func (PySem.W.fnOf "_law_machine" "_law_machine" (defArgs s_law_machine) (defBody s_law_machine) (defScope s_law_machine) .none kV25 dc25 pm25 an25 cd25 ct25), sl25⟩) (c25 : PySem.W.codeIn K cd25 "_law_machine" = true) (k25 : PySem.W.keepIn K (.ref f25) = true)
    (a26 : PySem.W.nsIn K mainGlobals "_law_info_of" = some (some (.ref f26))) (l26 : K.lookup f26 = some ⟨oc26, od26, .func (PySem.W.fnOf "_law_info_of" "_law_info_of" (defArgs s_law_info_of) (defBody s_law_info_of) (defScope s_law_info_of) .none kV26 dc26 pm26 an26 cd26 ct26), sl26⟩) (c26 : PySem.W.codeIn K cd26 "_law_info_of" = true) (k26 : PySem.W.keepIn K (.ref f26) = true)
    (a27 : PySem.W.nsIn K mainGlobals "_law_do" = some (some (.ref f27))) (l27 : K.lookup f27 = some ⟨oc27, od27, .func (PySem.W.fnOf "_law_do" "_law_do" (defArgs s_law_do) (defBody s_law_do) (defScope s_law_do) .none kV27 dc27 pm27 an27 cd27 ct27), sl27⟩) (c27 : PySem.W.codeIn K cd27 "_law_do" = true) (k27 : PySem.W.keepIn K (.ref f27) = true)
    (a28 : PySem.W.nsIn K mainGlobals "_law_transfer" = some (some (.ref f28))) (l28 : K.lookup f28 = some ⟨oc28, od28, .func (PySem.W.fnOf "_law_transfer" "_law_transfer" (defArgs s_law_transfer) (defBody s_law_transfer) (defScope s_law_transfer) .none kV28 dc28 pm28 an28 cd28 ct28), sl28⟩) (c28 : PySem.W.codeIn K cd28 "_law_transfer" = true) (k28 : PySem.W.keepIn K (.ref f28) = true)
    (a29 : PySem.W.nsIn K mainGlobals "_law_instruction" = some (some (.ref f29))) (l29 : K.lookup f29 = some ⟨oc29, od29, .func (PySem.W.fnOf "_law_instruction" "_law_instruction" (defArgs s_law_instruction) (defBody s_law_instruction) (defScope s_law_instruction) .none kV29 dc29 pm29 an29 cd29 ct29), sl29⟩) (c29 : PySem.W.codeIn K cd29 "_law_instruction" = true) (k29 : PySem.W.keepIn K (.ref f29) = true)
    (a30 : PySem.W.nsIn K mainGlobals "_law_block" = some (some (.ref f30))) (l30 : K.lookup f30 = some ⟨oc30, od30, .func (PySem.W.fnOf "_law_block" "_law_block" (defArgs s_law_block) (defBody s_law_block) (defScope s_law_block) .none kV30 dc30 pm30 an30 cd30 ct30), sl30⟩) (c30 : PySem.W.codeIn K cd30 "_law_block" = true) (k30 : PySem.W.keepIn K (.ref f30) = true)
    (a31 : PySem.W.nsIn K mainGlobals "_law_line" = some (some (.ref f31))) (l31 : K.lookup f31 = some ⟨oc31, od31, .func (PySem.W.fnOf "_law_line" "_law_line" (defArgs s_law_line) (defBody s_law_line) (defScope s_law_line) .none kV31 dc31 pm31 an31 cd31 ct31), sl31⟩) (c31 : PySem.W.codeIn K cd31 "_law_line" = true) (k31 : PySem.W.keepIn K (.ref f31) = true)
    (a32 : PySem.W.nsIn K mainGlobals "_law_told" = some (some (.ref f32))) (l32 : K.lookup f32 = some ⟨oc32, od32, .func (PySem.W.fnOf "_law_told" "_law_told" (defArgs s_law_told) (defBody s_law_told) (defScope s_law_told) .none kV32 dc32 pm32 an32 cd32 ct32), sl32⟩) (c32 : PySem.W.codeIn K cd32 "_law_told" = true) (k32 : PySem.W.keepIn K (.ref f32) = true)
    (a33 : PySem.W.nsIn K mainGlobals "_law_bent" = some (some (.ref f33))) (l33 : K.lookup f33 = some ⟨oc33, od33, .func (PySem.W.fnOf "_law_bent" "_law_bent" (defArgs s_law_bent) (defBody s_law_bent) (defScope s_law_bent) .none kV33 dc33 pm33 an33 cd33 ct33), sl33⟩) (c33 : PySem.W.codeIn K cd33 "_law_bent" = true) (k33 : PySem.W.keepIn K (.ref f33) = true)
    (a34 : PySem.W.nsIn K mainGlobals "law" = some (some (.ref f34))) (l34 : K.lookup f34 = some ⟨oc34, od34, .func (PySem.W.fnOf "law" "law" (defArgs slaw) (defBody slaw) (defScope slaw) .none kV34 dc34 pm34 an34 cd34 ct34), sl34⟩) (c34 : PySem.W.codeIn K cd34 "law" = true) (k34 : PySem.W.keepIn K (.ref f34) = true)
    (aEz3 : PySem.W.nsIn K mainGlobals "RangeError" = some (some (.ref z3)))
    (kEz3 : PySem.W.keepIn K (.ref z3) = true)
    (bEz3 : PySem.W.subIn K (.ref z3) (.type "BaseException") = some true)
    (tEz3 : PySem.W.typeIn K (.ref z3) = some (.type "type"))
    (hEz3 : PySem.W.hasDictIn K z3 = true)
    (aEz4 : PySem.W.nsIn K mainGlobals "TooLarge" = some (some (.ref z4)))
    (kEz4 : PySem.W.keepIn K (.ref z4) = true)
    (bEz4 : PySem.W.subIn K (.ref z4) (.type "BaseException") = some true)
    (tEz4 : PySem.W.typeIn K (.ref z4) = some (.type "type"))
    (hEz4 : PySem.W.hasDictIn K z4 = true)
    (aEz6 : PySem.W.nsIn K mainGlobals "FormError" = some (some (.ref z6)))
    (kEz6 : PySem.W.keepIn K (.ref z6) = true)
    (bEz6 : PySem.W.subIn K (.ref z6) (.type "BaseException") = some true)
    (tEz6 : PySem.W.typeIn K (.ref z6) = some (.type "type"))
    (hEz6 : PySem.W.hasDictIn K z6 = true)
    (aEzT : PySem.W.nsIn K mainGlobals "TextError" = some (some (.ref zT)))
    (kEzT : PySem.W.keepIn K (.ref zT) = true)
    (bEzT : PySem.W.subIn K (.ref zT) (.type "BaseException") = some true)
    (tEzT : PySem.W.typeIn K (.ref zT) = some (.type "type"))
    (hEzT : PySem.W.hasDictIn K zT = true)
    (aEcT : PySem.W.nsIn K mainGlobals "TensorError" = some (some (.ref cT)))
    (kEcT : PySem.W.keepIn K (.ref cT) = true)
    (bEcT : PySem.W.subIn K (.ref cT) (.type "BaseException") = some true)
    (tEcT : PySem.W.typeIn K (.ref cT) = some (.type "type"))
    (hEcT : PySem.W.hasDictIn K cT = true)
    (xz3 : PySem.W.excIn K z3 valErr "ValueError.__new__" = true)
    (sTz3 : PySem.W.subIn K (.ref z3) (.ref cT) = some true)
    (i1z3 : PySem.W.findIn K (.ref z3) "__getattribute__" = some (some (.builtin "BaseException.__getattribute__")))
    (i2z3 : PySem.W.findIn K (.ref z3) "__getattr__" = some none)
    (i3z3 : PySem.W.findIn K (.ref z3) "__class__" = some (some (.builtin "object.__class__")))
    (i6z3 : PySem.W.mroIn K z3 (.type "object") = some true)
    (sz3z3 : PySem.W.subIn K (.ref z3) (.ref z3) = some true)
    (sz3z4 : PySem.W.subIn K (.ref z3) (.ref z4) = some false)
    (sz3z6 : PySem.W.subIn K (.ref z3) (.ref z6) = some false)
    (sz3zT : PySem.W.subIn K (.ref z3) (.ref zT) = some false)
    (xz4 : PySem.W.excIn K z4 valErr "ValueError.__new__" = true)
    (sTz4 : PySem.W.subIn K (.ref z4) (.ref cT) = some true)
    (i1z4 : PySem.W.findIn K (.ref z4) "__getattribute__" = some (some (.builtin "BaseException.__getattribute__")))
    (i2z4 : PySem.W.findIn K (.ref z4) "__getattr__" = some none)
    (i3z4 : PySem.W.findIn K (.ref z4) "__class__" = some (some (.builtin "object.__class__")))
    (i6z4 : PySem.W.mroIn K z4 (.type "object") = some true)
    (sz4z3 : PySem.W.subIn K (.ref z4) (.ref z3) = some false)
    (sz4z4 : PySem.W.subIn K (.ref z4) (.ref z4) = some true)
    (sz4z6 : PySem.W.subIn K (.ref z4) (.ref z6) = some false)
    (sz4zT : PySem.W.subIn K (.ref z4) (.ref zT) = some false)
    (xz6 : PySem.W.excIn K z6 valErr "ValueError.__new__" = true)
    (sTz6 : PySem.W.subIn K (.ref z6) (.ref cT) = some true)
    (i1z6 : PySem.W.findIn K (.ref z6) "__getattribute__" = some (some (.builtin "BaseException.__getattribute__")))
    (i2z6 : PySem.W.findIn K (.ref z6) "__getattr__" = some none)
    (i3z6 : PySem.W.findIn K (.ref z6) "__class__" = some (some (.builtin "object.__class__")))
    (i6z6 : PySem.W.mroIn K z6 (.type "object") = some true)
    (sz6z3 : PySem.W.subIn K (.ref z6) (.ref z3) = some false)
    (sz6z4 : PySem.W.subIn K (.ref z6) (.ref z4) = some false)
    (sz6z6 : PySem.W.subIn K (.ref z6) (.ref z6) = some true)
    (sz6zT : PySem.W.subIn K (.ref z6) (.ref zT) = some false)
    (xzT : PySem.W.excIn K zT valErr "ValueError.__new__" = true)
    (sTzT : PySem.W.subIn K (.ref zT) (.ref cT) = some true)
    (i1zT : PySem.W.findIn K (.ref zT) "__getattribute__" = some (some (.builtin "BaseException.__getattribute__")))
    (i2zT : PySem.W.findIn K (.ref zT) "__getattr__" = some none)
    (i3zT : PySem.W.findIn K (.ref zT) "__class__" = some (some (.builtin "object.__class__")))
    (i6zT : PySem.W.mroIn K zT (.type "object") = some true)
    (szTz3 : PySem.W.subIn K (.ref zT) (.ref z3) = some false)
    (szTz4 : PySem.W.subIn K (.ref zT) (.ref z4) = some false)
    (szTz6 : PySem.W.subIn K (.ref zT) (.ref z6) = some false)
    (szTzT : PySem.W.subIn K (.ref zT) (.ref zT) = some true)
    (i4 : PySem.W.specialIn K (.builtin "object.__class__") "__get__" = some (some (.builtin "getset_descriptor.__get__")))
    (i5 : PySem.W.takesIn K (.builtin "object.__class__") = some true)
    (acA : PySem.W.nsIn K mainGlobals "ARG_COUNTS" = some (some (.ref cA)))
    (lcA : K.lookup cA = some ⟨.type "dict", none, .dict escA ncA, #[]⟩)
    (qcA : PySem.W.KeysLit w.params escA.toList)
    (acF : PySem.W.nsIn K mainGlobals "FIELDS" = some (some (.ref cF)))
    (lcF : K.lookup cF = some ⟨.type "dict", none, .dict escF ncF, #[]⟩)
    (qcF : PySem.W.KeysLit w.params escF.toList)
    (acN : PySem.W.nsIn K mainGlobals "INSTRUCTION_FIELDS" = some (some (.ref cN)))
    (lcN : K.lookup cN = some ⟨.type "dict", none, .dict escN ncN, #[]⟩)
    (qcN : PySem.W.KeysLit w.params escN.toList)
    (acR : PySem.W.nsIn K mainGlobals "_FIELD_RANGES" = some (some (.ref cR)))
    (lcR : K.lookup cR = some ⟨.type "dict", none, .dict escR ncR, #[]⟩)
    (qcR : PySem.W.KeysLit w.params escR.toList)
    (ycN : (cN == sysModules) = false)
    (ycR : (cR == sysModules) = false)
    (oN : keysB escN INm = true)
    (aP : PySem.W.nsIn K mainGlobals "POINTWISE" = some (some (.ref cP)))
    (ltcP : K.lookup cP = some ⟨.type "tuple", odcP, .seq itcP nbcP, slcP⟩)
    (vtcP : Vals [.str "add", .str "sub", .str "mul", .str "max", .str "min", .str "less", .str "equal", .str "neg", .str "clamp", .str "shift", .str "where"] itcP.toList)
    (ztcP : itcP.size ≤ sizeLine)
    (qFuf1 : PySem.W.nsIn K cF "add" = some (some (.ref uf1)))
    (ltuf1 : K.lookup uf1 = some ⟨.type "tuple", oduf1, .seq ituf1 nbuf1, sluf1⟩)
    (vtuf1 : Vals [] ituf1.toList)
    (ztuf1 : ituf1.size ≤ sizeLine)
    (qAuf1 : PySem.W.nsIn K cA "add" = some (some (.int 2 tkuf1)))
    (qFuf2 : PySem.W.nsIn K cF "sub" = some (some (.ref uf2)))
    (ltuf2 : K.lookup uf2 = some ⟨.type "tuple", oduf2, .seq ituf2 nbuf2, sluf2⟩)
    (vtuf2 : Vals [] ituf2.toList)
    (ztuf2 : ituf2.size ≤ sizeLine)
    (qAuf2 : PySem.W.nsIn K cA "sub" = some (some (.int 2 tkuf2)))
    (qFuf3 : PySem.W.nsIn K cF "mul" = some (some (.ref uf3)))
    (ltuf3 : K.lookup uf3 = some ⟨.type "tuple", oduf3, .seq ituf3 nbuf3, sluf3⟩)
    (vtuf3 : Vals [] ituf3.toList)
    (ztuf3 : ituf3.size ≤ sizeLine)
    (qAuf3 : PySem.W.nsIn K cA "mul" = some (some (.int 2 tkuf3)))
    (qFuf4 : PySem.W.nsIn K cF "max" = some (some (.ref uf4)))
    (ltuf4 : K.lookup uf4 = some ⟨.type "tuple", oduf4, .seq ituf4 nbuf4, sluf4⟩)
    (vtuf4 : Vals [] ituf4.toList)
    (ztuf4 : ituf4.size ≤ sizeLine)
    (qAuf4 : PySem.W.nsIn K cA "max" = some (some (.int 2 tkuf4)))
    (qFuf5 : PySem.W.nsIn K cF "min" = some (some (.ref uf5)))
    (ltuf5 : K.lookup uf5 = some ⟨.type "tuple", oduf5, .seq ituf5 nbuf5, sluf5⟩)
    (vtuf5 : Vals [] ituf5.toList)
    (ztuf5 : ituf5.size ≤ sizeLine)
    (qAuf5 : PySem.W.nsIn K cA "min" = some (some (.int 2 tkuf5)))
    (qFuf6 : PySem.W.nsIn K cF "less" = some (some (.ref uf6)))
    (ltuf6 : K.lookup uf6 = some ⟨.type "tuple", oduf6, .seq ituf6 nbuf6, sluf6⟩)
    (vtuf6 : Vals [] ituf6.toList)
    (ztuf6 : ituf6.size ≤ sizeLine)
    (qAuf6 : PySem.W.nsIn K cA "less" = some (some (.int 2 tkuf6)))
    (qFuf7 : PySem.W.nsIn K cF "equal" = some (some (.ref uf7)))
    (ltuf7 : K.lookup uf7 = some ⟨.type "tuple", oduf7, .seq ituf7 nbuf7, sluf7⟩)
    (vtuf7 : Vals [] ituf7.toList)
    (ztuf7 : ituf7.size ≤ sizeLine)
    (qAuf7 : PySem.W.nsIn K cA "equal" = some (some (.int 2 tkuf7)))
    (qFuf8 : PySem.W.nsIn K cF "neg" = some (some (.ref uf8)))
    (ltuf8 : K.lookup uf8 = some ⟨.type "tuple", oduf8, .seq ituf8 nbuf8, sluf8⟩)
    (vtuf8 : Vals [] ituf8.toList)
    (ztuf8 : ituf8.size ≤ sizeLine)
    (qAuf8 : PySem.W.nsIn K cA "neg" = some (some (.int 1 tkuf8)))
    (qFuf9 : PySem.W.nsIn K cF "clamp" = some (some (.ref uf9)))
    (ltuf9 : K.lookup uf9 = some ⟨.type "tuple", oduf9, .seq ituf9 nbuf9, sluf9⟩)
    (vtuf9 : Vals [.str "low", .str "high"] ituf9.toList)
    (ztuf9 : ituf9.size ≤ sizeLine)
    (qAuf9 : PySem.W.nsIn K cA "clamp" = some (some (.int 1 tkuf9)))
    (qFuf10 : PySem.W.nsIn K cF "shift" = some (some (.ref uf10)))
    (ltuf10 : K.lookup uf10 = some ⟨.type "tuple", oduf10, .seq ituf10 nbuf10, sluf10⟩)
    (vtuf10 : Vals [.str "n"] ituf10.toList)
    (ztuf10 : ituf10.size ≤ sizeLine)
    (qAuf10 : PySem.W.nsIn K cA "shift" = some (some (.int 1 tkuf10)))
    (qFuf11 : PySem.W.nsIn K cF "where" = some (some (.ref uf11)))
    (ltuf11 : K.lookup uf11 = some ⟨.type "tuple", oduf11, .seq ituf11 nbuf11, sluf11⟩)
    (vtuf11 : Vals [] ituf11.toList)
    (ztuf11 : ituf11.size ≤ sizeLine)
    (qAuf11 : PySem.W.nsIn K cA "where" = some (some (.int 3 tkuf11)))
    (qNui1 : PySem.W.nsIn K cN "set" = some (some (.ref ui1)))
    (ltui1 : K.lookup ui1 = some ⟨.type "tuple", odui1, .seq itui1 nbui1, slui1⟩)
    (vtui1 : Vals [.str "slot", .str "word"] itui1.toList)
    (ztui1 : itui1.size ≤ sizeLine)
    (qNui2 : PySem.W.nsIn K cN "do" = some (some (.ref ui2)))
    (ltui2 : K.lookup ui2 = some ⟨.type "tuple", odui2, .seq itui2 nbui2, slui2⟩)
    (vtui2 : Vals [.str "kind", .str "slot", .str "sources", .str "info"] itui2.toList)
    (ztui2 : itui2.size ≤ sizeLine)
    (qNui3 : PySem.W.nsIn K cN "load" = some (some (.ref ui3)))
    (ltui3 : K.lookup ui3 = some ⟨.type "tuple", odui3, .seq itui3 nbui3, slui3⟩)
    (vtui3 : Vals [.str "slot", .str "slot", .str "offset"] itui3.toList)
    (ztui3 : itui3.size ≤ sizeLine)
    (qNui4 : PySem.W.nsIn K cN "store" = some (some (.ref ui4)))
    (ltui4 : K.lookup ui4 = some ⟨.type "tuple", odui4, .seq itui4 nbui4, slui4⟩)
    (vtui4 : Vals [.str "slot", .str "offset", .str "slot"] itui4.toList)
    (ztui4 : itui4.size ≤ sizeLine)
    (qNui5 : PySem.W.nsIn K cN "mac" = some (some (.ref ui5)))
    (ltui5 : K.lookup ui5 = some ⟨.type "tuple", odui5, .seq itui5 nbui5, slui5⟩)
    (vtui5 : Vals [.str "slot", .str "slot", .str "offset", .str "slot", .str "offset", .str "lanes"] itui5.toList)
    (ztui5 : itui5.size ≤ sizeLine)
    (qNui6 : PySem.W.nsIn K cN "vector" = some (some (.ref ui6)))
    (ltui6 : K.lookup ui6 = some ⟨.type "tuple", odui6, .seq itui6 nbui6, slui6⟩)
    (vtui6 : Vals [.str "kind", .str "slot", .str "slot", .str "slot", .str "lanes"] itui6.toList)
    (ztui6 : itui6.size ≤ sizeLine)
    (qNui7 : PySem.W.nsIn K cN "loop" = some (some (.ref ui7)))
    (ltui7 : K.lookup ui7 = some ⟨.type "tuple", odui7, .seq itui7 nbui7, slui7⟩)
    (vtui7 : Vals [.str "slot", .str "begin", .str "begin", .str "turns"] itui7.toList)
    (ztui7 : itui7.size ≤ sizeLine)
    (qNui8 : PySem.W.nsIn K cN "end" = some (some (.ref ui8)))
    (ltui8 : K.lookup ui8 = some ⟨.type "tuple", odui8, .seq itui8 nbui8, slui8⟩)
    (vtui8 : Vals [] itui8.toList)
    (ztui8 : itui8.size ≤ sizeLine)
    (qNui9 : PySem.W.nsIn K cN "skip" = some (some (.ref ui9)))
    (ltui9 : K.lookup ui9 = some ⟨.type "tuple", odui9, .seq itui9 nbui9, slui9⟩)
    (vtui9 : Vals [.str "slot", .str "skipped"] itui9.toList)
    (ztui9 : itui9.size ≤ sizeLine)
    (qNui10 : PySem.W.nsIn K cN "in" = some (some (.ref ui10)))
    (ltui10 : K.lookup ui10 = some ⟨.type "tuple", odui10, .seq itui10 nbui10, slui10⟩)
    (vtui10 : Vals [.str "queue", .str "slot", .str "offset", .str "slot", .str "offset", .str "count"] itui10.toList)
    (ztui10 : itui10.size ≤ sizeLine)
    (qNui11 : PySem.W.nsIn K cN "out" = some (some (.ref ui11)))
    (ltui11 : K.lookup ui11 = some ⟨.type "tuple", odui11, .seq itui11 nbui11, slui11⟩)
    (vtui11 : Vals [.str "queue", .str "slot", .str "offset", .str "slot", .str "offset", .str "count"] itui11.toList)
    (ztui11 : itui11.size ≤ sizeLine)
    (qNui12 : PySem.W.nsIn K cN "wait" = some (some (.ref ui12)))
    (ltui12 : K.lookup ui12 = some ⟨.type "tuple", odui12, .seq itui12 nbui12, slui12⟩)
    (vtui12 : Vals [.str "queue"] itui12.toList)
    (ztui12 : itui12.size ≤ sizeLine)
    (rLow : PySem.W.nsIn K cR "low" = some none)
    (rHigh : PySem.W.nsIn K cR "high" = some none)
    (rN : PySem.W.nsIn K cR "n" = some (some (.ref vN)))
    (ltvN : K.lookup vN = some ⟨.type "tuple", odvN, .seq itvN nbvN, slvN⟩)
    (vtvN : Vals [.int 1, .int 30] itvN.toList)
    (ztvN : itvN.size ≤ sizeLine)
    (aB : PySem.W.nsIn K mainGlobals "_BOUNDS" = some (some (.ref mB)))
    (lB : K.lookup mB = some ⟨.type "tuple", odB, .seq itsB nB, slB⟩)
    (vB : Vals ([mw1, mw2, mw3, mw4, mw5].map V.ref) itsB.toList)
    (zB : itsB.size ≤ sizeLine)
    (ltmw1 : K.lookup mw1 = some ⟨.type "tuple", odmw1, .seq itmw1 nbmw1, slmw1⟩)
    (vtmw1 : Vals [.str "width", .int 32, .int 256] itmw1.toList)
    (ztmw1 : itmw1.size ≤ sizeLine)
    (ltmw2 : K.lookup mw2 = some ⟨.type "tuple", odmw2, .seq itmw2 nbmw2, slmw2⟩)
    (vtmw2 : Vals [.str "main", .int 1, .int 16384] itmw2.toList)
    (ztmw2 : itmw2.size ≤ sizeLine)
    (ltmw3 : K.lookup mw3 = some ⟨.type "tuple", odmw3, .seq itmw3 nbmw3, slmw3⟩)
    (vtmw3 : Vals [.str "near", .int 16, .int 4096] itmw3.toList)
    (ztmw3 : itmw3.size ≤ sizeLine)
    (ltmw4 : K.lookup mw4 = some ⟨.type "tuple", odmw4, .seq itmw4 nbmw4, slmw4⟩)
    (vtmw4 : Vals [.str "queues", .int 1, .int 4] itmw4.toList)
    (ztmw4 : itmw4.size ≤ sizeLine)
    (ltmw5 : K.lookup mw5 = some ⟨.type "tuple", odmw5, .seq itmw5 nbmw5, slmw5⟩)
    (vtmw5 : Vals [.str "lanes", .int 1, .int 16] itmw5.toList)
    (ztmw5 : itmw5.size ≤ sizeLine)
    (etkS : PySem.W.nsIn K mainGlobals "SLOTS" = some (some (.int 32 tkS)))
    (etkO : PySem.W.nsIn K mainGlobals "OFFSET_LIMIT" = some (some (.int 16384 tkO)))
    (etkC : PySem.W.nsIn K mainGlobals "_CODE_LIMIT" = some (some (.int 4000000 tkC)))
    (etkD : PySem.W.nsIn K mainGlobals "_DEPTH_LIMIT" = some (some (.int 16 tkD)))
    (etkT : PySem.W.nsIn K mainGlobals "_STEP_LIMIT" = some (some (.int 1000000000 tkT)))
    (etkG : PySem.W.nsIn K mainGlobals "_DIGITS_LIMIT" = some (some (.int 90 tkG)))
    (etkW : PySem.W.nsIn K mainGlobals "WIDTH_LIMIT" = some (some (.int 200 tkW)))
    (z_int : PySem.W.nsIn K mainGlobals "int" = some none)
    (z_abs : PySem.W.nsIn K mainGlobals "abs" = some none)
    (z_len : PySem.W.nsIn K mainGlobals "len" = some none)
    (z_list : PySem.W.nsIn K mainGlobals "list" = some none)
    (z_tuple : PySem.W.nsIn K mainGlobals "tuple" = some none)
    (z_zip : PySem.W.nsIn K mainGlobals "zip" = some none)
    (z_range : PySem.W.nsIn K mainGlobals "range" = some none)
    (z_str : PySem.W.nsIn K mainGlobals "str" = some none)
    (z_isinstance : PySem.W.nsIn K mainGlobals "isinstance" = some none)
    (z_all : PySem.W.nsIn K mainGlobals "all" = some none)
    (z_enumerate : PySem.W.nsIn K mainGlobals "enumerate" = some none)
    (z_max : PySem.W.nsIn K mainGlobals "max" = some none)
    : ∃ fd : FuncData, (∀ (s : Shared) (v : Value), BindsTo s fd ⟨[v], []⟩ [("script", v)]) ∧ ∀ base : Heap, K.In base → base.Ns mainGlobals mg → FnOk l.prog w K mg base CX0 10 fa fd ["script"] (spLaw K) := by
  have e := hfa.symm.trans (PySem.W.mg_of X G a34)
  cases e
  have F1 := fun_mk (st := s_check_fields) l1 c1 k1
  have m1 := PySem.W.mg_of X G a1
  have b1 := F1.binds (ps := ["kind", "info"]) fun _ _ _ _ _ _ us hl => match us, hl with | [_, _], _ => rfl
  have F2 := fun_mk (st := s_check_clamp) l2 c2 k2
  have m2 := PySem.W.mg_of X G a2
  have b2 := F2.binds (ps := ["low", "high"]) fun _ _ _ _ _ _ us hl => match us, hl with | [_, _], _ => rfl
  have F3 := fun_mk (st := scheck_machine) l3 c3 k3
  have m3 := PySem.W.mg_of X G a3
  have b3 := F3.binds (ps := ["machine"]) fun _ _ _ _ _ _ us hl => match us, hl with | [_], _ => rfl
  have F4 := fun_mk (st := sword_bounds) l4 c4 k4
  have m4 := PySem.W.mg_of X G a4
  have b4 := F4.binds (ps := ["machine"]) fun _ _ _ _ _ _ us hl => match us, hl with | [_], _ => rfl
  have F5 := fun_mk (st := scheck_code) l5 c5 k5
  have m5 := PySem.W.mg_of X G a5
  have b5 := F5.binds (ps := ["machine", "code"]) fun _ _ _ _ _ _ us hl => match us, hl with | [_, _], _ => rfl
  have F6 := fun_mk (st := s_check_form) l6 c6 k6
  have m6 := PySem.W.mg_of X G a6
  have b6 := F6.binds (ps := ["instruction"]) fun _ _ _ _ _ _ us hl => match us, hl with | [_], _ => rfl
  have F7 := fun_mk (st := s_is_of_its_kind) l7 c7 k7
  have m7 := PySem.W.mg_of X G a7
  have b7 := F7.binds (ps := ["field", "value"]) fun _ _ _ _ _ _ us hl => match us, hl with | [_, _], _ => rfl
  have F8 := fun_mk (st := s_check_counts) l8 c8 k8
  have m8 := PySem.W.mg_of X G a8
  have b8 := F8.binds (ps := ["instruction"]) fun _ _ _ _ _ _ us hl => match us, hl with | [_], _ => rfl
  have F9 := fun_mk (st := s_loops_behind) l9 c9 k9
  have m9 := PySem.W.mg_of X G a9
  have b9 := F9.binds (ps := ["code"]) fun _ _ _ _ _ _ us hl => match us, hl with | [_], _ => rfl
  have F10 := fun_mk (st := s_check_skips) l10 c10 k10
  have m10 := PySem.W.mg_of X G a10
  have b10 := F10.binds (ps := ["code", "behind"]) fun _ _ _ _ _ _ us hl => match us, hl with | [_, _], _ => rfl
  have F11 := fun_mk (st := s_bounds) l11 c11 k11
  have m11 := PySem.W.mg_of X G a11
  have b11 := F11.binds (ps := ["machine"]) fun _ _ _ _ _ _ us hl => match us, hl with | [_], _ => rfl
  have F12 := fun_mk (st := s_check_ranges) l12 c12 k12
  have m12 := PySem.W.mg_of X G a12
  have b12 := F12.binds (ps := ["machine", "code"]) fun _ _ _ _ _ _ us hl => match us, hl with | [_, _], _ => rfl
  have F13 := fun_mk (st := s_check_range) l13 c13 k13
  have m13 := PySem.W.mg_of X G a13
  have b13 := F13.binds (ps := ["instruction", "bounds"]) fun _ _ _ _ _ _ us hl => match us, hl with | [_, _], _ => rfl
  have F14 := fun_mk (st := s_check_number) l14 c14 k14
  have m14 := PySem.W.mg_of X G a14
  have b14 := F14.binds (ps := ["n", "bounds"]) fun _ _ _ _ _ _ us hl => match us, hl with | [_, _], _ => rfl
  have F15 := fun_mk (st := s_check_loops) l15 c15 k15
  have m15 := PySem.W.mg_of X G a15
  have b15 := F15.binds (ps := ["code"]) fun _ _ _ _ _ _ us hl => match us, hl with | [_], _ => rfl
  have F16 := fun_mk (st := sread_integer) l16 c16 k16
  have m16 := PySem.W.mg_of X G a16
  have b16 := F16.binds (ps := ["text", "most"]) fun _ _ _ _ _ _ us hl => match us, hl with | [_, _], _ => rfl
  have F17 := fun_mk (st := swrite_code) l17 c17 k17
  have m17 := PySem.W.mg_of X G a17
  have b17 := F17.binds (ps := ["machine", "code"]) fun _ _ _ _ _ _ us hl => match us, hl with | [_, _], _ => rfl
  have F18 := fun_mk (st := sread_code) l18 c18 k18
  have m18 := PySem.W.mg_of X G a18
  have b18 := F18.binds (ps := ["machine", "text"]) fun _ _ _ _ _ _ us hl => match us, hl with | [_, _], _ => rfl
  have F19 := fun_mk (st := s_line) l19 c19 k19
  have m19 := PySem.W.mg_of X G a19
  have b19 := F19.binds (ps := ["instruction"]) fun _ _ _ _ _ _ us hl => match us, hl with | [_], _ => rfl
  have F20 := fun_mk (st := s_read_line) l20 c20 k20
  have m20 := PySem.W.mg_of X G a20
  have b20 := F20.binds (ps := ["line"]) fun _ _ _ _ _ _ us hl => match us, hl with | [_], _ => rfl
  have F21 := fun_mk (st := s_read_field) l21 c21 k21
  have m21 := PySem.W.mg_of X G a21
  have b21 := F21.binds (ps := ["field", "words", "at"]) fun _ _ _ _ _ _ us hl => match us, hl with | [_, _, _], _ => rfl
  have F22 := fun_mk (st := sBegin) l22 c22 k22
  have m22 := PySem.W.mg_of X G a22
  have b22 := F22.binds (ps := ["script"]) fun _ _ _ _ _ _ us hl => match us, hl with | [_], _ => rfl
  have F23 := fun_mk (st := sTake) l23 c23 k23
  have m23 := PySem.W.mg_of X G a23
  have b23 := F23.binds (ps := ["d", "many"]) fun _ _ _ _ _ _ us hl => match us, hl with | [_, _], _ => rfl
  have F24 := fun_mk (st := sSigned) l24 c24 k24
  have m24 := PySem.W.mg_of X G a24
  have b24 := F24.binds (ps := ["d", "most"]) fun _ _ _ _ _ _ us hl => match us, hl with | [_, _], _ => rfl
  have F25 := fun_mk (st := s_law_machine) l25 c25 k25
  have m25 := PySem.W.mg_of X G a25
  have b25 := F25.binds (ps := ["d"]) fun _ _ _ _ _ _ us hl => match us, hl with | [_], _ => rfl
  have F26 := fun_mk (st := s_law_info_of) l26 c26 k26
  have m26 := PySem.W.mg_of X G a26
  have b26 := F26.binds (ps := ["d", "kind"]) fun _ _ _ _ _ _ us hl => match us, hl with | [_, _], _ => rfl
  have F27 := fun_mk (st := s_law_do) l27 c27 k27
  have m27 := PySem.W.mg_of X G a27
  have b27 := F27.binds (ps := ["d", "most"]) fun _ _ _ _ _ _ us hl => match us, hl with | [_, _], _ => rfl
  have F28 := fun_mk (st := s_law_transfer) l28 c28 k28
  have m28 := PySem.W.mg_of X G a28
  have b28 := F28.binds (ps := ["d", "machine"]) fun _ _ _ _ _ _ us hl => match us, hl with | [_, _], _ => rfl
  have F29 := fun_mk (st := s_law_instruction) l29 c29 k29
  have m29 := PySem.W.mg_of X G a29
  have b29 := F29.binds (ps := ["d", "machine"]) fun _ _ _ _ _ _ us hl => match us, hl with | [_, _], _ => rfl
  have F30 := fun_mk (st := s_law_block) l30 c30 k30
  have m30 := PySem.W.mg_of X G a30
  have b30 := F30.binds (ps := ["d", "machine", "depth", "many"]) fun _ _ _ _ _ _ us hl => match us, hl with | [_, _, _, _], _ => rfl
  have F31 := fun_mk (st := s_law_line) l31 c31 k31
  have m31 := PySem.W.mg_of X G a31
  have b31 := F31.binds (ps := ["ins"]) fun _ _ _ _ _ _ us hl => match us, hl with | [_], _ => rfl
  have F32 := fun_mk (st := s_law_told) l32 c32 k32
  have m32 := PySem.W.mg_of X G a32
  have b32 := F32.binds (ps := ["machine", "text"]) fun _ _ _ _ _ _ us hl => match us, hl with | [_, _], _ => rfl
  have F33 := fun_mk (st := s_law_bent) l33 c33 k33
  have m33 := PySem.W.mg_of X G a33
  have b33 := F33.binds (ps := ["d", "text"]) fun _ _ _ _ _ _ us hl => match us, hl with | [_, _], _ => rfl
  have F34 := fun_mk (st := slaw) l34 c34 k34
  have m34 := PySem.W.mg_of X G a34
  have n_int := PySem.W.mg_none_of X G z_int
  have n_abs := PySem.W.mg_none_of X G z_abs
  have n_len := PySem.W.mg_none_of X G z_len
  have n_list := PySem.W.mg_none_of X G z_list
  have n_tuple := PySem.W.mg_none_of X G z_tuple
  have n_zip := PySem.W.mg_none_of X G z_zip
  have n_range := PySem.W.mg_none_of X G z_range
  have n_str := PySem.W.mg_none_of X G z_str
  have n_isinstance := PySem.W.mg_none_of X G z_isinstance
  have n_all := PySem.W.mg_none_of X G z_all
  have n_enumerate := PySem.W.mg_none_of X G z_enumerate
  have n_max := PySem.W.mg_none_of X G z_max
  have TD : TxtD mg := ⟨n_int, n_abs, n_len, n_list⟩
  have T : TxtT mg := ⟨n_len, n_tuple, n_zip, n_range, n_str, n_int, n_list, n_isinstance, n_all, n_enumerate, n_max⟩
  have R3 : ErrR K mg "RangeError" ((CC47 z3 z4 z6) 3) := ⟨PySem.W.mg_of X G aEz3, xz3, kEz3, bEz3, tEz3⟩
  have R4 : ErrR K mg "TooLarge" ((CC47 z3 z4 z6) 4) := ⟨PySem.W.mg_of X G aEz4, xz4, kEz4, bEz4, tEz4⟩
  have R6 : ErrR K mg "FormError" ((CC47 z3 z4 z6) 6) := ⟨PySem.W.mg_of X G aEz6, xz6, kEz6, bEz6, tEz6⟩
  have RT : ErrR K mg "TextError" zT := ⟨PySem.W.mg_of X G aEzT, xzT, kEzT, bEzT, tEzT⟩
  have ET : Er47 K mg (CC47 z3 z4 z6) zT cT := ⟨⟨PySem.W.mg_of X G aEcT, bEcT, hEcT, tEcT⟩, n_isinstance, PySem.W.mg_of X G aEzT, sTzT, ⟨i1zT, i2zT, bEzT, hEzT, i3zT, i4, i5, i6zT⟩, kit_rr szTzT szTzT hEzT tEzT, sTz3, sTz4, sTz6, ⟨i1z3, i2z3, bEz3, hEz3, i3z3, i4, i5, i6z3⟩, ⟨i1z4, i2z4, bEz4, hEz4, i3z4, i4, i5, i6z4⟩, ⟨i1z6, i2z6, bEz6, hEz6, i3z6, i4, i5, i6z6⟩, kit_rr sz3zT sz3z3 hEzT tEzT, kit_rr sz4zT sz4z4 hEzT tEzT, kit_rr sz6zT sz6z6 hEzT tEzT⟩
  have MT : MchT K mg mB [mw1, mw2, mw3, mw4, mw5] := ⟨PySem.W.mg_of X G aB, fun H => .inr ⟨_, itsB, nB, lB, rfl, rfl, zB, vB⟩, rfl, fun i b r h1 h2 H => by
    match i with
    | 0 => cases h1; cases h2; exact (fun H => .inr ⟨_, itmw1, nbmw1, ltmw1, rfl, rfl, ztmw1, vtmw1⟩) H
    | 1 => cases h1; cases h2; exact (fun H => .inr ⟨_, itmw2, nbmw2, ltmw2, rfl, rfl, ztmw2, vtmw2⟩) H
    | 2 => cases h1; cases h2; exact (fun H => .inr ⟨_, itmw3, nbmw3, ltmw3, rfl, rfl, ztmw3, vtmw3⟩) H
    | 3 => cases h1; cases h2; exact (fun H => .inr ⟨_, itmw4, nbmw4, ltmw4, rfl, rfl, ztmw4, vtmw4⟩) H
    | 4 => cases h1; cases h2; exact (fun H => .inr ⟨_, itmw5, nbmw5, ltmw5, rfl, rfl, ztmw5, vtmw5⟩) H
    | _ + 5 => cases h2⟩
  have kdN : KDict K w cN escN ncN := ⟨lcN, qcN, ycN⟩
  have kdR : KDict K w cR escR ncR := ⟨lcR, qcR, ycR⟩
  have XT : Tab K w mg cP cA cF cN escN ncN := by
    refine ⟨PySem.W.mg_of X G aP, PySem.W.mg_of X G acA, PySem.W.mg_of X G acF, PySem.W.mg_of X G acN, kdN, fun H => .inr ⟨_, itcP, nbcP, ltcP, rfl, rfl, ztcP, vtcP⟩, fun k hk => ?_, fun k hk => ?_, fun k hk => ?_, fun k hk => ns_no kdN oN hk⟩
    · unfold PW at hk
      simp only [List.mem_cons, List.not_mem_nil, or_false] at hk
      rcases hk with rfl | rfl | rfl | rfl | rfl | rfl | rfl | rfl | rfl | rfl | rfl
      · exact ⟨escA, ncA, _, lcA, qcA, qAuf1, _, rfl⟩
      · exact ⟨escA, ncA, _, lcA, qcA, qAuf2, _, rfl⟩
      · exact ⟨escA, ncA, _, lcA, qcA, qAuf3, _, rfl⟩
      · exact ⟨escA, ncA, _, lcA, qcA, qAuf4, _, rfl⟩
      · exact ⟨escA, ncA, _, lcA, qcA, qAuf5, _, rfl⟩
      · exact ⟨escA, ncA, _, lcA, qcA, qAuf6, _, rfl⟩
      · exact ⟨escA, ncA, _, lcA, qcA, qAuf7, _, rfl⟩
      · exact ⟨escA, ncA, _, lcA, qcA, qAuf8, _, rfl⟩
      · exact ⟨escA, ncA, _, lcA, qcA, qAuf9, _, rfl⟩
      · exact ⟨escA, ncA, _, lcA, qcA, qAuf10, _, rfl⟩
      · exact ⟨escA, ncA, _, lcA, qcA, qAuf11, _, rfl⟩
    · unfold PW at hk
      simp only [List.mem_cons, List.not_mem_nil, or_false] at hk
      rcases hk with rfl | rfl | rfl | rfl | rfl | rfl | rfl | rfl | rfl | rfl | rfl
      · exact ⟨uf1, ⟨escF, ncF, _, lcF, qcF, qFuf1, rfl⟩, fun H => .inr ⟨_, ituf1, nbuf1, ltuf1, rfl, rfl, ztuf1, vtuf1⟩⟩
      · exact ⟨uf2, ⟨escF, ncF, _, lcF, qcF, qFuf2, rfl⟩, fun H => .inr ⟨_, ituf2, nbuf2, ltuf2, rfl, rfl, ztuf2, vtuf2⟩⟩
      · exact ⟨uf3, ⟨escF, ncF, _, lcF, qcF, qFuf3, rfl⟩, fun H => .inr ⟨_, ituf3, nbuf3, ltuf3, rfl, rfl, ztuf3, vtuf3⟩⟩
      · exact ⟨uf4, ⟨escF, ncF, _, lcF, qcF, qFuf4, rfl⟩, fun H => .inr ⟨_, ituf4, nbuf4, ltuf4, rfl, rfl, ztuf4, vtuf4⟩⟩
      · exact ⟨uf5, ⟨escF, ncF, _, lcF, qcF, qFuf5, rfl⟩, fun H => .inr ⟨_, ituf5, nbuf5, ltuf5, rfl, rfl, ztuf5, vtuf5⟩⟩
      · exact ⟨uf6, ⟨escF, ncF, _, lcF, qcF, qFuf6, rfl⟩, fun H => .inr ⟨_, ituf6, nbuf6, ltuf6, rfl, rfl, ztuf6, vtuf6⟩⟩
      · exact ⟨uf7, ⟨escF, ncF, _, lcF, qcF, qFuf7, rfl⟩, fun H => .inr ⟨_, ituf7, nbuf7, ltuf7, rfl, rfl, ztuf7, vtuf7⟩⟩
      · exact ⟨uf8, ⟨escF, ncF, _, lcF, qcF, qFuf8, rfl⟩, fun H => .inr ⟨_, ituf8, nbuf8, ltuf8, rfl, rfl, ztuf8, vtuf8⟩⟩
      · exact ⟨uf9, ⟨escF, ncF, _, lcF, qcF, qFuf9, rfl⟩, fun H => .inr ⟨_, ituf9, nbuf9, ltuf9, rfl, rfl, ztuf9, vtuf9⟩⟩
      · exact ⟨uf10, ⟨escF, ncF, _, lcF, qcF, qFuf10, rfl⟩, fun H => .inr ⟨_, ituf10, nbuf10, ltuf10, rfl, rfl, ztuf10, vtuf10⟩⟩
      · exact ⟨uf11, ⟨escF, ncF, _, lcF, qcF, qFuf11, rfl⟩, fun H => .inr ⟨_, ituf11, nbuf11, ltuf11, rfl, rfl, ztuf11, vtuf11⟩⟩
    · have hk : k ∈ (["set", "do", "load", "store", "mac", "vector", "loop", "end", "skip", "in", "out", "wait"] : List Str) := hk
      simp only [List.mem_cons, List.not_mem_nil, or_false] at hk
      rcases hk with rfl | rfl | rfl | rfl | rfl | rfl | rfl | rfl | rfl | rfl | rfl | rfl
      · exact ⟨⟨ui1, ⟨escN, ncN, _, lcN, qcN, qNui1, rfl⟩, fun H => .inr ⟨_, itui1, nbui1, ltui1, rfl, rfl, ztui1, vtui1⟩⟩, _, qNui1⟩
      · exact ⟨⟨ui2, ⟨escN, ncN, _, lcN, qcN, qNui2, rfl⟩, fun H => .inr ⟨_, itui2, nbui2, ltui2, rfl, rfl, ztui2, vtui2⟩⟩, _, qNui2⟩
      · exact ⟨⟨ui3, ⟨escN, ncN, _, lcN, qcN, qNui3, rfl⟩, fun H => .inr ⟨_, itui3, nbui3, ltui3, rfl, rfl, ztui3, vtui3⟩⟩, _, qNui3⟩
      · exact ⟨⟨ui4, ⟨escN, ncN, _, lcN, qcN, qNui4, rfl⟩, fun H => .inr ⟨_, itui4, nbui4, ltui4, rfl, rfl, ztui4, vtui4⟩⟩, _, qNui4⟩
      · exact ⟨⟨ui5, ⟨escN, ncN, _, lcN, qcN, qNui5, rfl⟩, fun H => .inr ⟨_, itui5, nbui5, ltui5, rfl, rfl, ztui5, vtui5⟩⟩, _, qNui5⟩
      · exact ⟨⟨ui6, ⟨escN, ncN, _, lcN, qcN, qNui6, rfl⟩, fun H => .inr ⟨_, itui6, nbui6, ltui6, rfl, rfl, ztui6, vtui6⟩⟩, _, qNui6⟩
      · exact ⟨⟨ui7, ⟨escN, ncN, _, lcN, qcN, qNui7, rfl⟩, fun H => .inr ⟨_, itui7, nbui7, ltui7, rfl, rfl, ztui7, vtui7⟩⟩, _, qNui7⟩
      · exact ⟨⟨ui8, ⟨escN, ncN, _, lcN, qcN, qNui8, rfl⟩, fun H => .inr ⟨_, itui8, nbui8, ltui8, rfl, rfl, ztui8, vtui8⟩⟩, _, qNui8⟩
      · exact ⟨⟨ui9, ⟨escN, ncN, _, lcN, qcN, qNui9, rfl⟩, fun H => .inr ⟨_, itui9, nbui9, ltui9, rfl, rfl, ztui9, vtui9⟩⟩, _, qNui9⟩
      · exact ⟨⟨ui10, ⟨escN, ncN, _, lcN, qcN, qNui10, rfl⟩, fun H => .inr ⟨_, itui10, nbui10, ltui10, rfl, rfl, ztui10, vtui10⟩⟩, _, qNui10⟩
      · exact ⟨⟨ui11, ⟨escN, ncN, _, lcN, qcN, qNui11, rfl⟩, fun H => .inr ⟨_, itui11, nbui11, ltui11, rfl, rfl, ztui11, vtui11⟩⟩, _, qNui11⟩
      · exact ⟨⟨ui12, ⟨escN, ncN, _, lcN, qcN, qNui12, rfl⟩, fun H => .inr ⟨_, itui12, nbui12, ltui12, rfl, rfl, ztui12, vtui12⟩⟩, _, qNui12⟩
  have YT : TabR K w cR := ⟨rLow, rHigh, by decide, by decide, by decide, by decide, vN, ⟨escR, ncR, _, lcR, qcR, rN, rfl⟩, fun H => .inr ⟨_, itvN, nbvN, ltvN, rfl, rfl, ztvN, vtvN⟩, ⟨_, rN⟩⟩
  refine ⟨PySem.W.fnOf "law" "law" (defArgs slaw) (defBody slaw) (defScope slaw) .none kV34 dc34 pm34 an34 cd34 ct34, fun s v => .of_eq rfl, fun base _ _ => ?_⟩
  have gCM : FnOk l.prog w K mg base CX0 1 _ _ ["machine"] (spCM K) := ok_cm F3 T MT
  have cCM : Calls l.prog w K mg base CX0 1 "check_machine" ["machine"] (spCM K) := ⟨_, _, gCM, k3, b3, m3⟩
  have gWB : FnOk l.prog w K mg base CX0 1 _ _ ["machine"] (spWB K) := ok_wb F4
  have cWB : Calls l.prog w K mg base CX0 1 "word_bounds" ["machine"] (spWB K) := ⟨_, _, gWB, k4, b4, m4⟩
  have gCC : FnOk l.prog w K mg base (L2.CX l.prog w) 1 _ _ ["low", "high"] (spCClamp (CC47 z3 z4 z6)) := ok_cclamp F2 R3 ⟨_, PySem.W.mg_of X G etkW, _, rfl⟩
  have cCC : Calls l.prog w K mg base (L2.CX l.prog w) 1 "_check_clamp" ["low", "high"] (spCClamp (CC47 z3 z4 z6)) := ⟨_, _, gCC, k2, b2, m2⟩
  have gCFd : FnOk l.prog w K mg base (L2.CX l.prog w) 2 _ _ ["kind", "info"] (spFields K w (CC47 z3 z4 z6) cF cR) := ok_fields F1 R3 n_zip (PySem.W.mg_of X G acF) (PySem.W.mg_of X G acR) kdR gCC k2 b2 m2
  have cCFd : Calls l.prog w K mg base (L2.CX l.prog w) 2 "check_fields" ["kind", "info"] (spFields K w (CC47 z3 z4 z6) cF cR) := ⟨_, _, gCFd, k1, b1, m1⟩
  have gCN : FnOk l.prog w K mg base (L2.CX l.prog w) 1 _ _ ["n", "bounds"] (spCN K (CC47 z3 z4 z6)) := ok_cn F14 R3
  have cCN : Calls l.prog w K mg base (L2.CX l.prog w) 1 "_check_number" ["n", "bounds"] (spCN K (CC47 z3 z4 z6)) := ⟨_, _, gCN, k14, b14, m14⟩
  have gBo : FnOk l.prog w K mg base CX0 2 _ _ ["machine"] (spBo K) := ok_bo F11 ⟨_, PySem.W.mg_of X G etkS, _, rfl⟩ ⟨_, PySem.W.mg_of X G etkO, _, rfl⟩ cWB
  have cBo : Calls l.prog w K mg base CX0 2 "_bounds" ["machine"] (spBo K) := ⟨_, _, gBo, k11, b11, m11⟩
  have gCR : FnOk l.prog w K mg base (L2.CX l.prog w) 3 _ _ ["instruction", "bounds"] (spCR K (CC47 z3 z4 z6)) := ok_cr F13 T XT YT cCN cCFd
  have cCR : Calls l.prog w K mg base (L2.CX l.prog w) 3 "_check_range" ["instruction", "bounds"] (spCR K (CC47 z3 z4 z6)) := ⟨_, _, gCR, k13, b13, m13⟩
  have gCRs : FnOk l.prog w K mg base (L2.CX l.prog w) 4 _ _ ["machine", "code"] (spCRs K (CC47 z3 z4 z6)) := ok_crs F12 cBo cCR
  have cCRs : Calls l.prog w K mg base (L2.CX l.prog w) 4 "_check_ranges" ["machine", "code"] (spCRs K (CC47 z3 z4 z6)) := ⟨_, _, gCRs, k12, b12, m12⟩
  have gCS : FnOk l.prog w K mg base (L2.CX l.prog w) 1 _ _ ["code", "behind"] (spCS K (CC47 z3 z4 z6)) := ok_cs F10 T R6
  have cCS : Calls l.prog w K mg base (L2.CX l.prog w) 1 "_check_skips" ["code", "behind"] (spCS K (CC47 z3 z4 z6)) := ⟨_, _, gCS, k10, b10, m10⟩
  have gLB : FnOk l.prog w K mg base (L2.CX l.prog w) 1 _ _ ["code"] (spLB K (CC47 z3 z4 z6)) := ok_lb F9 T R6
  have cLB : Calls l.prog w K mg base (L2.CX l.prog w) 1 "_loops_behind" ["code"] (spLB K (CC47 z3 z4 z6)) := ⟨_, _, gLB, k9, b9, m9⟩
  have gCCo : FnOk l.prog w K mg base (L2.CX l.prog w) 1 _ _ ["instruction"] (spCCo K (CC47 z3 z4 z6)) := ok_cco F8 T XT R6
  have cCCo : Calls l.prog w K mg base (L2.CX l.prog w) 1 "_check_counts" ["instruction"] (spCCo K (CC47 z3 z4 z6)) := ⟨_, _, gCCo, k8, b8, m8⟩
  have gIK : FnOk l.prog w K mg base CX0 1 _ _ ["field", "value"] (spIK K) := ok_ik F7 T
  have cIK : Calls l.prog w K mg base CX0 1 "_is_of_its_kind" ["field", "value"] (spIK K) := ⟨_, _, gIK, k7, b7, m7⟩
  have gCFo : FnOk l.prog w K mg base (L2.CX l.prog w) 2 _ _ ["instruction"] (spCFo K (CC47 z3 z4 z6)) := ok_cfo F6 T XT R6 cIK cCCo
  have cCFo : Calls l.prog w K mg base (L2.CX l.prog w) 2 "_check_form" ["instruction"] (spCFo K (CC47 z3 z4 z6)) := ⟨_, _, gCFo, k6, b6, m6⟩
  have gCL : FnOk l.prog w K mg base (L2.CX l.prog w) 1 _ _ ["code"] (spCL K (CC47 z3 z4 z6)) := ok_cl F15 T R4 ⟨_, PySem.W.mg_of X G etkD, _, rfl⟩ ⟨_, PySem.W.mg_of X G etkT, _, rfl⟩
  have cCL : Calls l.prog w K mg base (L2.CX l.prog w) 1 "_check_loops" ["code"] (spCL K (CC47 z3 z4 z6)) := ⟨_, _, gCL, k15, b15, m15⟩
  have gCK : FnOk l.prog w K mg base (L2.CX l.prog w) 5 _ _ ["machine", "code"] (spCK K (CC47 z3 z4 z6)) := ok_ck F5 T ⟨_, PySem.W.mg_of X G etkC, _, rfl⟩ R4 cCM cCFo cCS cLB cCRs cCL
  have cCK : Calls l.prog w K mg base (L2.CX l.prog w) 5 "check_code" ["machine", "code"] (spCK K (CC47 z3 z4 z6)) := ⟨_, _, gCK, k5, b5, m5⟩
  have gLi : FnOk l.prog w K mg base CX0 1 _ _ ["instruction"] (spLi K) := ok_li F19 T XT
  have cLi : Calls l.prog w K mg base CX0 1 "_line" ["instruction"] (spLi K) := ⟨_, _, gLi, k19, b19, m19⟩
  have gWC : FnOk l.prog w K mg base CX0 6 _ _ ["machine", "code"] (spWC K) := ok_wc F17 cCK cLi
  have cWC : Calls l.prog w K mg base CX0 6 "write_code" ["machine", "code"] (spWC K) := ⟨_, _, gWC, k17, b17, m17⟩
  have gRI : FnOk l.prog w K mg base (L2.CX l.prog w) 1 _ _ ["text", "most"] (spRIx zT) := ok_readinteger F16 T RT
  have cRI : Calls l.prog w K mg base (L2.CX l.prog w) 1 "read_integer" ["text", "most"] (spRIx zT) := ⟨_, _, gRI, k16, b16, m16⟩
  have gRF : FnOk l.prog w K mg base (L2.CX l.prog w) 2 _ _ ["field", "words", "at"] (spRF K zT) := ok_rf F21 T XT RT ⟨_, PySem.W.mg_of X G etkG, _, rfl⟩ cRI
  have cRF : Calls l.prog w K mg base (L2.CX l.prog w) 2 "_read_field" ["field", "words", "at"] (spRF K zT) := ⟨_, _, gRF, k21, b21, m21⟩
  have gRL : FnOk l.prog w K mg base (L2.CX l.prog w) 3 _ _ ["line"] (spRL K zT) := ok_rl F20 T XT RT cRF
  have cRL : Calls l.prog w K mg base (L2.CX l.prog w) 3 "_read_line" ["line"] (spRL K zT) := ⟨_, _, gRL, k20, b20, m20⟩
  have gRC : FnOk l.prog w K mg base (L2.CX l.prog w) 6 _ _ ["machine", "text"] (spRC K (CC47 z3 z4 z6) zT) := ok_rc F18 T RT cCM cRL cCK
  have cRC : Calls l.prog w K mg base (L2.CX l.prog w) 6 "read_code" ["machine", "text"] (spRC K (CC47 z3 z4 z6) zT) := ⟨_, _, gRC, k18, b18, m18⟩
  have gB : FnOk l.prog w K mg base CX0 1 _ _ ["script"] (spBegin K) := ok_begin F22 TD
  have cB : Calls l.prog w K mg base CX0 1 "_law_begin" ["script"] (spBegin K) := ⟨_, _, gB, k22, b22, m22⟩
  have gT : FnOk l.prog w K mg base CX0 1 _ _ ["d", "many"] spTake := ok_take F23 TD
  have cT : Calls l.prog w K mg base CX0 1 "_law_take" ["d", "many"] spTake := ⟨_, _, gT, k23, b23, m23⟩
  have gS : FnOk l.prog w K mg base CX0 2 _ _ ["d", "most"] spSigned := ok_signed F24 gT k23 b23 m23
  have cS : Calls l.prog w K mg base CX0 2 "_law_signed" ["d", "most"] spSigned := ⟨_, _, gS, k24, b24, m24⟩
  have gMa : FnOk l.prog w K mg base CX0 2 _ _ ["d"] (spMa K) := ok_ma F25 cT
  have cMa : Calls l.prog w K mg base CX0 2 "_law_machine" ["d"] (spMa K) := ⟨_, _, gMa, k25, b25, m25⟩
  have gIO : FnOk l.prog w K mg base CX0 3 _ _ ["d", "kind"] (spIO K) := ok_io F26 cT cS
  have cIO : Calls l.prog w K mg base CX0 3 "_law_info_of" ["d", "kind"] (spIO K) := ⟨_, _, gIO, k26, b26, m26⟩
  have gDo : FnOk l.prog w K mg base CX0 4 _ _ ["d", "most"] (spDo K) := ok_do F27 T cT cIO
  have cDo : Calls l.prog w K mg base CX0 4 "_law_do" ["d", "most"] (spDo K) := ⟨_, _, gDo, k27, b27, m27⟩
  have gTr : FnOk l.prog w K mg base CX0 2 _ _ ["d", "machine"] (spTr K) := ok_tr F28 T cT
  have cTr : Calls l.prog w K mg base CX0 2 "_law_transfer" ["d", "machine"] (spTr K) := ⟨_, _, gTr, k28, b28, m28⟩
  have gIn : FnOk l.prog w K mg base CX0 5 _ _ ["d", "machine"] (spIn K) := ok_in F29 cT cS cDo cTr
  have cIn : Calls l.prog w K mg base CX0 5 "_law_instruction" ["d", "machine"] (spIn K) := ⟨_, _, gIn, k29, b29, m29⟩
  have gBz : FnOk l.prog w K mg base CX0 9 _ _ ["d", "machine", "depth", "many"] (spBl K 4) := ok_bl F30 T cT cS cIn k30 b30 m30 4 (by decide)
  have cBz : Calls l.prog w K mg base CX0 9 "_law_block" ["d", "machine", "depth", "many"] (spBl K 4) := ⟨_, _, gBz, k30, b30, m30⟩
  have gLl : FnOk l.prog w K mg base CX0 1 _ _ ["ins"] (spLl K) := ok_ll F31 T
  have cLl : Calls l.prog w K mg base CX0 1 "_law_line" ["ins"] (spLl K) := ⟨_, _, gLl, k31, b31, m31⟩
  have gTo : FnOk l.prog w K mg base CX0 7 _ _ ["machine", "text"] (spTo K) := ok_to F32 ET cRC
  have cTo : Calls l.prog w K mg base CX0 7 "_law_told" ["machine", "text"] (spTo K) := ⟨_, _, gTo, k32, b32, m32⟩
  have gBe : FnOk l.prog w K mg base CX0 2 _ _ ["d", "text"] spBe := ok_bent F33 T cT
  have cBe : Calls l.prog w K mg base CX0 2 "_law_bent" ["d", "text"] spBe := ⟨_, _, gBe, k33, b33, m33⟩
  exact ok_law F34 T cB cT cMa cBz cLl cWC cRC cBe cTo
end My
open PySem PySem.W PyProof.Rows
set_option maxRecDepth 100000 in
set_option maxHeartbeats 0 in
theorem PySem.Challenge.cw_tensorcompiler_k47_code_texts_holds : PySem.Challenge.rw_tensorcompiler_k47_code_texts.Holds := by
  w_on; o_law; k_head; (case hw => w_witness2)
  k_fill
  refine L2.walk_of (l := PySem.Challenge.rw_tensorcompiler_k47_code_texts) (n := 63) (k := 10) (x := "script") (CX := fun _ => L2.CX0) (sp := fun w => My.spLaw _) rfl (by decide) rfl ⟨rfl, by decide, by decide⟩ (fun w h Y => PySem.W.kIn_of Y) ?F (fun _ _ a ns hl _ hS => ⟨a, ns, rfl, hS, hl, fun _ => rfl⟩) (fun _ _ _ _ _ h => h)
  case F =>
    intro w mg fa h KX G hmg
    refine' My.all_mk KX G hmg ?a1 ?l1 ?c1 ?k1 ?a2 ?l2 ?c2 ?k2 ?a3 ?l3 ?c3 ?k3 ?a4 ?l4 ?c4 ?k4 ?a5 ?l5 ?c5 ?k5 ?a6 ?l6 ?c6 ?k6 ?a7 ?l7 ?c7 ?k7 ?a8 ?l8 ?c8 ?k8 ?a9 ?l9 ?c9 ?k9 ?a10 ?l10 ?c10 ?k10 ?a11 ?l11 ?c11 ?k11 ?a12 ?l12 ?c12 ?k12 ?a13 ?l13 ?c13 ?k13 ?a14 ?l14 ?c14 ?k14 ?a15 ?l15 ?c15 ?k15 ?a16 ?l16 ?c16 ?k16 ?a17 ?l17 ?c17 ?k17 ?a18 ?l18 ?c18 ?k18 ?a19 ?l19 ?c19 ?k19 ?a20 ?l20 ?c20 ?k20 ?a21 ?l21 ?c21 ?k21 ?a22 ?l22 ?c22 ?k22 ?a23 ?l23 ?c23 ?k23 ?a24 ?l24 ?c24 ?k24 ?a25 ?l25 ?c25 ?k25 ?a26 ?l26 ?c26 ?k26 ?a27 ?l27 ?c27 ?k27 ?a28 ?l28 ?c28 ?k28 ?a29 ?l29 ?c29 ?k29 ?a30 ?l30 ?c30 ?k30 ?a31 ?l31 ?c31 ?k31 ?a32 ?l32 ?c32 ?k32 ?a33 ?l33 ?c33 ?k33 ?a34 ?l34 ?c34 ?k34 ?aEz3 ?kEz3 ?bEz3 ?tEz3 ?hEz3 ?aEz4 ?kEz4 ?bEz4 ?tEz4 ?hEz4 ?aEz6 ?kEz6 ?bEz6 ?tEz6 ?hEz6 ?aEzT ?kEzT ?bEzT ?tEzT ?hEzT ?aEcT ?kEcT ?bEcT ?tEcT ?hEcT ?xz3 ?sTz3 ?i1z3 ?i2z3 ?i3z3 ?i6z3 ?sz3z3 ?sz3z4 ?sz3z6 ?sz3zT ?xz4 ?sTz4 ?i1z4 ?i2z4 ?i3z4 ?i6z4 ?sz4z3 ?sz4z4 ?sz4z6 ?sz4zT ?xz6 ?sTz6 ?i1z6 ?i2z6 ?i3z6 ?i6z6 ?sz6z3 ?sz6z4 ?sz6z6 ?sz6zT ?xzT ?sTzT ?i1zT ?i2zT ?i3zT ?i6zT ?szTz3 ?szTz4 ?szTz6 ?szTzT ?i4 ?i5 ?acA ?lcA ?qcA ?acF ?lcF ?qcF ?acN ?lcN ?qcN ?acR ?lcR ?qcR ?ycN ?ycR ?oN ?aP ?ltcP ?vtcP ?ztcP ?qFuf1 ?ltuf1 ?vtuf1 ?ztuf1 ?qAuf1 ?qFuf2 ?ltuf2 ?vtuf2 ?ztuf2 ?qAuf2 ?qFuf3 ?ltuf3 ?vtuf3 ?ztuf3 ?qAuf3 ?qFuf4 ?ltuf4 ?vtuf4 ?ztuf4 ?qAuf4 ?qFuf5 ?ltuf5 ?vtuf5 ?ztuf5 ?qAuf5 ?qFuf6 ?ltuf6 ?vtuf6 ?ztuf6 ?qAuf6 ?qFuf7 ?ltuf7 ?vtuf7 ?ztuf7 ?qAuf7 ?qFuf8 ?ltuf8 ?vtuf8 ?ztuf8 ?qAuf8 ?qFuf9 ?ltuf9 ?vtuf9 ?ztuf9 ?qAuf9 ?qFuf10 ?ltuf10 ?vtuf10 ?ztuf10 ?qAuf10 ?qFuf11 ?ltuf11 ?vtuf11 ?ztuf11 ?qAuf11 ?qNui1 ?ltui1 ?vtui1 ?ztui1 ?qNui2 ?ltui2 ?vtui2 ?ztui2 ?qNui3 ?ltui3 ?vtui3 ?ztui3 ?qNui4 ?ltui4 ?vtui4 ?ztui4 ?qNui5 ?ltui5 ?vtui5 ?ztui5 ?qNui6 ?ltui6 ?vtui6 ?ztui6 ?qNui7 ?ltui7 ?vtui7 ?ztui7 ?qNui8 ?ltui8 ?vtui8 ?ztui8 ?qNui9 ?ltui9 ?vtui9 ?ztui9 ?qNui10 ?ltui10 ?vtui10 ?ztui10 ?qNui11 ?ltui11 ?vtui11 ?ztui11 ?qNui12 ?ltui12 ?vtui12 ?ztui12 ?rLow ?rHigh ?rN ?ltvN ?vtvN ?ztvN ?aB ?lB ?vB ?zB ?ltmw1 ?vtmw1 ?ztmw1 ?ltmw2 ?vtmw2 ?ztmw2 ?ltmw3 ?vtmw3 ?ztmw3 ?ltmw4 ?vtmw4 ?ztmw4 ?ltmw5 ?vtmw5 ?ztmw5 ?etkS ?etkO ?etkC ?etkD ?etkT ?etkG ?etkW ?z_int ?z_abs ?z_len ?z_list ?z_tuple ?z_zip ?z_range ?z_str ?z_isinstance ?z_all ?z_enumerate ?z_max
    (case a1 => k_is); (case l1 => k_is); (case c1 => k_is); (case k1 => k_is); (case a2 => k_is); (case l2 => k_is); (case c2 => k_is); (case k2 => k_is); (case a3 => k_is); (case l3 => k_is); (case c3 => k_is); (case k3 => k_is); (case a4 => k_is); (case l4 => k_is); (case c4 => k_is); (case k4 => k_is); (case a5 => k_is); (case l5 => k_is); (case c5 => k_is); (case k5 => k_is); (case a6 => k_is); (case l6 => k_is); (case c6 => k_is); (case k6 => k_is); (case a7 => k_is); (case l7 => k_is); (case c7 => k_is); (case k7 => k_is); (case a8 => k_is); (case l8 => k_is); (case c8 => k_is); (case k8 => k_is); (case a9 => k_is); (case l9 => k_is); (case c9 => k_is); (case k9 => k_is); (case a10 => k_is); (case l10 => k_is); (case c10 => k_is); (case k10 => k_is); (case a11 => k_is); (case l11 => k_is); (case c11 => k_is); (case k11 => k_is); (case a12 => k_is); (case l12 => k_is); (case c12 => k_is); (case k12 => k_is); (case a13 => k_is); (case l13 => k_is); (case c13 => k_is); (case k13 => k_is); (case a14 => k_is); (case l14 => k_is); (case c14 => k_is); (case k14 => k_is); (case a15 => k_is); (case l15 => k_is); (case c15 => k_is); (case k15 => k_is); (case a16 => k_is); (case l16 => k_is); (case c16 => k_is); (case k16 => k_is); (case a17 => k_is); (case l17 => k_is); (case c17 => k_is); (case k17 => k_is); (case a18 => k_is); (case l18 => k_is); (case c18 => k_is); (case k18 => k_is); (case a19 => k_is); (case l19 => k_is); (case c19 => k_is); (case k19 => k_is); (case a20 => k_is); (case l20 => k_is); (case c20 => k_is); (case k20 => k_is); (case a21 => k_is); (case l21 => k_is); (case c21 => k_is); (case k21 => k_is); (case a22 => k_is); (case l22 => k_is); (case c22 => k_is); (case k22 => k_is); (case a23 => k_is); (case l23 => k_is); (case c23 => k_is); (case k23 => k_is); (case a24 => k_is); (case l24 => k_is); (case c24 => k_is); (case k24 => k_is); (case a25 => k_is); (case l25 => k_is); (case c25 => k_is); (case k25 => k_is); (case a26 => k_is); (case l26 => k_is); (case c26 => k_is); (case k26 => k_is); (case a27 => k_is); (case l27 => k_is); (case c27 => k_is); (case k27 => k_is); (case a28 => k_is); (case l28 => k_is); (case c28 => k_is); (case k28 => k_is); (case a29 => k_is); (case l29 => k_is); (case c29 => k_is); (case k29 => k_is); (case a30 => k_is); (case l30 => k_is); (case c30 => k_is); (case k30 => k_is); (case a31 => k_is); (case l31 => k_is); (case c31 => k_is); (case k31 => k_is); (case a32 => k_is); (case l32 => k_is); (case c32 => k_is); (case k32 => k_is); (case a33 => k_is); (case l33 => k_is); (case c33 => k_is); (case k33 => k_is); (case a34 => k_is); (case l34 => k_is); (case c34 => k_is); (case k34 => k_is); (case aEz3 => k_is); (case kEz3 => k_is); (case bEz3 => k_is); (case tEz3 => k_is); (case hEz3 => k_is); (case aEz4 => k_is); (case kEz4 => k_is); (case bEz4 => k_is); (case tEz4 => k_is); (case hEz4 => k_is); (case aEz6 => k_is); (case kEz6 => k_is); (case bEz6 => k_is); (case tEz6 => k_is); (case hEz6 => k_is); (case aEzT => k_is); (case kEzT => k_is); (case bEzT => k_is); (case tEzT => k_is); (case hEzT => k_is); (case aEcT => k_is); (case kEcT => k_is); (case bEcT => k_is); (case tEcT => k_is); (case hEcT => k_is); (case xz3 => k_exc); (case sTz3 => k_is); (case i1z3 => k_is); (case i2z3 => k_is); (case i3z3 => k_is); (case i6z3 => k_is); (case sz3z3 => first | rfl | k_is); (case sz3z4 => first | rfl | k_is); (case sz3z6 => first | rfl | k_is); (case sz3zT => first | rfl | k_is); (case xz4 => k_exc); (case sTz4 => k_is); (case i1z4 => k_is); (case i2z4 => k_is); (case i3z4 => k_is); (case i6z4 => k_is); (case sz4z3 => first | rfl | k_is); (case sz4z4 => first | rfl | k_is); (case sz4z6 => first | rfl | k_is); (case sz4zT => first | rfl | k_is); (case xz6 => k_exc); (case sTz6 => k_is); (case i1z6 => k_is); (case i2z6 => k_is); (case i3z6 => k_is); (case i6z6 => k_is); (case sz6z3 => first | rfl | k_is); (case sz6z4 => first | rfl | k_is); (case sz6z6 => first | rfl | k_is); (case sz6zT => first | rfl | k_is); (case xzT => k_exc); (case sTzT => k_is); (case i1zT => k_is); (case i2zT => k_is); (case i3zT => k_is); (case i6zT => k_is); (case szTz3 => first | rfl | k_is); (case szTz4 => first | rfl | k_is); (case szTz6 => first | rfl | k_is); (case szTzT => first | rfl | k_is); (case i4 => k_is); (case i5 => k_is); (case acA => k_is); (case lcA => k_is); (case qcA => repeat (first | exact True.intro | refine ⟨⟨_, _, rfl, rfl⟩, ?_⟩)); (case acF => k_is); (case lcF => k_is); (case qcF => repeat (first | exact True.intro | refine ⟨⟨_, _, rfl, rfl⟩, ?_⟩)); (case acN => k_is); (case lcN => k_is); (case qcN => repeat (first | exact True.intro | refine ⟨⟨_, _, rfl, rfl⟩, ?_⟩)); (case acR => k_is); (case lcR => k_is); (case qcR => repeat (first | exact True.intro | refine ⟨⟨_, _, rfl, rfl⟩, ?_⟩)); (case ycN => first | rfl | decide); (case ycR => first | rfl | decide); (case oN => first | rfl | decide +kernel); (case aP => k_is); (case ltcP => k_is); (case vtcP => repeat (first | exact .nil | refine .cons ⟨_, rfl⟩ ?_)); (case ztcP => decide); (case qFuf1 => k_is); (case ltuf1 => k_is); (case vtuf1 => repeat (first | exact .nil | refine .cons ⟨_, rfl⟩ ?_)); (case ztuf1 => decide); (case qAuf1 => k_is); (case qFuf2 => k_is); (case ltuf2 => k_is); (case vtuf2 => repeat (first | exact .nil | refine .cons ⟨_, rfl⟩ ?_)); (case ztuf2 => decide); (case qAuf2 => k_is); (case qFuf3 => k_is); (case ltuf3 => k_is); (case vtuf3 => repeat (first | exact .nil | refine .cons ⟨_, rfl⟩ ?_)); (case ztuf3 => decide); (case qAuf3 => k_is); (case qFuf4 => k_is); (case ltuf4 => k_is); (case vtuf4 => repeat (first | exact .nil | refine .cons ⟨_, rfl⟩ ?_)); (case ztuf4 => decide); (case qAuf4 => k_is); (case qFuf5 => k_is); (case ltuf5 => k_is); (case vtuf5 => repeat (first | exact .nil | refine .cons ⟨_, rfl⟩ ?_)); (case ztuf5 => decide); (case qAuf5 => k_is); (case qFuf6 => k_is); (case ltuf6 => k_is); (case vtuf6 => repeat (first | exact .nil | refine .cons ⟨_, rfl⟩ ?_)); (case ztuf6 => decide); (case qAuf6 => k_is); (case qFuf7 => k_is); (case ltuf7 => k_is); (case vtuf7 => repeat (first | exact .nil | refine .cons ⟨_, rfl⟩ ?_)); (case ztuf7 => decide); (case qAuf7 => k_is); (case qFuf8 => k_is); (case ltuf8 => k_is); (case vtuf8 => repeat (first | exact .nil | refine .cons ⟨_, rfl⟩ ?_)); (case ztuf8 => decide); (case qAuf8 => k_is); (case qFuf9 => k_is); (case ltuf9 => k_is); (case vtuf9 => repeat (first | exact .nil | refine .cons ⟨_, rfl⟩ ?_)); (case ztuf9 => decide); (case qAuf9 => k_is); (case qFuf10 => k_is); (case ltuf10 => k_is); (case vtuf10 => repeat (first | exact .nil | refine .cons ⟨_, rfl⟩ ?_)); (case ztuf10 => decide); (case qAuf10 => k_is); (case qFuf11 => k_is); (case ltuf11 => k_is); (case vtuf11 => repeat (first | exact .nil | refine .cons ⟨_, rfl⟩ ?_)); (case ztuf11 => decide); (case qAuf11 => k_is); (case qNui1 => k_is); (case ltui1 => k_is); (case vtui1 => repeat (first | exact .nil | refine .cons ⟨_, rfl⟩ ?_)); (case ztui1 => decide); (case qNui2 => k_is); (case ltui2 => k_is); (case vtui2 => repeat (first | exact .nil | refine .cons ⟨_, rfl⟩ ?_)); (case ztui2 => decide); (case qNui3 => k_is); (case ltui3 => k_is); (case vtui3 => repeat (first | exact .nil | refine .cons ⟨_, rfl⟩ ?_)); (case ztui3 => decide); (case qNui4 => k_is); (case ltui4 => k_is); (case vtui4 => repeat (first | exact .nil | refine .cons ⟨_, rfl⟩ ?_)); (case ztui4 => decide); (case qNui5 => k_is); (case ltui5 => k_is); (case vtui5 => repeat (first | exact .nil | refine .cons ⟨_, rfl⟩ ?_)); (case ztui5 => decide); (case qNui6 => k_is); (case ltui6 => k_is); (case vtui6 => repeat (first | exact .nil | refine .cons ⟨_, rfl⟩ ?_)); (case ztui6 => decide); (case qNui7 => k_is); (case ltui7 => k_is); (case vtui7 => repeat (first | exact .nil | refine .cons ⟨_, rfl⟩ ?_)); (case ztui7 => decide); (case qNui8 => k_is); (case ltui8 => k_is); (case vtui8 => repeat (first | exact .nil | refine .cons ⟨_, rfl⟩ ?_)); (case ztui8 => decide); (case qNui9 => k_is); (case ltui9 => k_is); (case vtui9 => repeat (first | exact .nil | refine .cons ⟨_, rfl⟩ ?_)); (case ztui9 => decide); (case qNui10 => k_is); (case ltui10 => k_is); (case vtui10 => repeat (first | exact .nil | refine .cons ⟨_, rfl⟩ ?_)); (case ztui10 => decide); (case qNui11 => k_is); (case ltui11 => k_is); (case vtui11 => repeat (first | exact .nil | refine .cons ⟨_, rfl⟩ ?_)); (case ztui11 => decide); (case qNui12 => k_is); (case ltui12 => k_is); (case vtui12 => repeat (first | exact .nil | refine .cons ⟨_, rfl⟩ ?_)); (case ztui12 => decide); (case rLow => k_is); (case rHigh => k_is); (case rN => k_is); (case ltvN => k_is); (case vtvN => repeat (first | exact .nil | refine .cons ⟨_, rfl⟩ ?_)); (case ztvN => decide); (case aB => k_is); (case lB => k_is); (case vB => repeat (first | exact .nil | refine .cons rfl ?_)); (case zB => decide); (case ltmw1 => k_is); (case vtmw1 => repeat (first | exact .nil | refine .cons ⟨_, rfl⟩ ?_)); (case ztmw1 => decide); (case ltmw2 => k_is); (case vtmw2 => repeat (first | exact .nil | refine .cons ⟨_, rfl⟩ ?_)); (case ztmw2 => decide); (case ltmw3 => k_is); (case vtmw3 => repeat (first | exact .nil | refine .cons ⟨_, rfl⟩ ?_)); (case ztmw3 => decide); (case ltmw4 => k_is); (case vtmw4 => repeat (first | exact .nil | refine .cons ⟨_, rfl⟩ ?_)); (case ztmw4 => decide); (case ltmw5 => k_is); (case vtmw5 => repeat (first | exact .nil | refine .cons ⟨_, rfl⟩ ?_)); (case ztmw5 => decide); (case etkS => k_is); (case etkO => k_is); (case etkC => k_is); (case etkD => k_is); (case etkT => k_is); (case etkG => k_is); (case etkW => k_is); (case z_int => k_is); (case z_abs => k_is); (case z_len => k_is); (case z_list => k_is); (case z_tuple => k_is); (case z_zip => k_is); (case z_range => k_is); (case z_str => k_is); (case z_isinstance => k_is); (case z_all => k_is); (case z_enumerate => k_is); (case z_max => k_is)
