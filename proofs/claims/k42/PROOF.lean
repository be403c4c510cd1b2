import PyProof.Rows.All
import Wide.All
import OpenK.AllK
import Wide.FinOn
import HandS.ForMost
import HandS.Wide
import HandS.Evl
import HandS.Zip
import HandS.IsInst
import HandS.Wide
import HandS.Walk
import HandS.Small
import HandS.TupAny
import HandS.Dict
import HandS.NoneIn
import HandS.More
import HandS.CallLocal
import KE.GoesMore
import PyProof.EnumMake
import PyProof.AutoSeq1
import HandS.Exc
import HandS.ExcOwn
import PySem.Challenge.RW_tensorcompiler_k42_lives_of_buffers
set_option Elab.async false
set_option linter.all false
set_option maxRecDepth 100000
set_option maxHeartbeats 4000000
namespace My
open PySem L2
/-! ### the text -/
def topS (i : Nat) : Stmt := PySem.Challenge.pw_tensorcompiler_k42_lives_of_buffers.main.body.getD i (.Pass ⟨0, 0, 0, 0⟩)
abbrev sBodyOf : Stmt := topS 6
abbrev sInner : Stmt := topS 7
abbrev sAllS : Stmt := topS 8
abbrev sAllP : Stmt := topS 9
abbrev sParts : Stmt := topS 10
abbrev sName : Stmt := topS 11
abbrev sCheckL : Stmt := topS 12
abbrev sLives : Stmt := topS 14
abbrev sMeet : Stmt := topS 15
abbrev sBuf : Stmt := topS 16
abbrev sBegin : Stmt := topS 18
abbrev sTake : Stmt := topS 19
abbrev sSigned : Stmt := topS 20
abbrev sForm : Stmt := topS 21
abbrev sTest : Stmt := topS 22
abbrev sPInfo : Stmt := topS 23
abbrev sExpr : Stmt := topS 24
abbrev sCopy : Stmt := topS 25
abbrev sStmt : Stmt := topS 26
abbrev sBody : Stmt := topS 27
abbrev sProg : Stmt := topS 28
abbrev sInE : Stmt := topS 29
abbrev sIn : Stmt := topS 30
abbrev sLaw : Stmt := topS 31
structure Calls (P : Program) (w : World) (K : PySem.W.Frag) (mg : Str → Option Value) (base : Heap) (CX : CXT) (k : Nat) (name : Str) (ps : List Str) (sp : Sp) : Prop where
  ex : ∃ (f : Addr) (fd : FuncData), FnOk P w K mg base CX k f fd ps sp ∧ PySem.W.keepIn K (.ref f) = true ∧ Binds K fd ps [] ∧ mg name = some (.ref f)
/-! ### drawing -/
/-- all but one place stands as it was -/
def But (d : Addr) (H H' : Hp) : Prop := ∀ b, b ≠ d → H' b = H b
theorem But.refl (d : Addr) (H : Hp) : But d H H := fun _ _ => rfl
theorem But.trans {d : Addr} {H H1 H2 : Hp} (a : But d H H1) (b : But d H1 H2) : But d H H2 := fun c h => (b c h).trans (a c h)
theorem But.upd {d : Addr} {H : Hp} {o : HO} : But d H (upd H d o) := fun _ h => upd_ne h
/-- the drawing state -/
def DrAt (H : Hp) (d c : Addr) : Prop := ∃ (ns : List Int) (i : Nat) (r s : Int), c ≠ d ∧ H d = some (.lst [.ref c, .int i, .int r, .int s]) ∧ H c = some (.lst (ns.map V.int)) ∧ i ≤ ns.length ∧ 0 ≤ r ∧ 0 ≤ s ∧ s < 2147483647
theorem DrAt.same {H H' : Hp} {d c : Addr} (h : DrAt H d c) (s : Same H H') : DrAt H' d c := by
  obtain ⟨ns, i, r, sd, n, h1, h2, h3⟩ := h
  exact ⟨ns, i, r, sd, n, s _ _ h1, s _ _ h2, h3⟩
theorem DrAt.lst {H : Hp} {d c : Addr} (h : DrAt H d c) : ∃ xs, H d = some (.lst xs) := by
  obtain ⟨ns, i, r, sd, n, h1, _⟩ := h
  exact ⟨_, h1⟩
theorem DrAt.lstc {H : Hp} {d c : Addr} (h : DrAt H d c) : ∃ xs, H c = some (.lst xs) := by
  obtain ⟨ns, i, r, sd, n, _, h1, _⟩ := h
  exact ⟨_, h1⟩
/-- another list may be changed -/
theorem DrAt.upd {H : Hp} {d c p : Addr} (h : DrAt H d c) (o : HO) (nd : p ≠ d) (nc : p ≠ c) : DrAt (upd H p o) d c := by
  obtain ⟨ns, i, r, sd, n, h1, h2, h3⟩ := h
  exact ⟨ns, i, r, sd, n, by rw [upd_ne nd.symm]; exact h1, by rw [upd_ne nc.symm]; exact h2, h3⟩
/-- what is no list is kept by a draw -/
theorem But.tup {d c b : Addr} {H H' : Hp} {xs : List V} (k : But d H H') (h : DrAt H d c) (hb : H b = some (.tup xs)) : H' b = some (.tup xs) := by
  obtain ⟨ys, hd⟩ := h.lst
  rw [k b (ne_of hb hd (fun z => nomatch z))]
  exact hb
def Bnd (m : Int) : Prop := m < 2 ^ 400
structure TxtD (mg : Str → Option Value) : Prop where
  int : mg "int" = none
  abs : mg "abs" = none
  len : mg "len" = none
  list : mg "list" = none
section
variable {P : Program} {w : World} {K : PySem.W.Frag} {mg : Str → Option Value} {base : Heap}
def spBegin (K : PySem.W.Frag) : Sp := fun vs H Q _ => ∃ (a : Addr) (ns : List Int), vs = [.ref a] ∧ SqL K H a (ns.map V.int) ∧ ns.length ≤ 63 ∧
  ∀ H' d c, Same H H' → H d = none → H c = none → DrAt H' d c → Q (.ref d) H'
theorem scB : FnScope ["script", "seed", "cell"] ["script"] (defScope sBegin) := ⟨rfl, rfl, rfl, by decide +kernel, rfl, by decide +kernel, by decide +kernel⟩
theorem ok_begin {f : Addr} {fd : FuncData} (F : Fun K "_law_begin" "_law_begin" sBegin f fd) (T : TxtD mg) : FnOk P w K mg base CX0 1 f fd ["script"] (spBegin K) := by
  refine F.ok scB (fun vs H Q E h => ?_) (fun cdv A outer s H vs Q E hr h => ?_)
  · obtain ⟨a, ns, rfl, _⟩ := h
    rfl
  · obtain ⟨a, ns, rfl, hS, hlen, q⟩ := h
    refine ⟨_, pss_cons (ps_set (i := 1) scB.nd rfl (.inl rfl) pe_int)
      (pss_cons (ps_for PassesOwn.never rfl (pi_list (pv 0)) (pg_name (i := 2) scB.nd rfl (.inl rfl))
        (pss_one (ps_set (i := 1) scB.nd rfl (.inl rfl)
          (pe_op op_mod (pe_op op_add (pe_op op_add (pe_op op_mul (pv 1) pe_int) (pe_op op_mod (pe_callTy call_int1 (by rfl) T.int (by decide +kernel) (pa_cons (pv 2) pa_nil)) pe_int)) pe_int) pe_int))))
      (pss_one (ps_ret (pe_lst (pa_cons (pe_callTy call_list_of (by rfl) T.list (by decide +kernel) (pa_cons (pv 0) pa_nil)) (pa_cons pe_int (pa_cons pe_int (pa_cons (pv 1) pa_nil)))))))), ?_⟩
    refine ⟨_, rfl, a, rfl, ⟨_, hS⟩, for_list (K := K) (a := a) (xs := ns.map V.int) (fun i σ H' => ∃ (z : Int) (v : Option V), σ = [some (.ref a), some (.int z), v] ∧ H' = H ∧ 0 ≤ z ∧ z < 2147483647)
      ⟨1, none, rfl, rfl, by decide, by decide⟩ (fun i σ H' _ ⟨_, _, _, e, _⟩ => by rw [e]; exact hS) ?_ ?_⟩
    · rintro i x σ H' hi ⟨z, v, rfl, rfl, h0, h1⟩
      obtain ⟨u, rfl⟩ : ∃ u, x = V.int u := by
        rw [List.getElem?_map] at hi
        cases e : ns[i]? with
        | none => rw [e] at hi; cases hi
        | some u => rw [e] at hi; exact ⟨u, (Option.some.inj hi).symm⟩
      refine ⟨_, rfl, _, _, rfl, rfl, .inl ⟨by omega, by omega⟩, _, rfl, .inl ⟨_, rfl, _, _, rfl, rfl, (by show (0 : Int) < 2147483629; decide), _, _, rfl, rfl, _, _, rfl, rfl, _, _, rfl, rfl, (by show (0 : Int) < 2147483647; decide), ?_⟩⟩
      exact ⟨_, _, rfl, rfl, Int.emod_nonneg _ (by decide), Int.emod_lt_of_pos _ (by decide)⟩
    · rintro σ H' ⟨z, v, rfl, rfl, h0, h1⟩
      refine ⟨_, rfl, a, _, rfl, .inl hS, fun c nc => ⟨_, rfl, by show 4 ≤ sizeLine; decide, fun d nd => ?_⟩⟩
      have ndc : d ≠ c := fun e => by
        rw [e, upd_same] at nd
        cases nd
      have nd0 : H' d = none := by
        rw [upd_ne ndc] at nd
        exact nd
      refine q _ d c (fun b o e => ?_) nd0 nc ⟨ns, 0, 0, z, ndc.symm, upd_same, ?_, Nat.zero_le _, by decide, h0, h1⟩
      · rw [upd_ne (ne_of_none e nd0), upd_ne (ne_of_none e nc)]
        exact e
      · rw [upd_ne ndc.symm, upd_same]
def spTake : Sp := fun vs H Q _ => ∃ (d c : Addr) (m : Int), vs = [.ref d, .int m] ∧ DrAt H d c ∧ 0 < m ∧ Bnd m ∧
  ∀ H' v, But d H H' → DrAt H' d c → 0 ≤ v → v < m → Q (.int v) H'
theorem scT : FnScope ["d", "many", "small", "digit"] ["d", "many"] (defScope sTake) := ⟨rfl, rfl, rfl, by decide +kernel, rfl, by decide +kernel, by decide +kernel⟩
theorem at0 {a b c e : V} : atI [a, b, c, e] (0 : Int) = some a := rfl
theorem at1 {a b c e : V} : atI [a, b, c, e] (1 : Int) = some b := rfl
theorem at2 {a b c e : V} : atI [a, b, c, e] (2 : Int) = some c := rfl
theorem at3 {a b c e : V} : atI [a, b, c, e] (3 : Int) = some e := rfl
theorem bnd_nat {m : Int} (h0 : 0 < m) (h : Bnd m) : m.natAbs < 2 ^ 400 := by
  have e : ((2 ^ 400 : Nat) : Int) = 2 ^ 400 := by decide +kernel
  unfold Bnd at h
  generalize (2 ^ 400 : Nat) = B at *
  omega
theorem bndW {r m : Int} (h0 : 0 < m) (h : Bnd m) : CDivW r m := wide_div (b := 400) h0 (bnd_nat h0 h) (by decide) (by decide)
theorem ok_take {f : Addr} {fd : FuncData} (F : Fun K "_law_take" "_law_take" sTake f fd) (T : TxtD mg) : FnOk P w K mg base CX0 1 f fd ["d", "many"] spTake := by
  refine F.ok scT (fun vs H Q E h => ?_) (fun cdv A outer s H vs Q E hr h => ?_)
  · obtain ⟨d, c, m, rfl, _⟩ := h
    rfl
  · obtain ⟨d, c, m, rfl, ⟨ns, i, r, sd, ncd, hd, hc, hi, hr0, hs0, hs1⟩, hm, hb, q⟩ := h
    refine ⟨_, Evl.pss_cut (ps_if (PW.pt (pw_and (pt_cmpR op_eq (pe_ix ix_list (pv 0) pe_int (fun _ _ => rfl)) pe_int (nomark _))
        (pw_and1 (pt_cmpR op_lt (pe_ix ix_list (pv 0) pe_int (fun _ _ => rfl)) (pe_callB call_len_seq (by rfl) T.len PySem.boot_len (pa_cons (pe_ix ix_list (pv 0) pe_int (fun _ _ => rfl)) pa_nil)) (nomark _)))))
        (pss_cons (ps_asg (pe_callB call_abs (by rfl) T.abs (by decide +kernel) (pa_cons (pe_callTy call_int1 (by rfl) T.int (by decide +kernel) (pa_cons (pe_ix ix_list (pe_ix ix_list (pv 0) pe_int (fun _ _ => rfl)) (pe_ix ix_list (pv 0) pe_int (fun _ _ => rfl)) (fun _ _ => rfl)) pa_nil)) pa_nil)) (pg_sub (pv 0) pe_int set_list))
        (pss_cons (ps_asg (pe_op op_add (pe_ix ix_list (pv 0) pe_int (fun _ _ => rfl)) pe_int) (pg_sub (pv 0) pe_int set_list))
        (pss_one (ps_if (pt_cmpR op_lt (pe_ix ix_list (pv 0) pe_int (fun _ _ => rfl)) (pe_op op_pow pe_int pe_int) (nomark _))
          (pss_cons (ps_set (i := 2) scT.nd rfl (.inl rfl) (pe_callTy call_int1 (by rfl) T.int (by decide +kernel) (pa_cons (pe_ix ix_list (pv 0) pe_int (fun _ _ => rfl)) pa_nil)))
          (pss_cons (ps_asg pe_int (pg_sub (pv 0) pe_int set_list))
          (pss_one (ps_ret (pe_op op_mod (pv 2) (pv 1))))))
          pss_nil))))
        pss_nil)
      (pss_cons (ps_if (pt_cmpR op_gt (pe_ix ix_list (pv 0) pe_int (fun _ _ => rfl)) pe_int (nomark _))
        (pss_cons (ps_set (i := 3) scT.nd rfl (.inl rfl) (pe_op op_mod (pe_callTy call_int1 (by rfl) T.int (by decide +kernel) (pa_cons (pe_ix ix_list (pv 0) pe_int (fun _ _ => rfl)) pa_nil)) (pv 1)))
        (pss_cons (ps_asg (pe_op op_fdivW (pe_callTy call_int1 (by rfl) T.int (by decide +kernel) (pa_cons (pe_ix ix_list (pv 0) pe_int (fun _ _ => rfl)) pa_nil)) (pv 1)) (pg_sub (pv 0) pe_int set_list))
        (pss_one (ps_ret (pv 3)))))
        pss_nil)
      (pss_cons (ps_asg (pe_op op_mod (pe_callTy call_int1 (by rfl) T.int (by decide +kernel) (pa_cons (pe_op op_add (pe_op op_mul (pe_ix ix_list (pv 0) pe_int (fun _ _ => rfl)) pe_int) pe_int) pa_nil)) pe_int) (pg_sub (pv 0) pe_int set_list))
      (pss_one (ps_ret (pe_op op_mod (pe_callTy call_int1 (by rfl) T.int (by decide +kernel) (pa_cons (pe_op op_fdiv (pe_ix ix_list (pv 0) pe_int (fun _ _ => rfl)) pe_int) pa_nil)) (pv 1)))))), ?_⟩
    refine ⟨fun σ' H' => ∃ (i r sd : Int) (x2 : Option V) (i' : Nat), σ' = [some (.ref d), some (.int m), x2, none] ∧ H' = upd H d (.lst [.ref c, .int i, .int r, .int sd]) ∧ i = i' ∧ i' ≤ ns.length ∧ 0 ≤ r ∧ 0 ≤ sd ∧ sd < 2147483647, ?_, ?_⟩
    · have same : H = upd H d (.lst [.ref c, .int i, .int r, .int sd]) := by
        funext b
        by_cases e : b = d
        · rw [e, upd_same, hd]
        · rw [upd_ne e]
      refine ⟨_, rfl, d, _, 2, _, rfl, rfl, SqL.of hd, at2, rfl, _, rfl, ite2 (fun e => ?_) (fun e => ?_)⟩
      · refine ⟨_, rfl, d, _, 1, _, rfl, rfl, SqL.of hd, at1, _, rfl, d, _, 0, _, rfl, rfl, SqL.of hd, at0, c, _, rfl, .inl (SqL.of hc), _, _, rfl, rfl, _, rfl, ite2 (fun e2 => ?_) (fun e2 => ?_)⟩
        · have hlt : i < ns.length := by
            have := of_decide_eq_true e2
            rw [List.length_map] at this
            omega
          have hx : (ns.map V.int)[i]? = some (.int ns[i]) := by
            rw [List.getElem?_map, List.getElem?_eq_getElem hlt]
            rfl
          generalize ns[i] = x at hx
          have hcd : ∀ o, (upd H d o) c = some (.lst (ns.map V.int)) := fun o => by rw [upd_ne ncd]; exact hc
          have habs : 0 ≤ (if x < 0 then -x else x) := by split <;> omega
          -- d[2] = abs(int(d[0][d[1]]))
          refine ⟨_, rfl, d, _, 0, _, rfl, rfl, SqL.of hd, at0, _, rfl, d, _, 1, _, rfl, rfl, SqL.of hd, at1, c, _, _, _, rfl, rfl, SqL.of hc, atI_nat hx, .inl ⟨x, rfl, x, rfl, _, rfl, d, _, 2, 2, rfl, rfl, hd, rfl, ?_⟩⟩
          generalize (if x < 0 then -x else x) = y at habs
          -- d[1] = d[1] + 1
          refine ⟨_, rfl, d, _, 1, _, rfl, rfl, SqL.of upd_same, at1, _, _, rfl, rfl, _, rfl, d, _, 1, 1, rfl, rfl, upd_same, rfl, ?_⟩
          rw [upd_upd]
          -- if d[2] < 10 ** 18
          refine ⟨_, rfl, d, _, 2, _, rfl, rfl, SqL.of upd_same, at2, 10, 18, rfl, rfl, ⟨by decide, by decide, by decide⟩, _, _, rfl, rfl, _, rfl, ite2 (fun e3 => ?_) (fun e3 => ?_)⟩
          · refine ⟨_, rfl, d, _, 2, _, rfl, rfl, SqL.of upd_same, at2, .inl ⟨_, rfl, _, rfl, d, _, 2, 2, rfl, rfl, upd_same, rfl, ?_⟩⟩
            rw [upd_upd]
            refine ⟨_, rfl, _, rfl, _, _, rfl, rfl, hm, ?_⟩
            exact q _ _ But.upd ⟨ns, i + 1, 0, sd, ncd, upd_same, hcd _, hlt, by decide, hs0, hs1⟩ (Int.emod_nonneg _ (by omega)) (Int.emod_lt_of_pos _ hm)
          · exact ⟨_, _, _, _, i + 1, rfl, rfl, rfl, hlt, habs, hs0, hs1⟩
        · exact ⟨_, _, _, _, i, rfl, same, rfl, hi, hr0, hs0, hs1⟩
      · exact iteF ⟨_, _, _, _, i, rfl, same, rfl, hi, hr0, hs0, hs1⟩
    · clear hd hi hr0 hs0 hs1
      rintro σ' H' ⟨i, r, sd, x2, i', rfl, rfl, rfl, hi, hr0, hs0, hs1⟩
      have hcd : ∀ o, (upd H d o) c = some (.lst (ns.map V.int)) := fun o => by rw [upd_ne ncd]; exact hc
      refine ⟨_, rfl, d, _, 2, _, rfl, rfl, SqL.of upd_same, at2, _, _, rfl, rfl, _, rfl, ite2 (fun e => ?_) (fun e => ?_)⟩
      · refine ⟨_, rfl, d, _, 2, _, rfl, rfl, SqL.of upd_same, at2, .inl ⟨_, rfl, _, rfl, _, _, rfl, rfl, hm, ?_⟩⟩
        refine ⟨_, rfl, d, _, 2, _, rfl, rfl, SqL.of upd_same, at2, .inl ⟨_, rfl, _, rfl, _, _, rfl, rfl, bndW hm hb, _, rfl, d, _, 2, 2, rfl, rfl, upd_same, rfl, ?_⟩⟩
        rw [upd_upd]
        refine ⟨_, rfl, ?_⟩
        exact q _ _ But.upd ⟨ns, i', _, sd, ncd, upd_same, hcd _, hi, Int.ediv_nonneg hr0 (by omega), hs0, hs1⟩ (Int.emod_nonneg _ (by omega)) (Int.emod_lt_of_pos _ hm)
      · refine ⟨_, rfl, d, _, 3, _, rfl, rfl, SqL.of upd_same, at3, _, _, rfl, rfl, .inl ⟨by omega, by omega⟩, _, _, rfl, rfl, .inl ⟨_, rfl, _, _, rfl, rfl, (by show (0 : Int) < 2147483647; decide), _, rfl, d, _, 3, 3, rfl, rfl, upd_same, rfl, ?_⟩⟩
        rw [upd_upd]
        refine ⟨_, rfl, d, _, 3, _, rfl, rfl, SqL.of upd_same, at3, _, _, rfl, rfl, ⟨by decide, by decide⟩, .inl ⟨_, rfl, _, rfl, _, _, rfl, rfl, hm, ?_⟩⟩
        exact q _ _ But.upd ⟨ns, i', r, _, ncd, upd_same, hcd _, hi, hr0, Int.emod_nonneg _ (by decide), Int.emod_lt_of_pos _ (by decide)⟩ (Int.emod_nonneg _ (by omega)) (Int.emod_lt_of_pos _ hm)
def spSigned : Sp := fun vs H Q _ => ∃ (d c : Addr) (m : Int), vs = [.ref d, .int m] ∧ DrAt H d c ∧ 0 ≤ m ∧ Bnd (2 * m + 1) ∧
  ∀ H' v, But d H H' → DrAt H' d c → -m ≤ v → v ≤ m → Q (.int v) H'
theorem scS : FnScope ["d", "most"] ["d", "most"] (defScope sSigned) := ⟨rfl, rfl, rfl, by decide +kernel, rfl, by decide +kernel, by decide +kernel⟩
theorem ok_signed {f fT : Addr} {fd fdT : FuncData} (F : Fun K "_law_signed" "_law_signed" sSigned f fd) (GT : FnOk P w K mg base CX0 1 fT fdT ["d", "many"] spTake) (kT : PySem.W.keepIn K (.ref fT) = true) (bT : Binds K fdT ["d", "many"] []) (gT : mg "_law_take" = some (.ref fT)) : FnOk P w K mg base CX0 2 f fd ["d", "most"] spSigned := by
  refine F.ok scS (fun vs H Q E h => ?_) (fun cdv A outer s H vs Q E hr h => ?_)
  · obtain ⟨d, c, m, rfl, _⟩ := h
    rfl
  · obtain ⟨d, c, m, rfl, dr, h0, hb, q⟩ := h
    refine ⟨_, pss_one (ps_ret (pe_op op_sub (pe_call GT hr (by rfl) gT kT bT .nil pass0 (pa_cons (pv 0) (pa_cons (pe_op op_add (pe_op op_mul pe_int (pv 1)) pe_int) pa_nil))) (pv 1))), ?_⟩
    refine ⟨_, rfl, _, rfl, _, _, rfl, rfl, .inl ⟨by omega, by omega⟩, _, _, rfl, rfl, d, c, _, rfl, dr, by omega, hb, fun H' v k dr' v0 v1 => ?_⟩
    exact ⟨_, rfl, _, _, rfl, rfl, q _ _ k dr' (by omega) (by omega)⟩
end
/-! ### small facts -/
theorem same_upd {H : Hp} {p : Addr} {o : HO} (h : H p = none) : Same H (upd H p o) := fun b x e => by
  rw [upd_ne (ne_of_none e h)]
  exact e
theorem sqT_same {K : PySem.W.Frag} {H H' : Hp} {a : Addr} {xs : List V} (h : SqT K H a xs) (s : Same H H') : SqT K H' a xs := by
  rcases h with (h | ⟨o, h⟩) | h
  · exact .inl (.inl (s _ _ h))
  · exact .inl (.inr ⟨o, s _ _ h⟩)
  · exact .inr h
theorem sqL_same {K : PySem.W.Frag} {H H' : Hp} {a : Addr} {xs : List V} (h : SqL K H a xs) (s : Same H H') : SqL K H' a xs := by
  rcases h with (h | ⟨o, h⟩) | h
  · exact .inl (.inl (s _ _ h))
  · exact .inl (.inr ⟨o, s _ _ h⟩)
  · exact .inr h
theorem map_int_at {ns : List Int} {i : Nat} {x : V} (h : (ns.map V.int)[i]? = some x) : ∃ n, x = .int n ∧ ns[i]? = some n := by
  rw [List.getElem?_map] at h
  cases e : ns[i]? with
  | none => rw [e] at h; cases h
  | some n => rw [e] at h; exact ⟨n, (Option.some.inj h).symm, rfl⟩
theorem map_ref_at {ns : List Addr} {i : Nat} {x : V} (h : (ns.map V.ref)[i]? = some x) : ∃ n, x = .ref n ∧ ns[i]? = some n := by
  rw [List.getElem?_map] at h
  cases e : ns[i]? with
  | none => rw [e] at h; cases h
  | some n => rw [e] at h; exact ⟨n, (Option.some.inj h).symm, rfl⟩
theorem drop_at {α : Type} {l : List α} {i : Nat} {x : α} (h : l[i]? = some x) : l.drop i = x :: l.drop (i + 1) := by
  obtain ⟨hi, e⟩ := List.getElem?_eq_some_iff.mp h
  rw [List.drop_eq_getElem_cons hi, e]
theorem take_snoc {α : Type} {l : List α} {i : Nat} {x : α} (h : l[i]? = some x) : l.take (i + 1) = l.take i ++ [x] := by
  rw [List.take_add_one, h]
  rfl
theorem txt_len (a b : Str) : (a ++ b).length = a.length + b.length := PySem.Str.length_append a b
theorem bnd_le {m : Int} (h : m ≤ 1000000) : Bnd m := by
  unfold Bnd
  have : (1000000 : Int) < 2 ^ 400 := by decide +kernel
  omega
theorem keepD {d b : Addr} {H H' : Hp} {o : HO} (k : But d H H') (h : b ≠ d) (hb : H b = some o) : H' b = some o := by rw [k b h]; exact hb
theorem atI_zero {α : Type} {x : α} {xs : List α} : atI (x :: xs) (0 : Int) = some x := by
  show ((if (0 : Int) ≤ 0 then (if (0 : Int) < ((x :: xs).length : Int) then some (Int.toNat 0) else none) else _).bind _) = _
  rw [if_pos (Int.le_refl 0), if_pos (by rw [List.length_cons]; omega)]
  rfl
/-! ### enumerate of a tuple; zip of two tuples as a walk -/
section
open PySem.AutoSeq1 (wpAny_loadPart')
open PySem.Spec PyProof.Rows
theorem meets_enumerate_newT (l : Addr) (items : Array Value) (n : Nat) (dct : Option Addr) (sl : Array (Option Value)) :
    Meets (Builtin.«enumerate.__new__» ⟨[.type "enumerate", .ref l], []⟩) (fun _ R s => s.heap.get? l = some { cls := .type "tuple", dict := dct, data := .seq items n, slots := sl } ∧
      R (.ok (.ret (.ref (s.heap.push { cls := .type "tuple_iterator", data := .fields #[.ref l, .int 0 0] }).objs.size)))
        { s with heap := (s.heap.push { cls := .type "tuple_iterator", data := .fields #[.ref l, .int 0 0] }).push { cls := .type "enumerate", data := .fields #[.none, .bool false, .ref s.heap.objs.size, rawInt 0, .none, .none] } }) :=
  .of_wp fun prog w A R s h => by
    obtain ⟨hp, g, d, tk, os⟩ := s; obtain ⟨hl, h⟩ := h
    have hsub := sub_enumerate
    have hL : Heap.IsTuple (Shared.heap ⟨hp, g, d, tk, os⟩) l items := ⟨_, hl, rfl, n, rfl⟩
    wp_walk using wpAny_loadPart' hl
    refine wpAny_stack_any fun st => wpAny_pure ?_
    split
    · rename_i c _ _ _ _ _
      cases (c == Value.type "enumerate")
      · wp_walk using wpAny_loadPart' hl, wpAny_pyIter_tuple hL
        exact ⟨_, rfl, h⟩
      · wp_walk using wpAny_loadPart' hl, wpAny_pyIter_tuple hL
        exact ⟨_, rfl, h⟩
    · wp_walk using wpAny_loadPart' hl, wpAny_pyIter_tuple hL
      exact ⟨_, rfl, h⟩
variable {prog : Program} {w : World} {A : Around} {E : Value → Shared → Prop} {s : Shared}
theorem call_enumerate_tuple {l : Addr} {items : Array Value} {Q : Value → Shared → Prop} (hL : s.heap.IsTuple l items)
    (h : ∀ h', IsEnum h' (s.heap.objs.size + 1) s.heap.objs.size 0 .none → h'.IsTupleIter s.heap.objs.size l 0 → h'.objs.size = s.heap.objs.size + 2 →
      (∀ b o, s.heap.get? b = some o → h'.get? b = some o) → Q (.ref (s.heap.objs.size + 1)) { s with heap := h' }) :
    wpAny (model prog w) A (call (.type "enumerate") [.ref l]) Q E s := by
  obtain ⟨⟨c, dct, dt, sl⟩, hl, hc, n, hd⟩ := hL
  replace hc : c = .type "tuple" := hc
  replace hd : dt = .seq items n := hd
  subst hc hd
  refine callType_new F.called_enumerate (by decide) (F.typeCall_enumerate_1 _) (F.newCall_enumerate_1 _) (fun obj => F.args_object_init_2 obj _) F.entry_enumerate_new
    (meets_enumerate_newT l items n dct sl) ⟨hl, ?_⟩
  have hz : (s.heap.push { cls := .type "tuple_iterator", data := .fields #[.ref l, .int 0 0] }).objs.size = s.heap.objs.size + 1 := Heap.size_push ..
  show _ ∧ _
  rw [hz]
  have he : IsEnum ((s.heap.push { cls := .type "tuple_iterator", data := .fields #[.ref l, .int 0 0] }).push
      { cls := .type "enumerate", data := .fields #[.none, .bool false, .ref s.heap.objs.size, rawInt 0, .none, .none] }) (s.heap.objs.size + 1) s.heap.objs.size 0 .none := by
    have := Heap.get?_push_size (s.heap.push { cls := .type "tuple_iterator", data := .fields #[.ref l, .int 0 0] })
      (o := { cls := .type "enumerate", data := .fields #[.none, .bool false, .ref s.heap.objs.size, rawInt 0, .none, .none] }) rfl
    rw [hz] at this; exact this
  refine ⟨⟨_, he, rfl⟩, h _ he ⟨_, Heap.get?_push_of_some _ (Heap.get?_push_size _ rfl), rfl, rfl⟩ (by rw [Heap.size_push, hz]) fun b o x => Heap.get?_push_of_some _ (Heap.get?_push_of_some _ x)⟩
/-- the tuple at a as it stands at each turn, each item in a new pair -/
def IteT (K : PySem.W.Frag) (a : Addr) : It :=
  ⟨fun i H => ∃ (xs : List V) (x : V), SqT K H a xs ∧ xs[i]? = some x, fun i H v H' => ∃ T x, v = .ref T ∧ H T = none ∧ H' = upd H T (.tup [.int (i : Nat), x]) ∧ ∀ xs, SqT K H a xs → xs[i]? = some x, fun i H => ∃ xs : List V, SqT K H a xs ∧ xs.length ≤ i⟩
theorem turn_enumT {P : Program} {w : World} {K : PySem.W.Frag} {elts : List Expr} {kk : Nat} {tpos : Pos} (a e it : Addr) (hai : a ≠ it) (hea : e ≠ a) :
    Turn P w K (.Tuple elts kk tpos) (IteT K a) [e, it] e (fun i h => (∃ old, IsEnum h e it ((i : Nat) : Int) old) ∧ h.IsTupleIter it a i ∧ e ≠ it) where
  mem := by simp
  obj := fun i h st b hb => by
    obtain ⟨⟨old, he⟩, ⟨o, ho, hc, hd⟩, _⟩ := st
    have e' : b = e ∨ b = it := by simpa using hb
    rcases e' with z | z
    · rw [z]; exact ⟨_, he, fun v q => nomatch q⟩
    · rw [z]; exact ⟨o, ho, fun v q => by rw [hd] at q; cases q⟩
  keep := fun i h h' st k => let ⟨⟨old, he⟩, hi, hne⟩ := st; ⟨⟨old, k e (by simp) _ he⟩, hi.at fun o q => k it (by simp) o q, hne⟩
  item := by
    intro X hP hw hK hc i pins s σ H E I hf st hg
    subst hP hw hK
    obtain ⟨⟨old, he⟩, hit, hne⟩ := st
    obtain ⟨xs, x, hq, hx⟩ := hg
    obtain ⟨its, rv, p, hz⟩ := I.tuple hq
    obtain ⟨u, hu, ru⟩ := rv.get hx
    have hel : e < s.heap.objs.size := Heap.lt_size he
    have hil : it < s.heap.objs.size := by obtain ⟨_, q, _⟩ := hit; exact Heap.lt_size q
    have hu' : its.toArray[i]? = some u := by simpa using hu
    have hlt : i < its.toArray.size := (Array.getElem?_eq_some_iff.mp hu').1
    refine wpAny_pyNext_enum_itemD (Draws.tuple (show X.A.in1.handled = none from I.ok.hd hc) it a hai its.toArray) he ⟨hit, p⟩ hlt hne (by simp only [List.mem_cons, List.not_mem_nil, or_false, not_or]; exact ⟨hne, hea⟩) fun x' h' tk hP' ho hit' hT hsz hk => ?_
    have hP' : its.toArray[i]? = some x' := hP'
    rw [hu'] at hP'
    cases hP'
    refine ⟨_, rfl, wpAny_letOwnedTupleGo_enum (s := { s with heap := h', toks := tk + 1 }) ho fun h'' he' sb => ?_⟩
    have hT2 : h''.get? s.heap.objs.size = some { cls := .type "tuple", data := .seq #[.int i tk, u] } := (sb.2 _ (Nat.ne_of_gt hel)).trans hT
    have new : ObjOk X.prog X.w (upd H s.heap.objs.size (.tup [.int (i : Nat), x])) h'' s.heap.objs.size (.tup [.int (i : Nat), x]) :=
      ⟨by show 2 ≤ sizeLine; decide, [.int i tk, u], .cons ⟨_, rfl⟩ (.cons ru .nil), ⟨_, hT2, rfl, _, rfl⟩⟩
    have I1 : Inv X pins σ (upd H s.heap.objs.size (.tup [.int (i : Nat), x])) { s with heap := h'', toks := tk + 1 } :=
      I.turnedNew (ch := [e, it]) (fun b ob hb q => (sb.2 b (fun z => hb (by simp [z]))).trans (hk b ob (fun z => hb (by simp [z])) (fun z => hb (by simp [z])) q)) hf (Nat.le_refl _) new
    refine ⟨.ref s.heap.objs.size, _, I1, rfl, ⟨_, x, rfl, I.hok.fresh (Nat.le_refl _), rfl, fun ys hy => by rw [I.tuple_inj hy hq]; exact hx⟩, ⟨⟨u, ?_⟩, hit'.1.at fun o q => (sb.2 it (Ne.symm hne)).trans q, hne⟩, fun b hb => ?_⟩
    · have e1 : ((i + 1 : Nat) : Int) = (i : Int) + 1 := by omega
      rw [e1]; exact he'
    · have hb' : b < s.heap.objs.size := by
        have e' : b = e ∨ b = it := by simpa using hb
        rcases e' with z | z
        · rw [z]; exact hel
        · rw [z]; exact hil
      rw [upd_ne (Nat.ne_of_lt hb')]
      exact (hf b hb).1
  done := by
    intro X hP hw hK hc i pins s σ H E I hf st hg
    subst hP hw hK
    obtain ⟨⟨old, he⟩, hit, hne⟩ := st
    obtain ⟨xs, hq, hx⟩ := hg
    obtain ⟨its, rv, p, hz⟩ := I.tuple hq
    obtain ⟨f0, f1, f2, f3, f4, f5⟩ := hf it (by simp)
    have hl := rv.length
    unfold pyNext
    have hT : s.TypeIs (.ref e) "enumerate" := ⟨_, he, rfl⟩
    refine wpAny_bind (wpAny_attempt (wpAny_callSpecial?_slot (name := Str.ofString "__next__") hT F.slot_enumerate_next
      (wpAny_call_entry F.slot_enumerate_next hT F.entry_enumerate_next ?_ (F.args_enumerate_next_1 _))))
    show wpAny _ _ (field (.ref e) 2 >>= _) _ _ _
    refine wpAny_bind (wpAny_field he rfl (x := .ref it) rfl ?_)
    refine wpAny_bind (wpAny_nextOf_tuple_end (show X.A.in1.handled = none from I.ok.hd hc) hit p (by simp; omega) fun h' x he' hx' => ?_)
    obtain ⟨o, ho, hc'⟩ := hx'
    refine wpAny_bind (wpAny_isInstance (T := "StopIteration") (b := true) ⟨o, ho, hc'⟩ isSubtype_stop ?_)
    exact wpAny_pure ⟨rfl, I.turned (t' := s.toks) (fun b o hb q => he' b o hb q) f0 f1 f3 f4 f5⟩
  self := fun A i s Q E st h => let ⟨⟨_, he⟩, _⟩ := st; wpAny_pyIter_enum he h
def iEnumT (K : PySem.W.Frag) (ta : TA) : TI := fun σ H R => ta σ H fun vs H1 => ∃ a xs, vs = [.ref a] ∧ SqT K H1 a xs ∧ R (IteT K a) H1
theorem pi_enumT {X : Cx} {e : Expr} {ta : TA} {p pos tpos : Pos} {elts : List Expr} {kk : Nat} (hg : Gl X "enumerate") (hm : X.mg "enumerate" = none) (ha : PA X [e] ta) (hs : starEach [e] X.env = [(false, eval e X.env)] := by rfl) :
    PI X (.Tuple elts kk tpos) (.Call (.Name "enumerate" p) [e] [] pos) (iEnumT X.K ta) := by
  refine ⟨fun pins s σ H R I h => ?_⟩
  refine Call_ (ld_blt I hg hm boot_enumerate (PyProof.Rows.callWith_type1 (thn (ha.run pos pins s σ H _ I h) fun us s1 ⟨vs, H1, I1, r1, q1⟩ => ?_) hs rfl))
  obtain ⟨a, xs, ex, hq, q⟩ := q1
  subst ex
  cases r1 with
  | cons r rr =>
    cases rr
    cases r
    obtain ⟨its, rv, p', hz⟩ := I1.tuple hq
    have hal : a < s1.heap.objs.size := by obtain ⟨_, q, _⟩ := id p'; exact Heap.lt_size q
    refine call_enumerate_tuple (show s1.heap.IsTuple a its.toArray from p') fun h' he hit hsz hk => wpAny_pyIter_enum he ?_
    have I2 : Inv X pins σ H1 { s1 with heap := h' } := I1.kept (t' := s1.toks) hk
    refine ⟨s1.heap.objs.size + 1, [s1.heap.objs.size + 1, s1.heap.objs.size], _, _, H1, rfl, I2, turn_enumT a (s1.heap.objs.size + 1) s1.heap.objs.size (Nat.ne_of_lt hal) (Nat.ne_of_gt (Nat.lt_succ_of_lt hal)), ⟨⟨.none, he⟩, hit, Nat.succ_ne_self _⟩, fun b hb => ?_, q⟩
    have e' : b = s1.heap.objs.size + 1 ∨ b = s1.heap.objs.size := by simpa using hb
    have hle : s1.heap.objs.size ≤ b := by
      rcases e' with z | z
      · rw [z]; exact Nat.le_add_right _ _
      · rw [z]; exact Nat.le_refl _
    exact I1.fpOk hle (I1.hok.fresh hle)
theorem walk_enumT {K : PySem.W.Frag} {a : Addr} {xs : List V} : Walk (IteT K a) xs.length (fun H => SqT K H a xs) (YPair (fun i => some (.int (i : Nat))) (fun i => xs[i]?)) := by
  refine ⟨fun i _ hi q => ⟨xs, xs[i], q, by simp [hi]⟩, fun _ q => ⟨xs, q, Nat.le_refl _⟩, fun i H v H' _ q y => ?_⟩
  obtain ⟨T, x, h1, h2, h3, h4⟩ := y
  exact ⟨T, .int (i : Nat), x, h1, h2, h3, rfl, h4 xs q⟩
theorem walk_zipT {K : PySem.W.Frag} {a b : Addr} {xs ys : List V} {n : Nat} (hn : n = min xs.length ys.length) : Walk (RZ.ItzT K a b) n (fun H => SqT K H a xs ∧ SqT K H b ys) (YPair (fun i => xs[i]?) (fun i => ys[i]?)) := by
  subst hn
  refine ⟨fun i _ hi q => ?_, fun _ q => ⟨xs, ys, q.1, q.2, by omega⟩, fun i H v H' _ q y => ?_⟩
  · have h1 : i < xs.length := by omega
    have h2 : i < ys.length := by omega
    exact ⟨xs, ys, xs[i], ys[i], q.1, q.2, by simp [h1], by simp [h2]⟩
  · obtain ⟨T, x, y', h1, h2, h3, h4, h5⟩ := y
    exact ⟨T, x, y', h1, h2, h3, h4 xs q.1, h5 ys q.2⟩
end
/-! ### data of loop programs -/
def TK (H H' : Hp) : Prop := ∀ a xs, H a = some (.tup xs) → H' a = some (.tup xs)
theorem TK.refl (H : Hp) : TK H H := fun _ _ h => h
theorem TK.trans {H H1 H2 : Hp} (a : TK H H1) (b : TK H1 H2) : TK H H2 := fun p xs h => b p xs (a p xs h)
theorem same_tk {H H' : Hp} (s : Same H H') : TK H H' := fun p xs h => s _ _ h
theorem tk_new {H : Hp} {p : Addr} {o : HO} (h : H p = none) : TK H (upd H p o) := same_tk (same_upd h)
theorem tk_lst {H : Hp} {p : Addr} {o : HO} {ys : List V} (h : H p = some (.lst ys)) : TK H (upd H p o) := fun b xs e => by
  rw [upd_ne (ne_of e h (fun z => nomatch z))]
  exact e
theorem same_updN {H H' : Hp} {p : Addr} {o : HO} (s : Same H H') (h : H p = none) : Same H (upd H' p o) := fun b x e => by
  rw [upd_ne (ne_of_none e h)]
  exact s _ _ e
def Each {α : Type} (R : V → α → Prop) : List V → List α → Prop
  | [], [] => True
  | v :: vs, b :: bs => R v b ∧ Each R vs bs
  | _, _ => False
section
variable {α : Type} {R R' : V → α → Prop}
theorem Each.len : ∀ {vs : List V} {bs : List α}, Each R vs bs → vs.length = bs.length
  | [], [], _ => rfl
  | v :: vs, b :: bs, h => by rw [List.length_cons, List.length_cons, Each.len h.2]
  | [], _ :: _, h => h.elim
  | _ :: _, [], h => h.elim
theorem Each.at : ∀ {vs : List V} {bs : List α} {i : Nat} {v : V}, Each R vs bs → vs[i]? = some v → ∃ b, bs[i]? = some b ∧ R v b
  | [], _, _, _, _, h => by simp at h
  | v :: vs, b :: bs, 0, w, h, e => by
    simp only [List.getElem?_cons_zero, Option.some.injEq] at e
    subst e
    exact ⟨b, rfl, h.1⟩
  | v :: vs, b :: bs, i + 1, w, h, e => by
    simp only [List.getElem?_cons_succ] at e
    obtain ⟨c, h1, h2⟩ := Each.at h.2 e
    exact ⟨c, by simpa using h1, h2⟩
  | _ :: _, [], _, _, h, _ => h.elim
theorem Each.append : ∀ {vs : List V} {bs : List α} {ws : List V} {cs : List α}, Each R vs bs → Each R ws cs → Each R (vs ++ ws) (bs ++ cs)
  | [], [], _, _, _, h => h
  | v :: vs, b :: bs, _, _, h, h' => ⟨h.1, Each.append h.2 h'⟩
  | [], _ :: _, _, _, h, _ => h.elim
  | _ :: _, [], _, _, h, _ => h.elim
theorem Each.mono (f : ∀ v b, R v b → R' v b) : ∀ {vs : List V} {bs : List α}, Each R vs bs → Each R' vs bs
  | [], [], _ => True.intro
  | v :: vs, b :: bs, h => ⟨f _ _ h.1, Each.mono f h.2⟩
  | [], _ :: _, h => h.elim
  | _ :: _, [], h => h.elim
theorem Each.one {v : V} {b : α} (h : R v b) : Each R [v] [b] := ⟨h, True.intro⟩
end
theorem flat_take {bss : List (List Nat)} {i : Nat} {b : List Nat} (h : bss[i]? = some b) : (bss.take (i + 1)).flatten = (bss.take i).flatten ++ b := by
  rw [take_snoc h, List.flatten_append]
  simp
inductive ShE (H : Hp) : Str → List V → List Nat → List V → Prop
  | number (x : V) : ShE H "number" [x] [] []
  | index (x : V) : ShE H "index" [x] [] []
  | load (k : Nat) (x : V) : ShE H "load" [.int k, x] [k] []
  | pick (k : Nat) (x y z e : V) : ShE H "pick" [.int k, x, y, z, e] [k] [e]
  | guard (x e1 e2 : V) : ShE H "guard" [x, e1, e2] [] [e1, e2]
  | apply (x : V) (t : Addr) (y : V) (es : List V) (h : H t = some (.tup es)) (l : es.length ≤ 3) : ShE H "apply" [x, .ref t, y] [] es
def ExH (H : Hp) : Nat → V → List Nat → Prop
  | 0, _, _ => False
  | n + 1, v, bs => ∃ (a : Addr) (nm : Str) (rest : List V) (ow : List Nat) (es : List V) (bss : List (List Nat)), v = .ref a ∧ H a = some (.tup (.str nm :: rest)) ∧ ShE H nm rest ow es ∧ Each (ExH H n) es bss ∧ bs = ow ++ bss.flatten
theorem ShE.tk {H H' : Hp} {nm : Str} {rest : List V} {ow : List Nat} {es : List V} (k : TK H H') (h : ShE H nm rest ow es) : ShE H' nm rest ow es := by
  cases h with
  | number x => exact .number x
  | index x => exact .index x
  | load q x => exact .load q x
  | pick q x y z e => exact .pick q x y z e
  | guard x e1 e2 => exact .guard x e1 e2
  | apply x t y es h l => exact .apply x t y es (k _ _ h) l
theorem ExH.tk {H H' : Hp} (k : TK H H') : ∀ {n : Nat} {v : V} {bs : List Nat}, ExH H n v bs → ExH H' n v bs
  | 0, _, _, h => h
  | n + 1, v, bs, ⟨a, nm, rest, ow, es, bss, h1, h2, h3, h4, h5⟩ => ⟨a, nm, rest, ow, es, bss, h1, k _ _ h2, h3.tk k, h4.mono fun _ _ h => ExH.tk k h, h5⟩
theorem ShE.le {H : Hp} {nm : Str} {rest : List V} {ow : List Nat} {es : List V} (h : ShE H nm rest ow es) : es.length ≤ 3 ∧ ow.length ≤ 1 := by
  cases h with
  | apply x t y es h l => exact ⟨l, by simp⟩
  | _ => exact ⟨by simp, by simp⟩
inductive ShS (H : Hp) : Str → List V → List Nat → List V → Prop
  | put (k : Nat) (x e : V) (b : List Nat) (h : ExH H 3 e b) : ShS H "put" [.int k, x, e] (k :: b) []
  | copy (k : Nat) (x : V) (j : Nat) (y z : V) : ShS H "copy" [.int k, x, .int j, y, z] [k, j] []
  | loop (x y z w : V) (t : Addr) (es : List V) (h : H t = some (.tup es)) (l : es.length ≤ 2) : ShS H "loop" [x, y, z, w, .ref t] [] es
  | when (x : V) (t : Addr) (es : List V) (h : H t = some (.tup es)) (l : es.length ≤ 2) : ShS H "when" [x, .ref t] [] es
def StH (H : Hp) : Nat → V → List Nat → Prop
  | 0, _, _ => False
  | n + 1, v, bs => ∃ (a : Addr) (nm : Str) (rest : List V) (ow : List Nat) (es : List V) (bss : List (List Nat)), v = .ref a ∧ H a = some (.tup (.str nm :: rest)) ∧ ShS H nm rest ow es ∧ Each (StH H n) es bss ∧ bs = ow ++ bss.flatten
theorem ShS.tk {H H' : Hp} {nm : Str} {rest : List V} {ow : List Nat} {es : List V} (k : TK H H') (h : ShS H nm rest ow es) : ShS H' nm rest ow es := by
  cases h with
  | put q x e b h => exact .put q x e b (h.tk k)
  | copy q x j y z => exact .copy q x j y z
  | loop x y z w t es h l => exact .loop x y z w t es (k _ _ h) l
  | when x t es h l => exact .when x t es (k _ _ h) l
theorem StH.tk {H H' : Hp} (k : TK H H') : ∀ {n : Nat} {v : V} {bs : List Nat}, StH H n v bs → StH H' n v bs
  | 0, _, _, h => h
  | n + 1, v, bs, ⟨a, nm, rest, ow, es, bss, h1, h2, h3, h4, h5⟩ => ⟨a, nm, rest, ow, es, bss, h1, k _ _ h2, h3.tk k, h4.mono fun _ _ h => StH.tk k h, h5⟩
def tabE : List (Str × Int) := [("number", 2), ("index", 2), ("load", 3), ("pick", 6), ("apply", 4), ("guard", 4)]
def tabS : List (Str × Int) := [("loop", 6), ("when", 3), ("put", 4), ("copy", 6)]
theorem ShE.tab {H : Hp} {nm : Str} {rest : List V} {ow : List Nat} {es : List V} (x : V) (h : ShE H nm rest ow es) : (nm, ((x :: rest).length : Int)) ∈ tabE := by
  cases h <;> simp [tabE]
theorem ShS.tab {H : Hp} {nm : Str} {rest : List V} {ow : List Nat} {es : List V} (x : V) (h : ShS H nm rest ow es) : (nm, ((x :: rest).length : Int)) ∈ tabS := by
  cases h <;> simp [tabS]
def OwnP (H : Hp) (v : V) (b : List Nat) : Prop := ∃ (p a : Addr) (l : V) (nm : Str) (rest es : List V), v = .ref p ∧ H p = some (.tup [.ref a, l]) ∧ H a = some (.tup (.str nm :: rest)) ∧ ShE H nm rest b es
def OwnS (H : Hp) (v : V) (b : List Nat) : Prop := ∃ (p a : Addr) (l : V) (nm : Str) (rest es : List V), v = .ref p ∧ H p = some (.tup [.ref a, l]) ∧ H a = some (.tup (.str nm :: rest)) ∧ ShS H nm rest b es
theorem OwnP.tk {H H' : Hp} (k : TK H H') {v : V} {b : List Nat} : OwnP H v b → OwnP H' v b
  | ⟨p, a, l, nm, rest, es, h1, h2, h3, h4⟩ => ⟨p, a, l, nm, rest, es, h1, k _ _ h2, k _ _ h3, h4.tk k⟩
theorem OwnS.tk {H H' : Hp} (k : TK H H') {v : V} {b : List Nat} : OwnS H v b → OwnS H' v b
  | ⟨p, a, l, nm, rest, es, h1, h2, h3, h4⟩ => ⟨p, a, l, nm, rest, es, h1, k _ _ h2, k _ _ h3, h4.tk k⟩
theorem eachP_tk {H H' : Hp} (k : TK H H') {vs : List V} {bs : List (List Nat)} (h : Each (OwnP H) vs bs) : Each (OwnP H') vs bs := h.mono fun _ _ h => h.tk k
theorem eachS_tk {H H' : Hp} (k : TK H H') {vs : List V} {bs : List (List Nat)} (h : Each (OwnS H) vs bs) : Each (OwnS H') vs bs := h.mono fun _ _ h => h.tk k
theorem each_le {R : V → List Nat → Prop} {m : Nat} (f : ∀ v b, R v b → b.length ≤ m) : ∀ {vs : List V} {bs : List (List Nat)}, Each R vs bs → bs.flatten.length ≤ m * vs.length
  | [], [], _ => Nat.zero_le _
  | v :: vs, b :: bs, h => by
    have h1 := f _ _ h.1
    have h2 := each_le f h.2
    rw [List.flatten_cons, List.length_append, List.length_cons, Nat.mul_succ]
    omega
  | [], _ :: _, h => h.elim
  | _ :: _, [], h => h.elim
theorem ExH.le {H : Hp} : ∀ {n : Nat} {v : V} {bs : List Nat}, ExH H n v bs → bs.length ≤ 4 ^ n
  | 0, _, _, h => h.elim
  | n + 1, v, bs, ⟨a, nm, rest, ow, es, bss, h1, h2, h3, h4, h5⟩ => by
    have l1 := each_le (fun _ _ h => ExH.le h) h4
    have l2 := h3.le
    have l3 : 4 ^ n * es.length ≤ 4 ^ n * 3 := Nat.mul_le_mul_left _ l2.1
    have l4 : 0 < 4 ^ n := Nat.pow_pos (by decide)
    rw [h5, List.length_append, Nat.pow_succ]
    omega
theorem ShS.le {H : Hp} {nm : Str} {rest : List V} {ow : List Nat} {es : List V} (h : ShS H nm rest ow es) : es.length ≤ 2 ∧ ow.length ≤ 65 := by
  cases h with
  | put q x e b h =>
    have := h.le
    exact ⟨by decide, by rw [List.length_cons]; omega⟩
  | copy q x j y z => exact ⟨by simp, by simp⟩
  | loop x y z w t es h l => exact ⟨l, by simp⟩
  | when x t es h l => exact ⟨l, by simp⟩
theorem OwnS.le {H : Hp} {v : V} {b : List Nat} : OwnS H v b → b.length ≤ 65
  | ⟨_, _, _, _, _, _, _, _, _, h4⟩ => h4.le.2
theorem OwnP.le {H : Hp} {v : V} {b : List Nat} : OwnP H v b → b.length ≤ 1
  | ⟨_, _, _, _, _, _, _, _, _, h4⟩ => h4.le.2
/-! ### get of a dict of the module's top; a statement that is not reached -/
theorem ps_no {X : Cx} {st : Stmt} : PS X st (fun _ _ _ => False) := ⟨fun _ _ _ _ _ _ h => h.elim⟩
theorem pe_kget {X : Cx} {o e : Expr} {apos cpos : Pos} {td ty : TE} {d : Addr} {es : Array DictEntry} {n : Nat} (D : KDict X.K X.w d es n) (ho : PE X o td) (he : PE X e ty) (m : M1 X o (Str.ofString "get") apos e cpos) :
    PE X ((o.Attribute (Str.ofString "get") apos).Call [e] [] cpos) (fun σ H Q => td σ H fun x H1 => x = .ref d ∧ ty σ H1 fun y H2 => ∃ (z : Str) (u0 : Value) (v0 : V), y = .str z ∧ PySem.W.nsIn X.K d z = some (some u0) ∧ RelV v0 u0 ∧ Q v0 H2) :=
  ⟨fun pins s σ H Q I h => by
    refine wpAny_Call_method m.base m.few m.line F.plainAttrs_dict F.slot_dict_get F.type_dict_get (thn (ho.run pins s σ H _ I h) ?_)
    rintro u s1 ⟨x, H1, I1, rx, ex, q1⟩
    subst ex
    cases rx
    obtain ⟨ob, es', ep, hob, hex, _⟩ := (W.mapOf_K (prog := X.prog) I1.kIn D.at_ D.lit)
    refine ⟨⟨ob, hob, hex.1⟩, fun b eb => ?_, ?_⟩
    · cases eb
      exact ⟨ob, hob, hex.2.1⟩
    rw [m.trees]
    refine Calls.callWith_builtin rfl (Calls.evalArgs_plain (Calls.spliced_cons (thn (he.run pins s1 σ H1 _ I1 q1) ?_)))
    rintro iv s2 ⟨y, H2, I2, ry, z, u0, v0, ey, hn, hr, q2⟩
    subst ey
    obtain ⟨t, rfl⟩ := ry
    refine Calls.spliced_nil ?_
    obtain ⟨ob, es', ep, hob, hex, _⟩ := (W.mapOf_K (prog := X.prog) I2.kIn D.at_ D.lit)
    refine call_meetsIn F.slot_dict_get ⟨ob, hob, hex.1⟩ F.entry_dict_get (F.args_dict_get_2 (Value.ref d) _) (meets_dict_get (strKind X.prog X.w) d (strKind_is X.prog X.w z t) D.low)
      ⟨_, W.mapOf_K I2.kIn D.at_ D.lit, ?_⟩
    rw [W.find_K D.at_ hn]
    exact ⟨v0, H2, Inv.tok I2 (s2.toks + 1), hr, q2⟩⟩
section
variable {P : Program} {w : World} {K : PySem.W.Frag} {mg : Str → Option Value} {base : Heap}
structure Txt42 (mg : Str → Option Value) extends TxtD mg where
  range : mg "range" = none
  tuple : mg "tuple" = none
  isi : mg "isinstance" = none
  bool : mg "bool" = none
  enumerate : mg "enumerate" = none
  max : mg "max" = none
  min : mg "min" = none
  any : mg "any" = none
structure TabR (K : PySem.W.Frag) (w : World) (mg : Str → Option Value) (dE dS : Addr) (esE esS : Array DictEntry) (nE nS : Nat) : Prop where
  gE : mg "_EXPRESSION_LENGTHS" = some (.ref dE)
  gS : mg "_STATEMENT_LENGTHS" = some (.ref dS)
  kE : KDict K w dE esE nE
  kS : KDict K w dS esS nS
  tE : ∀ nm L, (nm, L) ∈ tabE → ∃ u, PySem.W.nsIn K dE nm = some (some u) ∧ RelV (.int L) u
  tS : ∀ nm L, (nm, L) ∈ tabS → ∃ u, PySem.W.nsIn K dS nm = some (some u) ∧ RelV (.int L) u
theorem vlen {xs : List V} : ((xs.length : Nat) : Int) = ((xs.length : Nat) : Int) := rfl
theorem tyL {H : Hp} {D : Addr} {xs : List V} (h : H D = some (.lst xs)) : tyV K "list" (.ref D) H := .inl ⟨rfl, _, SqL.of h⟩
def spName : Sp := fun vs H Q _ => ∃ (a : Addr) (nm : Str) (rest : List V), vs = [.ref a] ∧ H a = some (.tup (.str nm :: rest)) ∧ Q (.str nm) H
abbrev nNm : List Str := ["thing"]
theorem scNm : FnScope nNm ["thing"] (defScope sName) := ⟨rfl, rfl, rfl, by decide +kernel, rfl, by decide +kernel, by decide +kernel⟩
theorem ok_name {f : Addr} {fd : FuncData} (F : Fun K "_name_of" "_name_of" sName f fd) (T : Txt42 mg) : FnOk P w K mg base CX0 1 f fd ["thing"] spName := by
  refine F.ok scNm (fun vs H Q E h => ?_) (fun cdv A outer s H vs Q E hr h => ?_)
  · obtain ⟨a, nm, rest, rfl, _⟩ := h
    rfl
  · obtain ⟨a, nm, rest, rfl, ha, q⟩ := h
    refine ⟨_, (pss_one (ps_ret (pe_ifExp (pt_cmpR op_gt (pe_callB call_len_seq (by rfl) T.len PySem.boot_len (pa_cons (pv 0) pa_nil)) pe_int (nomark _)) (pe_ix ix_tup (pv 0) pe_int (fun _ _ => rfl)) pe_str))), ?_⟩
    refine ⟨_, rfl, a, _, rfl, .inr (SqT.of ha), _, _, rfl, rfl, _, rfl, ?_⟩
    rw [decide_eq_true (show (0 : Int) < (((V.str nm :: rest).length : Nat) : Int) by rw [List.length_cons]; omega)]
    exact iteT ⟨_, rfl, a, _, _, _, rfl, rfl, SqT.of ha, atI_zero, q⟩
def spCheckL : Sp := fun vs H Q _ => ∃ (a : Addr) (xs : List V) (L : Int), vs = [.ref a, .int L] ∧ H a = some (.tup xs) ∧ (xs.length : Int) = L ∧ Q .non H
abbrev nCl : List Str := ["thing", "length"]
theorem scCl : FnScope nCl ["thing", "length"] (defScope sCheckL) := ⟨rfl, rfl, rfl, by decide +kernel, rfl, by decide +kernel, by decide +kernel⟩
theorem ok_checkl {f : Addr} {fd : FuncData} (F : Fun K "_check_length" "_check_length" sCheckL f fd) (T : Txt42 mg) : FnOk P w K mg base CX0 1 f fd ["thing", "length"] spCheckL := by
  refine F.ok scCl (fun vs H Q E h => ?_) (fun cdv A outer s H vs Q E hr h => ?_)
  · obtain ⟨a, xs, L, rfl, _⟩ := h
    rfl
  · obtain ⟨a, xs, L, rfl, ha, rfl, q⟩ := h
    refine ⟨_, (pss_one (ps_if (pt_cmpR op_ne (pe_callB call_len_seq (by rfl) T.len PySem.boot_len (pa_cons (pv 0) pa_nil)) (pv 1) (nomark _)) (pss_one ps_no) pss_nil)), ?_⟩
    refine ⟨_, rfl, a, _, rfl, .inr (SqT.of ha), _, rfl, rfl, _, rfl, ?_⟩
    rw [decide_eq_true (rfl : V.int (xs.length : Int) = V.int (xs.length : Int))]
    exact iteF q
def spInner : Sp := fun vs H Q _ => ∃ (a : Addr) (nm : Str) (rest : List V) (ow : List Nat) (es : List V), vs = [.ref a] ∧ H a = some (.tup (.str nm :: rest)) ∧ ShE H nm rest ow es ∧ ∀ H' q, Same H H' → H' q = some (.tup es) → Q (.ref q) H'
abbrev nIn : List Str := ["expr"]
theorem scIn : FnScope nIn ["expr"] (defScope sInner) := ⟨rfl, rfl, rfl, by decide +kernel, rfl, by decide +kernel, by decide +kernel⟩
theorem ok_inner {f : Addr} {fd : FuncData} (F : Fun K "inner_of" "inner_of" sInner f fd) : FnOk P w K mg base CX0 1 f fd ["expr"] spInner := by
  refine F.ok scIn (fun vs H Q E h => ?_) (fun cdv A outer s H vs Q E hr h => ?_)
  · obtain ⟨a, nm, rest, ow, es, rfl, _⟩ := h
    rfl
  · obtain ⟨a, nm, rest, ow, es, rfl, ha, sh, q⟩ := h
    refine ⟨_, (pss_cons (ps_if (pt_cmpR op_eq (pe_ix ix_tup (pv 0) pe_int (fun _ _ => rfl)) pe_str (nomark _)) (pss_one (ps_ret (pe_ix ix_tup (pv 0) pe_int (fun _ _ => rfl)))) pss_nil)
      (pss_cons (ps_if (pt_cmpR op_eq (pe_ix ix_tup (pv 0) pe_int (fun _ _ => rfl)) pe_str (nomark _)) (pss_one (ps_ret (pe_tup (pa_cons (pe_ix ix_tup (pv 0) pe_int (fun _ _ => rfl)) pa_nil)))) pss_nil)
      (pss_cons (ps_if (pt_cmpR op_eq (pe_ix ix_tup (pv 0) pe_int (fun _ _ => rfl)) pe_str (nomark _)) (pss_one (ps_ret (pe_tup (pa_cons (pe_ix ix_tup (pv 0) pe_int (fun _ _ => rfl)) (pa_cons (pe_ix ix_tup (pv 0) pe_int (fun _ _ => rfl)) pa_nil))))) pss_nil)
      (pss_one (ps_ret (pe_tup pa_nil)))))), ?_⟩
    have t1 : 1 ≤ sizeLine := by decide
    have t2 : 2 ≤ sizeLine := by decide
    have t0 : 0 ≤ sizeLine := by decide
    have e0 : ∀ {xs : List V}, atI (V.str nm :: xs) 0 = some (V.str nm) := atI_zero
    have last : tTup tNil [some (V.ref a)] H Q → True := fun _ => trivial
    have hF : ∀ {z1 z2 : Str}, decide (V.str z1 = V.str z2) = true → z1 = z2 := fun e => V.str.inj (of_decide_eq_true e)
    refine ⟨_, rfl, a, _, _, _, rfl, rfl, SqT.of ha, e0, rfl, _, rfl, ite2 (fun e => ?_) (fun e => ⟨_, rfl, a, _, _, _, rfl, rfl, SqT.of ha, e0, rfl, _, rfl, ite2 (fun e' => ?_) (fun e' => ⟨_, rfl, a, _, _, _, rfl, rfl, SqT.of ha, e0, rfl, _, rfl, ite2 (fun e'' => ?_) (fun e'' => ?_)⟩)⟩)⟩
    · cases sh with
      | apply x t y es h l => exact ⟨_, rfl, a, _, _, _, rfl, rfl, SqT.of ha, rfl, q _ _ (Same.refl H) h⟩
      | _ => exact absurd e (by decide +kernel)
    · cases sh with
      | pick k x y z e1 => exact ⟨_, rfl, a, _, _, _, rfl, rfl, SqT.of ha, rfl, t1, fun p np => q _ p (same_upd np) upd_same⟩
      | _ => exact absurd e' (by decide +kernel)
    · cases sh with
      | guard x e1 e2 => exact ⟨_, rfl, a, _, _, _, rfl, rfl, SqT.of ha, rfl, _, rfl, a, _, _, _, rfl, rfl, SqT.of ha, rfl, t2, fun p np => q _ p (same_upd np) upd_same⟩
      | _ => exact absurd e'' (by decide +kernel)
    · cases sh with
      | apply x t y es h l => exact absurd (by decide +kernel) e
      | pick k x y z e1 => exact absurd (by decide +kernel) e'
      | guard x e1 e2 => exact absurd (by decide +kernel) e''
      | _ => exact ⟨t0, fun p np => q _ p (same_upd np) upd_same⟩
def spBodyOf : Sp := fun vs H Q _ => ∃ (a : Addr) (nm : Str) (rest : List V) (ow : List Nat) (es : List V), vs = [.ref a] ∧ H a = some (.tup (.str nm :: rest)) ∧ ShS H nm rest ow es ∧ ∀ H' q, Same H H' → H' q = some (.tup es) → Q (.ref q) H'
abbrev nBo : List Str := ["statement"]
theorem scBo : FnScope nBo ["statement"] (defScope sBodyOf) := ⟨rfl, rfl, rfl, by decide +kernel, rfl, by decide +kernel, by decide +kernel⟩
theorem ok_bodyof {f : Addr} {fd : FuncData} (F : Fun K "body_of" "body_of" sBodyOf f fd) : FnOk P w K mg base CX0 1 f fd ["statement"] spBodyOf := by
  refine F.ok scBo (fun vs H Q E h => ?_) (fun cdv A outer s H vs Q E hr h => ?_)
  · obtain ⟨a, nm, rest, ow, es, rfl, _⟩ := h
    rfl
  · obtain ⟨a, nm, rest, ow, es, rfl, ha, sh, q⟩ := h
    refine ⟨_, (pss_cons (ps_if (pt_cmpR op_eq (pe_ix ix_tup (pv 0) pe_int (fun _ _ => rfl)) pe_str (nomark _)) (pss_one (ps_ret (pe_ix ix_tup (pv 0) pe_int (fun _ _ => rfl)))) pss_nil)
      (pss_cons (ps_if (pt_cmpR op_eq (pe_ix ix_tup (pv 0) pe_int (fun _ _ => rfl)) pe_str (nomark _)) (pss_one (ps_ret (pe_ix ix_tup (pv 0) pe_int (fun _ _ => rfl)))) pss_nil)
      (pss_one (ps_ret (pe_tup pa_nil))))), ?_⟩
    have t0 : 0 ≤ sizeLine := by decide
    have e0 : ∀ {xs : List V}, atI (V.str nm :: xs) 0 = some (V.str nm) := atI_zero
    refine ⟨_, rfl, a, _, _, _, rfl, rfl, SqT.of ha, e0, rfl, _, rfl, ite2 (fun e => ?_) (fun e => ⟨_, rfl, a, _, _, _, rfl, rfl, SqT.of ha, e0, rfl, _, rfl, ite2 (fun e' => ?_) (fun e' => ?_)⟩)⟩
    · cases sh with
      | loop x y z w t es h l => exact ⟨_, rfl, a, _, _, _, rfl, rfl, SqT.of ha, rfl, q _ _ (Same.refl H) h⟩
      | _ => exact absurd e (by decide +kernel)
    · cases sh with
      | when x t es h l => exact ⟨_, rfl, a, _, _, _, rfl, rfl, SqT.of ha, rfl, q _ _ (Same.refl H) h⟩
      | _ => exact absurd e' (by decide +kernel)
    · cases sh with
      | loop x y z w t es h l => exact absurd (by decide +kernel) e
      | when x t es h l => exact absurd (by decide +kernel) e'
      | _ => exact ⟨t0, fun p np => q _ p (same_upd np) upd_same⟩
def spParts : Nat → Sp := fun n vs H Q _ => ∃ (v : V) (l : Int) (bs : List Nat), vs = [v, .int l] ∧ ExH H n v bs ∧ ∀ H' q ps obs, Same H H' → H q = none → H' q = some (.lst ps) → ps.length ≤ 4 ^ n → Each (OwnP H') ps obs → obs.flatten = bs → Q (.ref q) H'
abbrev nAp : List Str := ["expr", "level", "found", "inner"]
theorem scAp : FnScope nAp ["expr", "level"] (defScope sAllP) := ⟨rfl, rfl, rfl, by decide +kernel, rfl, by decide +kernel, by decide +kernel⟩
theorem ok_allp {f : Addr} {fd : FuncData} {dE dS : Addr} {esE esS : Array DictEntry} {nE nS : Nat} (F : Fun K "all_parts" "all_parts" sAllP f fd) (R : TabR K w mg dE dS esE esS nE nS)
    (cN : Calls P w K mg base CX0 1 "_name_of" ["thing"] spName) (cC : Calls P w K mg base CX0 1 "_check_length" ["thing", "length"] spCheckL) (cIn : Calls P w K mg base CX0 1 "inner_of" ["expr"] spInner)
    (kAp : PySem.W.keepIn K (.ref f) = true) (bAp : Binds K fd ["expr", "level"] []) (gAp : mg "all_parts" = some (.ref f)) : ∀ n : Nat, n ≤ 10 → FnOk P w K mg base CX0 (n + 2) f fd ["expr", "level"] (spParts n) := by
  obtain ⟨fN, dN, GN, kN, bN, gN⟩ := cN.ex
  obtain ⟨fC, dC, GC, kC, bC, gC⟩ := cC.ex
  obtain ⟨fIn, dIn, GIn, kIn, bIn, gIn⟩ := cIn.ex
  intro n
  induction n with
  | zero => exact fun _ => ⟨fun vs H Q E h => (by obtain ⟨v, l, bs, _, h, _⟩ := h; exact h.elim), fun A o s H args us vs Q E _ _ _ _ h => (by obtain ⟨v, l, bs, _, h, _⟩ := h; exact h.elim)⟩
  | succ n ih =>
  intro hn
  have GAp := ih (by omega)
  refine F.ok scAp (fun vs H Q E h => ?_) (fun cdv A outer s H vs Q E hrn h => ?_)
  · obtain ⟨v, l, bs, rfl, _⟩ := h
    rfl
  · obtain ⟨v, l, bs, rfl, ⟨a, nm, rest, ow, es, bss, rfl, ha, sh, ee, rfl⟩, q⟩ := h
    have hr1 : Room 1 _ := hrn.mono (by omega)
    obtain ⟨u, hu, hru⟩ := R.tE _ _ (sh.tab (.str nm))
    refine ⟨_, (pss_cons (ps_expr (pe_call GC hr1 (by rfl) gC kC bC .nil pass0 (pa_cons (pv 0) (pa_cons (pe_kget R.kE (pe_glob (v := (.ref dE)) (by rfl) R.gE rfl) (pe_call GN hr1 (by rfl) gN kN bN .nil pass0 (pa_cons (pv 0) pa_nil)) ⟨rfl, rfl, rfl, rfl⟩) pa_nil))))
      (pss_cons (ps_set (i := 2) scAp.nd rfl (.inl rfl) (pe_lst (pa_cons (pe_tup (pa_cons (pv 0) (pa_cons (pv 1) pa_nil))) pa_nil)))
      (pss_cons (ps_for PassesOwn.never rfl (pi_tup (pe_call GIn hr1 (by rfl) gIn kIn bIn .nil pass0 (pa_cons (pv 0) pa_nil))) (pg_name (i := 3) scAp.nd rfl (.inl rfl)) (pss_one (ps_expr (pe_bm PySem.F.plainAttrs_list PySem.F.slot_list_extend PySem.F.type_list_extend mt_extend (pv 2) (pa_cons (pe_call GAp hrn (by rfl) gAp kAp bAp .nil pass0 (pa_cons (pv 3) (pa_cons (pe_op op_add (pv 1) pe_int) pa_nil))) pa_nil)))))
      (pss_one (ps_ret (pv 2)))))), ?_⟩
    have t1 : 1 ≤ sizeLine := by decide
    have t2 : 2 ≤ sizeLine := by decide
    refine ⟨_, rfl, rfl, _, rfl, a, nm, rest, rfl, ha, nm, u, _, rfl, hu, hru, a, _, _, rfl, ha, rfl, ?_⟩
    refine ⟨_, rfl, _, rfl, t2, fun p np => ⟨t1, fun D nD => ?_⟩⟩
    have s1 : Same H (upd H p (.tup [.ref a, .int l])) := same_upd np
    have s2 : Same H (upd (upd H p (.tup [.ref a, .int l])) D (.lst [.ref p])) := s1.trans (same_upd nD)
    have hp : upd (upd H p (.tup [.ref a, .int l])) D (.lst [.ref p]) p = some (.tup [.ref a, .int l]) := same_upd nD _ _ upd_same
    have hD : upd (upd H p (.tup [.ref a, .int l])) D (.lst [.ref p]) D = some (.lst [.ref p]) := upd_same
    have nD0 : H D = none := by
      cases hh : H D with
      | none => rfl
      | some o => rw [s1 _ _ hh] at nD; cases nD
    generalize upd (upd H p (.tup [.ref a, .int l])) D (.lst [.ref p]) = H2 at *
    have k2 := same_tk s2
    have hl := sh.le.1
    have h4 : 4 ^ n ≤ 4 ^ 10 := Nat.pow_le_pow_right (by decide) (by omega)
    have h41 : 0 < 4 ^ n := Nat.pow_pos (by decide)
    have h4s : 4 ^ (n + 1) = 4 ^ n * 4 := Nat.pow_succ ..
    have hsz : (4 : Nat) * 4 ^ 10 ≤ sizeLine := by decide
    refine ⟨_, rfl, a, nm, rest, ow, es, rfl, s2 _ _ ha, sh.tk k2, fun H3 r s3 hr => ⟨r, rfl, ⟨_, SqT.of hr⟩, for_tup (K := K) (a := r) (xs := es) (fun i σ H' => ∃ (v3 : Option V) (ps : List V) (obs : List (List Nat)), σ = [some (.ref a), some (.int l), some (.ref D), v3] ∧ Same H H' ∧ H' D = some (.lst ps) ∧ ps.length ≤ 1 + i * 4 ^ n ∧ Each (OwnP H') ps obs ∧ obs.flatten = ow ++ (bss.take i).flatten ∧ H' r = some (.tup es))
      ⟨none, [.ref p], [ow], rfl, s2.trans s3, s3 _ _ hD, by simp, Each.one ⟨p, a, _, nm, rest, es, rfl, s3 _ _ hp, s3 _ _ (s2 _ _ ha), (sh.tk k2).tk (same_tk s3)⟩, by simp, hr⟩ (fun i σ H' _ ⟨_, _, _, _, _, _, _, _, _, h⟩ => SqT.of h) ?_ ?_⟩⟩
    · rintro i x σ H' hx ⟨v3, ps, obs, rfl, sm, hDp, hps, ho, hof, hr'⟩
      obtain ⟨b, hb, hxb⟩ := ee.at hx
      have hi := (List.getElem?_eq_some_iff.mp hx).1
      refine ⟨_, rfl, tyL hDp, _, rfl, _, rfl, _, _, rfl, rfl, x, _, b, rfl, hxb.tk (same_tk sm), fun H5 q5 qs qo s5 _ hq5 hql hqe hqf => ⟨D, q5, _, _, rfl, rfl, s5 _ _ hDp, hq5, ?_, ?_⟩⟩
      · have : i * 4 ^ n ≤ 2 * 4 ^ n := Nat.mul_le_mul_right _ (by omega)
        omega
      · have kk : TK H5 (upd H5 D (.lst (ps ++ qs))) := tk_lst (s5 _ _ hDp)
        have k5 := (same_tk s5).trans kk
        refine ⟨_, ps ++ qs, obs ++ qo, rfl, same_updN (sm.trans s5) nD0, upd_same, ?_, (eachP_tk k5 ho).append (eachP_tk kk hqe), ?_, k5 _ _ hr'⟩
        · rw [List.length_append, Nat.succ_mul]
          omega
        · rw [List.flatten_append, hof, hqf, flat_take hb, List.append_assoc]
    · rintro σ H' ⟨v3, ps, obs, rfl, sm, hDp, hps, ho, hof, hr'⟩
      rw [ee.len, List.take_length] at hof
      have : es.length * 4 ^ n ≤ 3 * 4 ^ n := Nat.mul_le_mul_right _ hl
      exact ⟨_, rfl, q _ D ps obs sm nD0 hDp (by omega) ho hof⟩
end
section
variable {P : Program} {w : World} {K : PySem.W.Frag} {mg : Str → Option Value} {base : Heap}
theorem op_catB {X : Cx} : OpR X (binaryOp .Add) (fun x y H Q => ∃ (a b : Addr) (xs ys : List V), x = .ref a ∧ y = .ref b ∧ SqT X.K H a xs ∧ SqT X.K H b ys ∧ xs.length + ys.length ≤ sizeLine ∧ ∀ p H', Same H H' → SqT X.K H' p (xs ++ ys) → Q (.ref p) H') := fun pins s σ H x y v u Q I rx ry h => by
  obtain ⟨a, b, xs, ys, rfl, rfl, h1, h2, h3, q⟩ := h
  refine op_catA pins s σ H _ _ v u Q I rx ry ⟨a, b, xs, ys, rfl, rfl, h1, h2, h3, fun e => ?_, fun _ e => ?_, fun _ _ p np => q p _ (same_upd np) (SqT.of upd_same)⟩
  · subst e
    exact q b H (Same.refl H) h2
  · subst e
    rw [List.append_nil] at q
    exact q a H (Same.refl H) h1
def spStmts : Nat → Sp := fun n vs H Q _ => ∃ (t r : Addr) (ss ar : List V) (bss : List (List Nat)), vs = [.ref t, .ref r] ∧ H t = some (.tup ss) ∧ Each (StH H n) ss bss ∧ ss.length ≤ 2 ∧ SqT K H r ar ∧ ar.length + n ≤ 50 ∧
  ∀ H' q ps obs, Same H H' → H q = none → H' q = some (.lst ps) → ps.length ≤ ss.length * 3 ^ n → Each (OwnS H') ps obs → obs.flatten = bss.flatten → Q (.ref q) H'
def spPrev (K : PySem.W.Frag) : Nat → Sp
  | 0 => fun _ _ _ _ => False
  | n + 1 => spStmts (K := K) n
abbrev nAs : List Str := ["body", "around", "found", "statement"]
theorem scAs : FnScope nAs ["body", "around"] (defScope sAllS) := ⟨rfl, rfl, rfl, by decide +kernel, rfl, by decide +kernel, by decide +kernel⟩
theorem ok_alls1 {f : Addr} {fd : FuncData} {dE dS : Addr} {esE esS : Array DictEntry} {nE nS : Nat} (F : Fun K "all_statements" "all_statements" sAllS f fd) (R : TabR K w mg dE dS esE esS nE nS)
    (cN : Calls P w K mg base CX0 1 "_name_of" ["thing"] spName) (cC : Calls P w K mg base CX0 1 "_check_length" ["thing", "length"] spCheckL) (cBo : Calls P w K mg base CX0 1 "body_of" ["statement"] spBodyOf)
    (kAs : PySem.W.keepIn K (.ref f) = true) (bAs : Binds K fd ["body", "around"] []) (gAs : mg "all_statements" = some (.ref f)) (n : Nat) (hn : n ≤ 10) (GAs : FnOk P w K mg base CX0 (n + 1) f fd ["body", "around"] (spPrev K n)) : FnOk P w K mg base CX0 (n + 2) f fd ["body", "around"] (spStmts (K := K) n) := by
  obtain ⟨fN, dN, GN, kN, bN, gN⟩ := cN.ex
  obtain ⟨fC, dC, GC, kC, bC, gC⟩ := cC.ex
  obtain ⟨fBo, dBo, GBo, kBo, bBo, gBo⟩ := cBo.ex
  refine F.ok scAs (fun vs H Q E h => ?_) (fun cdv A outer s H vs Q E hrn h => ?_)
  · obtain ⟨t, r, ss, ar, bss, rfl, _⟩ := h
    rfl
  · obtain ⟨t, r, ss, ar, bss, rfl, ht, ee, hl, hr, hal, q⟩ := h
    have hr1 : Room 1 _ := hrn.mono (by omega)
    refine ⟨_, (pss_cons (ps_set (i := 2) scAs.nd rfl (.inl rfl) (pe_lst pa_nil))
      (pss_cons (ps_for PassesOwn.never rfl (pi_tup (pv 0)) (pg_name (i := 3) scAs.nd rfl (.inl rfl)) (pss_cons (ps_expr (pe_call GC hr1 (by rfl) gC kC bC .nil pass0 (pa_cons (pv 3) (pa_cons (pe_kget R.kS (pe_glob (v := (.ref dS)) (by rfl) R.gS rfl) (pe_call GN hr1 (by rfl) gN kN bN .nil pass0 (pa_cons (pv 3) pa_nil)) ⟨rfl, rfl, rfl, rfl⟩) pa_nil))))
      (pss_cons (ps_expr (pe_bm PySem.F.plainAttrs_list PySem.F.slot_list_append PySem.F.type_list_append mt_append (pv 2) (pa_cons (pe_tup (pa_cons (pv 3) (pa_cons (pv 1) pa_nil))) pa_nil)))
      (pss_one (ps_expr (pe_bm PySem.F.plainAttrs_list PySem.F.slot_list_extend PySem.F.type_list_extend mt_extend (pv 2) (pa_cons (pe_call GAs hrn (by rfl) gAs kAs bAs .nil pass0 (pa_cons (pe_call GBo hr1 (by rfl) gBo kBo bBo .nil pass0 (pa_cons (pv 3) pa_nil)) (pa_cons (pe_op op_catB (pv 1) (pe_tup (pa_cons (pv 3) pa_nil))) pa_nil))) pa_nil)))))))
      (pss_one (ps_ret (pv 2))))), ?_⟩
    have t0 : 0 ≤ sizeLine := by decide
    have t1 : 1 ≤ sizeLine := by decide
    have t2 : 2 ≤ sizeLine := by decide
    have h31 : 0 < 3 ^ n := Nat.pow_pos (by decide)
    have h3 : 3 ^ n ≤ 3 ^ 10 := Nat.pow_le_pow_right (by decide) hn
    have hsz : (4 : Nat) * 3 ^ 10 ≤ sizeLine := by decide
    refine ⟨t0, fun D nD => ?_⟩
    have s1 : Same H (upd H D (.lst [])) := same_upd nD
    refine ⟨_, rfl, t, rfl, ⟨_, SqT.of (s1 _ _ ht)⟩, for_tup (K := K) (a := t) (xs := ss) (fun i σ H' => ∃ (v3 : Option V) (ps : List V) (obs : List (List Nat)), σ = [some (.ref t), some (.ref r), some (.ref D), v3] ∧ Same H H' ∧ H' D = some (.lst ps) ∧ ps.length ≤ i * 3 ^ n ∧ Each (OwnS H') ps obs ∧ obs.flatten = (bss.take i).flatten)
      ⟨none, [], [], rfl, s1, upd_same, by simp, True.intro, by simp⟩ (fun i σ H' _ ⟨_, _, _, _, sm, _⟩ => SqT.of (sm _ _ ht)) ?_ ?_⟩
    · rintro i x σ H' hx ⟨v3, ps, obs, rfl, sm, hDp, hps, ho, hof⟩
      obtain ⟨b, hb, hxb⟩ := ee.at hx
      have hi := (List.getElem?_eq_some_iff.mp hx).1
      cases n with
      | zero => exact hxb.elim
      | succ n =>
      obtain ⟨a, nm, rest, ow, es, bs2, rfl, ha, sh, e2, rfl⟩ := hxb.tk (same_tk sm)
      obtain ⟨u, hu, hru⟩ := R.tS _ _ (sh.tab (.str nm))
      have hle := sh.le.1
      have h3s : 3 ^ (n + 1) = 3 ^ n * 3 := Nat.pow_succ ..
      have him : i * 3 ^ (n + 1) ≤ 1 * 3 ^ (n + 1) := Nat.mul_le_mul_right _ (by omega)
      refine ⟨_, rfl, rfl, _, rfl, a, nm, rest, rfl, ha, nm, u, _, rfl, hu, hru, a, _, _, rfl, ha, rfl, ?_⟩
      refine ⟨_, rfl, tyL hDp, _, rfl, _, rfl, t2, fun p np => ⟨D, _, _, rfl, rfl, same_upd np _ _ hDp, by omega, ?_⟩⟩
      have s3 := same_upd (o := .tup [.ref a, .ref r]) np
      have hD3 := s3 _ _ hDp
      have k4 : TK (upd H' p (.tup [.ref a, .ref r])) (upd (upd H' p (.tup [.ref a, .ref r])) D (.lst (ps ++ [.ref p]))) := tk_lst hD3
      have k04 : TK H' (upd (upd H' p (.tup [.ref a, .ref r])) D (.lst (ps ++ [.ref p]))) := (same_tk s3).trans k4
      have s4 : Same H (upd (upd H' p (.tup [.ref a, .ref r])) D (.lst (ps ++ [.ref p]))) := same_updN (sm.trans s3) nD
      have hp4 := k4 _ _ (upd_same (H := H') (a := p) (o := .tup [.ref a, .ref r]))
      have hD4 : upd (upd H' p (.tup [.ref a, .ref r])) D (.lst (ps ++ [.ref p])) D = some (.lst (ps ++ [.ref p])) := upd_same
      generalize upd (upd H' p (.tup [.ref a, .ref r])) D (.lst (ps ++ [.ref p])) = H4 at *
      have ha4 := k04 _ _ ha
      have sh4 := sh.tk k04
      refine ⟨_, rfl, tyL hD4, _, rfl, a, nm, rest, ow, es, rfl, ha4, sh4, fun H5 e5 s5 he5 => ⟨_, rfl, _, rfl, t1, fun p2 np2 => ⟨r, p2, ar, [.ref a], rfl, rfl, sqT_same (sqT_same (sqT_same hr s4) s5) (same_upd np2), SqT.of upd_same, ?_, fun p3 H6 s6 hp3 => ?_⟩⟩⟩
      · have : ar.length + 1 ≤ 100 := by omega
        exact Nat.le_trans this (by decide)
      have s56 := (same_tk s5).trans ((tk_new np2 (o := .tup [.ref a])).trans (same_tk s6))
      refine ⟨e5, p3, es, ar ++ [.ref a], bs2, rfl, s6 _ _ (same_upd np2 _ _ he5), e2.mono fun _ _ h => (h.tk k04).tk s56, hle, (show SqT K H6 p3 (ar ++ [V.ref a]) from hp3), by rw [List.length_append]; show ar.length + 1 + n ≤ 50; omega, fun H7 q7 qs qo s7 nq7 hq7 hql hqe hqf => ?_⟩
      have s47 : Same H4 H7 := ((s5.trans (same_upd np2)).trans s6).trans s7
      have hD7 := s47 _ _ hD4
      have hm : es.length * 3 ^ n ≤ 2 * 3 ^ n := Nat.mul_le_mul_right _ hle
      have hl1 : (ps ++ [V.ref p]).length = ps.length + 1 := by rw [List.length_append]; rfl
      refine ⟨D, q7, _, _, rfl, rfl, hD7, hq7, by rw [hl1]; omega, ?_⟩
      have k8 : TK H7 (upd H7 D (.lst (ps ++ [.ref p] ++ qs))) := tk_lst hD7
      refine ⟨_, ps ++ [.ref p] ++ qs, obs ++ [ow] ++ qo, rfl, same_updN (s4.trans s47) nD, upd_same, ?_, ?_, ?_⟩
      · rw [List.length_append, hl1, Nat.succ_mul]
        omega
      · refine Each.append (Each.append (eachS_tk ((k04.trans (same_tk s47)).trans k8) ho) (Each.one ?_)) (eachS_tk k8 hqe)
        exact ⟨p, a, _, nm, rest, es, rfl, k8 _ _ (s47 _ _ hp4), k8 _ _ (s47 _ _ ha4), sh4.tk ((same_tk s47).trans k8)⟩
      · rw [List.flatten_append, List.flatten_append, hof, hqf, flat_take hb]
        simp
    · rintro σ H' ⟨v3, ps, obs, rfl, sm, hDp, hps, ho, hof⟩
      rw [ee.len, List.take_length] at hof
      exact ⟨_, rfl, q _ D ps obs sm nD hDp hps ho hof⟩
theorem ok_alls {f : Addr} {fd : FuncData} {dE dS : Addr} {esE esS : Array DictEntry} {nE nS : Nat} (F : Fun K "all_statements" "all_statements" sAllS f fd) (R : TabR K w mg dE dS esE esS nE nS)
    (cN : Calls P w K mg base CX0 1 "_name_of" ["thing"] spName) (cC : Calls P w K mg base CX0 1 "_check_length" ["thing", "length"] spCheckL) (cBo : Calls P w K mg base CX0 1 "body_of" ["statement"] spBodyOf)
    (kAs : PySem.W.keepIn K (.ref f) = true) (bAs : Binds K fd ["body", "around"] []) (gAs : mg "all_statements" = some (.ref f)) : ∀ n : Nat, n ≤ 10 → FnOk P w K mg base CX0 (n + 2) f fd ["body", "around"] (spStmts (K := K) n)
  | 0, h => ok_alls1 F R cN cC cBo kAs bAs gAs 0 h ⟨fun vs H Q E h => h.elim, fun A o s H args us vs Q E _ _ _ _ h => h.elim⟩
  | n + 1, h => ok_alls1 F R cN cC cBo kAs bAs gAs (n + 1) h (ok_alls F R cN cC cBo kAs bAs gAs n (by omega))
end
section
variable {P : Program} {w : World} {K : PySem.W.Frag} {mg : Str → Option Value} {base : Heap}
theorem flat_take_le {bss : List (List Nat)} {i : Nat} : (bss.take i).flatten.length ≤ bss.flatten.length := by
  have h := congrArg (fun l => (List.flatten l).length) (List.take_append_drop i bss)
  simp only [List.flatten_append, List.length_append] at h
  omega
abbrev natV (k : Nat) : V := .int k
/-- what the expression of a statement brings -/
def post (nm : Str) (ow : List Nat) : List Nat := if nm = "put" then ow.drop 1 else []
def spPS : Sp := fun vs H Q _ => ∃ (a : Addr) (nm : Str) (rest : List V) (ow : List Nat) (es : List V), vs = [.ref a] ∧ H a = some (.tup (.str nm :: rest)) ∧ ShS H nm rest ow es ∧
  ∀ H' q ps obs, Same H H' → H q = none → H' q = some (.lst ps) → ps.length ≤ 64 → Each (OwnP H') ps obs → obs.flatten = post nm ow → Q (.ref q) H'
abbrev nPs : List Str := ["statement"]
theorem scPs : FnScope nPs ["statement"] (defScope sParts) := ⟨rfl, rfl, rfl, by decide +kernel, rfl, by decide +kernel, by decide +kernel⟩
theorem ok_parts {f : Addr} {fd : FuncData} (F : Fun K "parts_of_statement" "parts_of_statement" sParts f fd) (cAp : Calls P w K mg base CX0 5 "all_parts" ["expr", "level"] (spParts 3)) : FnOk P w K mg base CX0 6 f fd ["statement"] spPS := by
  obtain ⟨fAp, dAp, GAp, kAp, bAp, gAp⟩ := cAp.ex
  refine F.ok scPs (fun vs H Q E h => ?_) (fun cdv A outer s H vs Q E hr5 h => ?_)
  · obtain ⟨a, nm, rest, ow, es, rfl, _⟩ := h
    rfl
  · obtain ⟨a, nm, rest, ow, es, rfl, ha, sh, q⟩ := h
    refine ⟨_, (pss_cons (ps_if (pt_cmpR op_eq (pe_ix ix_tup (pv 0) pe_int (fun _ _ => rfl)) pe_str (nomark _)) (pss_one (ps_ret (pe_call GAp hr5 (by rfl) gAp kAp bAp .nil pass0 (pa_cons (pe_ix ix_tup (pv 0) pe_int (fun _ _ => rfl)) (pa_cons pe_int pa_nil))))) pss_nil)
      (pss_one (ps_ret (pe_lst pa_nil)))), ?_⟩
    have t0 : 0 ≤ sizeLine := by decide
    refine ⟨_, rfl, a, _, _, _, rfl, rfl, SqT.of ha, atI_zero, rfl, _, rfl, ite2 (fun e => ?_) (fun e => ?_)⟩
    · cases sh with
      | put k x ev b h => exact ⟨_, rfl, a, _, _, _, rfl, rfl, SqT.of ha, rfl, ev, 1, b, rfl, h, fun H' q' ps obs sm nq hq hl he hf => q H' q' ps obs sm nq hq hl he hf⟩
      | _ => exact absurd e (by decide +kernel)
    · refine ⟨t0, fun D nD => q _ D [] [] (same_upd nD) nD upd_same (by decide) True.intro ?_⟩
      cases sh with
      | put k x ev b h => exact absurd (by decide +kernel) e
      | _ => rfl
def spBuf : Sp := fun vs H Q _ => ∃ (v : V) (bs : List Nat), vs = [v] ∧ StH H 4 v bs ∧ ∀ H' q, Same H H' → H q = none → H' q = some (.lst (bs.map natV)) → bs.length ≤ 6000 → Q (.ref q) H'
abbrev nBf : List Str := ["statement", "found", "one", "_", "part"]
theorem scBf : FnScope nBf ["statement"] (defScope sBuf) := ⟨rfl, rfl, rfl, by decide +kernel, rfl, by decide +kernel, by decide +kernel⟩
theorem ok_buf {f : Addr} {fd : FuncData} (F : Fun K "_buffers_in" "_buffers_in" sBuf f fd) (cAs : Calls P w K mg base CX0 6 "all_statements" ["body", "around"] (spStmts (K := K) 4)) (cPs : Calls P w K mg base CX0 6 "parts_of_statement" ["statement"] spPS) : FnOk P w K mg base CX0 7 f fd ["statement"] spBuf := by
  obtain ⟨fAs, dAs, GAs, kAs, bAs, gAs⟩ := cAs.ex
  obtain ⟨fPs, dPs, GPs, kPs, bPs, gPs⟩ := cPs.ex
  refine F.ok scBf (fun vs H Q E h => ?_) (fun cdv A outer s H vs Q E hr6 h => ?_)
  · obtain ⟨v, bs, rfl, _⟩ := h
    rfl
  · obtain ⟨v, bs, rfl, hst, q⟩ := h
    refine ⟨_, (pss_cons (ps_set (i := 1) scBf.nd rfl (.inl rfl) (pe_lst pa_nil))
      (pss_cons (ps_for PassesOwn.never rfl (pi_list (pe_call GAs hr6 (by rfl) gAs kAs bAs .nil pass0 (pa_cons (pe_tup (pa_cons (pv 0) pa_nil)) (pa_cons (pe_tup pa_nil) pa_nil)))) (pg_tup rfl (pgs_cons (pg_name (i := 2) scBf.nd rfl (.inl rfl)) (pgs_cons (pg_name (i := 3) scBf.nd rfl (.inl rfl)) pgs_nil))) (Evl.pss_cut (ps_if (pt_cmpR op_eq (pe_ix ix_tup (pv 2) pe_int (fun _ _ => rfl)) pe_str (nomark _)) (pss_one (ps_expr (pe_bm PySem.F.plainAttrs_list PySem.F.slot_list_append PySem.F.type_list_append mt_append (pv 1) (pa_cons (pe_ix ix_tup (pv 2) pe_int (fun _ _ => rfl)) pa_nil)))) pss_nil)
      (Evl.pss_cut (ps_if (pt_cmpR op_eq (pe_ix ix_tup (pv 2) pe_int (fun _ _ => rfl)) pe_str (nomark _)) (pss_one (ps_expr (pe_bm PySem.F.plainAttrs_list PySem.F.slot_list_extend PySem.F.type_list_extend mt_extend (pv 1) (pa_cons (pe_lst (pa_cons (pe_ix ix_tup (pv 2) pe_int (fun _ _ => rfl)) (pa_cons (pe_ix ix_tup (pv 2) pe_int (fun _ _ => rfl)) pa_nil))) pa_nil)))) pss_nil)
      (pss_one (ps_for PassesOwn.never rfl (pi_list (pe_call GPs hr6 (by rfl) gPs kPs bPs .nil pass0 (pa_cons (pv 2) pa_nil))) (pg_tup rfl (pgs_cons (pg_name (i := 4) scBf.nd rfl (.inl rfl)) (pgs_cons (pg_name (i := 3) scBf.nd rfl (.inl rfl)) pgs_nil))) (pss_one (ps_if (pt_cmpR op_in_seq (pe_ix ix_tup (pv 4) pe_int (fun _ _ => rfl)) (pe_tup (pa_cons pe_str (pa_cons pe_str pa_nil))) rfl) (pss_one (ps_expr (pe_bm PySem.F.plainAttrs_list PySem.F.slot_list_append PySem.F.type_list_append mt_append (pv 1) (pa_cons (pe_ix ix_tup (pv 4) pe_int (fun _ _ => rfl)) pa_nil)))) pss_nil)))))))
      (pss_one (ps_ret (pv 1))))), ?_⟩
    have t0 : 0 ≤ sizeLine := by decide
    have t1 : 1 ≤ sizeLine := by decide
    have t2 : 2 ≤ sizeLine := by decide
    have big : 10000 ≤ sizeLine := by decide
    refine ⟨t0, fun D nD => ⟨_, rfl, t1, fun p np => ⟨t0, fun p2 np2 => ?_⟩⟩⟩
    have s1 := same_upd (o := .lst []) nD
    have s2 := same_upd (o := .tup [v]) np
    have s3 := same_upd (o := .tup []) np2
    have s13 := (s1.trans s2).trans s3
    have hp3 := s3 _ _ (upd_same (H := upd H D (.lst [])) (a := p) (o := .tup [v]))
    have hD3 := s3 _ _ (s2 _ _ (upd_same (H := H) (a := D) (o := .lst [])))
    have hp23 : (upd (upd (upd H D (.lst [])) p (.tup [v])) p2 (.tup [])) p2 = some (.tup []) := upd_same
    generalize upd (upd (upd H D (.lst [])) p (.tup [v])) p2 (.tup []) = H3 at *
    refine ⟨p, p2, [v], [], [bs], rfl, hp3, Each.one (hst.tk (same_tk s13)), by simp, SqT.of hp23, by decide, fun H4 r ps obs s4 nr hr hpl he hf => ⟨r, rfl, ⟨_, SqL.of hr⟩, ?_⟩⟩
    have hDr : D ≠ r := ne_of_none hD3 nr
    have hfl : obs.flatten = bs := by rw [hf]; simp
    have hbl : bs.length ≤ 5265 := by
      have h1 := each_le (fun _ _ h => OwnS.le h) he
      rw [hfl] at h1
      have h2 : ([v] : List V).length * 3 ^ 4 = 81 := rfl
      omega
    refine for_list (K := K) (a := r) (xs := ps) (fun i σ H' => ∃ (v2 v3 v4 : Option V), σ = [some v, some (.ref D), v2, v3, v4] ∧ Same H H' ∧ H' D = some (.lst ((obs.take i).flatten.map natV)) ∧ H' r = some (.lst ps) ∧ Each (OwnS H') ps obs)
      ⟨none, none, none, rfl, s13.trans s4, s4 _ _ hD3, hr, he⟩ (fun i σ H' _ ⟨_, _, _, _, _, _, h, _⟩ => SqL.of h) ?_ ?_
    · clear hr he s4 hD3
      rintro i x σ H' hx ⟨v2, v3, v4, rfl, sm, hD, hr, he⟩
      obtain ⟨b, hb, p', a, l, nm, rest, es, rfl, hp', ha, sh⟩ := he.at hx
      have hft := flat_take hb
      have hfl2 : ((obs.take i).flatten ++ b).length ≤ 5265 := by
        rw [← hft]
        exact Nat.le_trans flat_take_le (by rw [hfl]; exact hbl)
      rw [List.length_append] at hfl2
      refine ⟨p', _, rfl, SqT.of hp', rfl, _, _, rfl, _, _, rfl, rfl, ?_⟩
      have pre1 : b = b.take (b.length - (post nm b).length) ++ post nm b := by
        cases sh with
        | put k x ev b h => show k :: b = (k :: b).take ((k :: b).length - b.length) ++ b; rw [List.length_cons, show b.length + 1 - b.length = 1 by omega]; rfl
        | _ => rfl
      generalize hF : (obs.take i).flatten = Fs at *
      refine ⟨fun σ' H'' => σ' = [some v, some (.ref D), some (.ref a), some l, v4] ∧ ∃ b0, (nm = "copy" → b0 = []) ∧ (nm ≠ "copy" → b0 ++ post nm b = b) ∧ Same H H'' ∧ H'' D = some (.lst ((Fs ++ b0).map natV)) ∧ H'' r = some (.lst ps) ∧ Each (OwnS H'') ps obs ∧ TK H' H'', ?_, ?_⟩
      · refine ⟨_, rfl, a, _, _, _, rfl, rfl, SqT.of ha, atI_zero, rfl, _, rfl, ite2 (fun e => ?_) (fun e => ?_)⟩
        · cases sh with
          | put k x ev b h =>
            have kk : TK H' (upd H' D (.lst (Fs.map natV ++ [.int k]))) := tk_lst hD
            refine ⟨_, rfl, tyL hD, _, rfl, a, _, _, _, rfl, rfl, SqT.of ha, rfl, D, _, _, rfl, rfl, hD, by rw [List.length_map]; omega, ?_⟩
            refine ⟨rfl, [k], fun e => absurd e (by decide +kernel), fun _ => rfl, same_updN sm nD, ?_, by rw [upd_ne hDr.symm]; exact hr, eachS_tk kk he, kk⟩
            rw [upd_same, List.map_append]
            rfl
          | _ => exact absurd e (by decide +kernel)
        · refine ⟨rfl, [], fun _ => rfl, fun hn => ?_, sm, by rw [List.append_nil]; exact hD, hr, he, TK.refl H'⟩
          cases sh with
          | put k x ev b h => exact absurd (by decide +kernel) e
          | copy k x j y z => exact absurd rfl hn
          | _ => rfl
      rintro σ' H2 ⟨rfl, b0, h1, h2, s2', hD2, hr2, he2, k2⟩
      have ha2 := k2 _ _ ha
      have sh2 := sh.tk k2
      refine ⟨fun σ' H'' => σ' = [some v, some (.ref D), some (.ref a), some l, v4] ∧ ∃ b0, b0 ++ post nm b = b ∧ Same H H'' ∧ H'' D = some (.lst ((Fs ++ b0).map natV)) ∧ H'' r = some (.lst ps) ∧ Each (OwnS H'') ps obs ∧ TK H2 H'', ?_, ?_⟩
      · refine ⟨_, rfl, a, _, _, _, rfl, rfl, SqT.of ha2, atI_zero, rfl, _, rfl, ite2 (fun e => ?_) (fun e => ?_)⟩
        · cases sh with
          | copy k x j y z =>
            rw [h1 rfl, List.append_nil] at hD2
            refine ⟨_, rfl, tyL hD2, _, rfl, a, _, _, _, rfl, rfl, SqT.of ha2, rfl, _, rfl, a, _, _, _, rfl, rfl, SqT.of ha2, rfl, t2, fun L nL => ?_⟩
            have sL := same_upd (o := .lst [.int k, .int j]) nL
            refine ⟨D, L, _, _, rfl, rfl, sL _ _ hD2, upd_same, by rw [List.length_map]; show Fs.length + 2 ≤ sizeLine; omega, ?_⟩
            have kk : TK H2 (upd (upd H2 L (.lst [.int k, .int j])) D (.lst (Fs.map natV ++ [.int k, .int j]))) := (same_tk sL).trans (tk_lst (sL _ _ hD2))
            refine ⟨rfl, [k, j], rfl, same_updN (s2'.trans sL) nD, ?_, by rw [upd_ne hDr.symm]; exact sL _ _ hr2, eachS_tk kk he2, kk⟩
            rw [upd_same, List.map_append]
            rfl
          | _ => exact absurd e (by decide +kernel)
        · refine ⟨rfl, b0, h2 (fun z => ?_), s2', hD2, hr2, he2, TK.refl H2⟩
          subst z
          exact e (by decide +kernel)
      rintro σ' H5 ⟨rfl, b1, hb1, s5, hD5, hr5, he5, k5⟩
      have ha5 := k5 _ _ ha2
      have sh5 := sh2.tk k5
      refine ⟨_, rfl, a, nm, rest, b, es, rfl, ha5, sh5, fun H6 q6 qs qo s6 nq6 hq6 hql hqe hqf => ⟨q6, rfl, ⟨_, SqL.of hq6⟩, ?_⟩⟩
      have hDq : D ≠ q6 := ne_of_none hD5 nq6
      have hrq : r ≠ q6 := ne_of_none hr5 nq6
      have hlb : (b1 ++ post nm b).length = b.length := congrArg List.length hb1
      rw [List.length_append] at hlb
      refine for_list (K := K) (a := q6) (xs := qs) (fun j σ H' => ∃ (v3 v4 : Option V), σ = [some v, some (.ref D), some (.ref a), v3, v4] ∧ Same H H' ∧ H' D = some (.lst ((Fs ++ b1 ++ (qo.take j).flatten).map natV)) ∧ H' r = some (.lst ps) ∧ H' q6 = some (.lst qs) ∧ Each (OwnS H') ps obs ∧ Each (OwnP H') qs qo)
        ⟨some l, v4, rfl, s5.trans s6, by rw [s6 _ _ hD5]; simp, s6 _ _ hr5, hq6, eachS_tk (same_tk s6) he5, hqe⟩ (fun i σ H' _ ⟨_, _, _, _, _, _, h, _⟩ => SqL.of h) ?_ ?_
      · clear hr5 he5 s6 hD5 hq6 hqe
        rintro j x σ H' hx ⟨v3, v4, rfl, sm, hD, hr, hq, he, hqe⟩
        obtain ⟨c, hc, p7, a7, l7, nm7, rest7, es7, rfl, hp7, ha7, sh7⟩ := hqe.at hx
        have hc2 := flat_take hc
        have hcl : ((qo.take j).flatten ++ c).length ≤ (post nm b).length := by
          rw [← hc2, ← hqf]
          exact flat_take_le
        rw [List.length_append] at hcl
        refine ⟨p7, _, rfl, SqT.of hp7, rfl, _, _, rfl, _, _, rfl, rfl, ?_⟩
        refine ⟨_, rfl, a7, _, _, _, rfl, rfl, SqT.of ha7, atI_zero, t2, fun t nt => ?_⟩
        have st := same_upd (o := .tup [.str "load", .str "pick"]) nt
        refine ⟨t, _, rfl, .inr (SqT.of upd_same), rfl, rfl, _, rfl, ?_⟩
        have hDt := st _ _ hD
        have hrt := st _ _ hr
        have hqt := st _ _ hq
        have het := eachS_tk (same_tk st) he
        have hqet := eachP_tk (same_tk st) hqe
        have hat := st _ _ ha7
        have smt := sm.trans st
        generalize upd H' t (.tup [.str "load", .str "pick"]) = H8 at *
        refine ite2 (fun e => ?_) (fun e => ?_)
        · obtain ⟨k, rs, rfl, rfl⟩ : ∃ (k : Nat) (rs : List V), rest7 = .int k :: rs ∧ c = [k] := by
            cases sh7 with
            | load k x => exact ⟨k, _, rfl, rfl⟩
            | pick k x y z e => exact ⟨k, _, rfl, rfl⟩
            | _ => exact absurd e (by decide +kernel)
          have kk : TK H8 (upd H8 D (.lst ((Fs ++ b1 ++ (qo.take j).flatten).map natV ++ [.int k]))) := tk_lst hDt
          refine ⟨_, rfl, tyL hDt, _, rfl, a7, _, _, _, rfl, rfl, SqT.of hat, (atI_nat (j := 1) rfl), D, _, _, rfl, rfl, hDt, ?_, ?_⟩
          · rw [List.length_map, List.length_append, List.length_append]
            omega
          · refine ⟨_, _, rfl, same_updN smt nD, ?_, by rw [upd_ne hDr.symm]; exact hrt, by rw [upd_ne hDq.symm]; exact hqt, eachS_tk kk het, eachP_tk kk hqet⟩
            rw [upd_same, hc2, ← List.append_assoc, List.map_append (l₂ := [k])]
            rfl
        · have hc0 : c = [] := by
            cases sh7 with
            | load k x => exact absurd (by decide +kernel) e
            | pick k x y z e' => exact absurd (by decide +kernel) e
            | _ => rfl
          refine ⟨_, _, rfl, smt, ?_, hrt, hqt, het, hqet⟩
          rw [hc2, hc0, List.append_nil]
          exact hDt
      · rintro σ H' ⟨v3, v4, rfl, sm, hD, hr, hq, he, hqe⟩
        refine ⟨_, _, _, rfl, sm, ?_, hr, he⟩
        rw [hD, hqe.len, List.take_length, hqf, List.append_assoc, hb1, hft]
    · rintro σ H' ⟨v2, v3, v4, rfl, sm, hD, hr, he⟩
      rw [he.len, List.take_length, hfl] at hD
      exact ⟨_, rfl, q _ D sm nD hD (by omega)⟩
abbrev nMt : List Str := ["one", "other"]
theorem scMt : FnScope nMt ["one", "other"] (defScope sMeet) := ⟨rfl, rfl, rfl, by decide +kernel, rfl, by decide +kernel, by decide +kernel⟩
def spMeet (K : PySem.W.Frag) : Sp := fun vs H Q _ => ∃ (a b : Addr) (x y z u : Int), vs = [.ref a, .ref b] ∧ SqT K H a [.int x, .int y] ∧ SqT K H b [.int z, .int u] ∧ Q (.bl (decide (x ≤ u) && decide (z ≤ y))) H
theorem ok_meet {f : Addr} {fd : FuncData} (F : Fun K "meet" "meet" sMeet f fd) : FnOk P w K mg base CX0 1 f fd ["one", "other"] (spMeet K) := by
  refine F.ok scMt (fun vs H Q E h => ?_) (fun cdv A outer s H vs Q E hr h => ?_)
  · obtain ⟨a, b, x, y, z, u, rfl, _⟩ := h
    rfl
  · obtain ⟨a, b, x, y, z, u, rfl, ha, hb, q⟩ := h
    refine ⟨_, (pss_one (ps_ret (pe_and (pe_cmpR op_le (pe_ix ix_tup (pv 0) pe_int (fun _ _ => rfl)) (pe_ix ix_tup (pv 1) pe_int (fun _ _ => rfl)) (nomark _)) (pe_one (pe_cmpR op_le (pe_ix ix_tup (pv 1) pe_int (fun _ _ => rfl)) (pe_ix ix_tup (pv 0) pe_int (fun _ _ => rfl)) (nomark _)))))), ?_⟩
    refine ⟨_, rfl, a, _, _, _, rfl, rfl, ha, rfl, _, rfl, b, _, _, _, rfl, rfl, hb, rfl, _, _, rfl, rfl, _, rfl, ite2 (fun e => ?_) (fun e => ?_)⟩
    · refine ⟨_, rfl, b, _, _, _, rfl, rfl, hb, rfl, _, rfl, a, _, _, _, rfl, rfl, ha, rfl, _, _, rfl, rfl, ?_⟩
      have e : decide (x ≤ u) = true := e
      rw [e, Bool.true_and] at q
      exact q
    · have e : decide (x ≤ u) = false := Bool.eq_false_iff.mpr e
      rw [e, Bool.false_and] at q
      exact q
end
section
variable {P : Program} {w : World} {K : PySem.W.Frag} {mg : Str → Option Value} {base : Heap}
theorem inV_natV (n : Nat) : ∀ l : List Nat, inV (.int (n : Int)) (l.map natV) = decide (n ∈ l)
  | [] => by simp [inV]
  | y :: l => by
    have ih := inV_natV n l
    have e : inV (.int (n : Int)) ((y :: l).map natV) = (((y : Int) == (n : Int)) || inV (.int (n : Int)) (l.map natV)) := rfl
    rw [e, ih, Bool.eq_iff_iff]
    simp only [Bool.or_eq_true, beq_iff_eq, decide_eq_true_iff, List.mem_cons]
    constructor
    · rintro (h | h)
      · exact .inl (by omega)
      · exact .inr h
    · rintro (h | h)
      · exact .inl (by omega)
      · exact .inr h
theorem flat_natV (l : List Nat) : (l.map natV).all flatV = true := by
  rw [List.all_eq_true]
  intro x hx
  obtain ⟨n, _, rfl⟩ := List.mem_map.mp hx
  rfl
/-! ### first and last -/
def ixs (bss : List (List Nat)) (i k : Nat) : List Nat := (List.range i).filter fun t => decide (k ∈ bss.getD t [])
theorem ixs_succ (bss : List (List Nat)) (i k : Nat) : ixs bss (i + 1) k = ixs bss i k ++ if k ∈ bss.getD i [] then [i] else [] := by
  unfold ixs
  rw [List.range_succ, List.filter_append]
  congr 1
  by_cases h : k ∈ bss.getD i []
  · rw [if_pos h, List.filter_cons_of_pos (by rw [decide_eq_true h])]
    rfl
  · rw [if_neg h, List.filter_cons_of_neg (by rw [decide_eq_false h]; exact Bool.false_ne_true)]
    rfl
def fl : List Nat → Option (Nat × Nat)
  | [] => none
  | x :: xs => some (x, (x :: xs).getLast (List.cons_ne_nil _ _))
def nx (i : Nat) (o : Option (Nat × Nat)) : Nat × Nat := ((o.map (·.1)).getD i, i)
theorem fl_snoc (l : List Nat) (i : Nat) : fl (l ++ [i]) = some (nx i (fl l)) := by
  cases l with
  | nil => rfl
  | cons x xs =>
    show some (x, (x :: xs ++ [i]).getLast _) = some (x, i)
    rw [List.getLast_append_of_ne_nil _ (List.cons_ne_nil _ _)]
    rfl
theorem fl_succ (bss : List (List Nat)) (i k : Nat) : fl (ixs bss (i + 1) k) = if k ∈ bss.getD i [] then some (nx i (fl (ixs bss i k))) else fl (ixs bss i k) := by
  rw [ixs_succ]
  by_cases h : k ∈ bss.getD i []
  · rw [if_pos h, if_pos h, fl_snoc]
  · rw [if_neg h, if_neg h, List.append_nil]
/-- the life of a buffer -/
def life (bss : List (List Nat)) (os : List Nat) (k : Nat) : Nat × Nat :=
  (((fl (ixs bss bss.length k)).getD (0, 0)).1, if k ∈ os then bss.length else ((fl (ixs bss bss.length k)).getD (0, 0)).2)
def mainB (bfs : List (Str × Int)) (k : Nat) : Bool := decide ((bfs.getD k ("", 0)).1 = "main")
def due (bfs : List (Str × Int)) (bss : List (List Nat)) (os : List Nat) (i : Nat) : List (Nat × Nat) := ((List.range i).filter (mainB bfs)).map (life bss os)
theorem due_succ (bfs : List (Str × Int)) (bss : List (List Nat)) (os : List Nat) (i : Nat) : due bfs bss os (i + 1) = due bfs bss os i ++ if mainB bfs i = true then [life bss os i] else [] := by
  unfold due
  rw [List.range_succ, List.filter_append, List.map_append]
  congr 1
  by_cases h : mainB bfs i = true
  · rw [if_pos h, List.filter_cons_of_pos h]
    rfl
  · rw [if_neg h, List.filter_cons_of_neg h]
    rfl
/-- buffers, pairs of lives -/
def BufE (H : Hp) (v : V) (b : Str × Int) : Prop := ∃ p : Addr, v = .ref p ∧ H p = some (.tup [.str b.1, .int b.2])
def LifeE (H : Hp) (v : V) (b : Nat × Nat) : Prop := ∃ p : Addr, v = .ref p ∧ H p = some (.tup [.int b.1, .int b.2])
theorem bufE_tk {H H' : Hp} (k : TK H H') {vs : List V} {bs : List (Str × Int)} (h : Each (BufE H) vs bs) : Each (BufE H') vs bs := h.mono fun _ _ ⟨p, e, h⟩ => ⟨p, e, k _ _ h⟩
theorem lifeE_tk {H H' : Hp} (k : TK H H') {vs : List V} {bs : List (Nat × Nat)} (h : Each (LifeE H) vs bs) : Each (LifeE H') vs bs := h.mono fun _ _ ⟨p, e, h⟩ => ⟨p, e, k _ _ h⟩
theorem eachSt_tk {H H' : Hp} (k : TK H H') {n : Nat} {vs : List V} {bs : List (List Nat)} (h : Each (StH H n) vs bs) : Each (StH H' n) vs bs := h.mono fun _ _ h => h.tk k
theorem tk_dk {H : Hp} {p : Addr} {o : HO} {kvs : List (Key × V)} (h : H p = some (.dK kvs)) : TK H (upd H p o) := fun b xs e => by
  rw [upd_ne (ne_of e h (fun z => nomatch z))]
  exact e
def MetOk (H : Hp) (o : Option V) : Option (Nat × Nat) → Prop
  | none => o = none
  | some p => ∃ q : Addr, o = some (.ref q) ∧ H q = some (.tup [.int p.1, .int p.2])
theorem MetOk.tk {H H' : Hp} (k : TK H H') {o : Option V} : ∀ {p : Option (Nat × Nat)}, MetOk H o p → MetOk H' o p
  | none, h => h
  | some _, ⟨q, h1, h2⟩ => ⟨q, h1, k _ _ h2⟩
def midM (bss : List (List Nat)) (i : Nat) (ks : List Nat) (k : Nat) : Option (Nat × Nat) := if k ∈ ks then some (nx i (fl (ixs bss i k))) else fl (ixs bss i k)
theorem midM_first (bss : List (List Nat)) (i : Nat) (ks : List Nat) (k : Nat) : nx i (midM bss i ks k) = nx i (fl (ixs bss i k)) := by
  unfold midM
  by_cases h : k ∈ ks
  · rw [if_pos h]
    rfl
  · rw [if_neg h]
def spLives (K : PySem.W.Frag) : Sp := fun vs H Q _ => ∃ (pg po pb py : Addr) (bv ss : List V) (bfs : List (Str × Int)) (bss : List (List Nat)) (os : List Nat), vs = [.ref pg, .ref po] ∧ H pg = some (.tup [.ref pb, .ref py]) ∧ H pb = some (.tup bv) ∧ Each (BufE H) bv bfs ∧ bfs.length ≤ 10 ∧
  H py = some (.tup ss) ∧ Each (StH H 4) ss bss ∧ ss.length ≤ 20 ∧ H po = some (.tup (os.map natV)) ∧
  ∀ H' q ls, Same H H' → H' q = some (.tup ls) → Each (LifeE H') ls (due bfs bss os bfs.length) → Q (.ref q) H'
abbrev nLv : List Str := ["program", "outs", "buffers", "body", "met", "place", "statement", "buffer", "first", "_", "found", "role", "last"]
theorem scLv : FnScope nLv ["program", "outs"] (defScope sLives) := ⟨rfl, rfl, rfl, by decide +kernel, rfl, by decide +kernel, by decide +kernel⟩
theorem ok_lives {f : Addr} {fd : FuncData} (F : Fun K "lives" "lives" sLives f fd) (T : Txt42 mg) (cBf : Calls P w K mg base CX0 7 "_buffers_in" ["statement"] spBuf) : FnOk P w K mg base CX0 8 f fd ["program", "outs"] (spLives K) := by
  obtain ⟨fBf, dBf, GBf, kBf, bBf, gBf⟩ := cBf.ex
  refine F.ok scLv (fun vs H Q E h => ?_) (fun cdv A outer s H vs Q E hr h => ?_)
  · obtain ⟨pg, po, pb, py, bv, ss, bfs, bss, os, rfl, _⟩ := h
    rfl
  · obtain ⟨pg, po, pb, py, bv, ss, bfs, bss, os, rfl, hpg, hpb, hbv, hbl, hpy, hss, hsl, hpo, q⟩ := h
    have hr7 := hr
    refine ⟨_, (pss_cons (ps_asg (pv 0) (pg_tup rfl (pgs_cons (pg_name (i := 2) scLv.nd rfl (.inl rfl)) (pgs_cons (pg_name (i := 3) scLv.nd rfl (.inl rfl)) pgs_nil))))
      (pss_cons (ps_set (i := 4) scLv.nd rfl (.inl rfl) pe_dnewK)
      (pss_cons (ps_for PassesOwn.never rfl (pi_enumT (by rfl) T.enumerate (pa_cons (pv 3) pa_nil)) (pg_tup rfl (pgs_cons (pg_name (i := 5) scLv.nd rfl (.inl rfl)) (pgs_cons (pg_name (i := 6) scLv.nd rfl (.inl rfl)) pgs_nil))) (pss_one (ps_for PassesOwn.never rfl (pi_list (pe_call GBf hr7 (by rfl) gBf kBf bBf .nil pass0 (pa_cons (pv 6) pa_nil))) (pg_name (i := 7) scLv.nd rfl (.inl rfl)) (pss_cons (ps_asg (pe_dget2 (Nat.lt_of_le_of_lt (Nat.add_le_add_left (by decide) _) hr.units) (pv 4) (pv 7) (pe_tup (pa_cons (pv 5) (pa_cons (pv 5) pa_nil))) ⟨rfl, rfl, rfl, rfl⟩) (pg_tup rfl (pgs_cons (pg_name (i := 8) scLv.nd rfl (.inl rfl)) (pgs_cons (pg_name (i := 9) scLv.nd rfl (.inl rfl)) pgs_nil))))
      (pss_one (ps_asg (pe_tup (pa_cons (pv 8) (pa_cons (pv 5) pa_nil))) (pg_sub (pv 4) (pv 7) (set_dict (Nat.lt_of_le_of_lt (Nat.add_le_add_left (by decide) _) hr.units)))))))))
      (pss_cons (ps_set (i := 10) scLv.nd rfl (.inl rfl) (pe_lst pa_nil))
      (pss_cons (ps_for PassesOwn.never rfl (pi_enumT (by rfl) T.enumerate (pa_cons (pv 2) pa_nil)) (pg_tup rfl (pgs_cons (pg_name (i := 7) scLv.nd rfl (.inl rfl)) (pgs_cons (pg_tup rfl (pgs_cons (pg_name (i := 11) scLv.nd rfl (.inl rfl)) (pgs_cons (pg_name (i := 9) scLv.nd rfl (.inl rfl)) pgs_nil))) pgs_nil))) (pss_one (ps_if (pt_cmpR op_eq (pv 11) pe_str (nomark _)) (pss_cons (ps_asg (pe_dget2 (Nat.lt_of_le_of_lt (Nat.add_le_add_left (by decide) _) hr.units) (pv 4) (pv 7) (pe_tup (pa_cons pe_int (pa_cons pe_int pa_nil))) ⟨rfl, rfl, rfl, rfl⟩) (pg_tup rfl (pgs_cons (pg_name (i := 8) scLv.nd rfl (.inl rfl)) (pgs_cons (pg_name (i := 12) scLv.nd rfl (.inl rfl)) pgs_nil))))
      (pss_one (ps_expr (pe_bm PySem.F.plainAttrs_list PySem.F.slot_list_append PySem.F.type_list_append mt_append (pv 10) (pa_cons (pe_tup (pa_cons (pv 8) (pa_cons (pe_ifExp (pt_cmpR op_in_seq (pv 7) (pv 1) rfl) (pe_callB call_len_seq (by rfl) T.len PySem.boot_len (pa_cons (pv 3) pa_nil)) (pv 12)) pa_nil))) pa_nil))))) pss_nil)))
      (pss_one (ps_ret (pe_callTy call_tuple_of (by rfl) T.tuple (by decide +kernel) (pa_cons (pv 10) pa_nil))))))))), ?_⟩
    have t0 : 0 ≤ sizeLine := by decide
    have t1 : 1 ≤ sizeLine := by decide
    have t2 : 2 ≤ sizeLine := by decide
    have big : 1000000 < sizeLine := by decide
    refine ⟨_, rfl, pg, _, rfl, SqT.of hpg, rfl, _, _, rfl, _, _, rfl, rfl, fun G nG => ?_⟩
    have s1 := same_upd (o := .dK []) nG
    have hsl2 := hss.len
    have hbl2 := hbv.len
    refine ⟨_, rfl, py, ss, rfl, SqT.of (s1 _ _ hpy), for_it (walk_enumT (K := K) (a := py) (xs := ss)) (fun i σ H' => ∃ (v5 v6 v7 v8 v9 : Option V) (kvs : List (Key × V)), σ = [some (.ref pg), some (.ref po), some (.ref pb), some (.ref py), some (.ref G), v5, v6, v7, v8, v9, none, none, none] ∧ Same H H' ∧ H' G = some (.dK kvs) ∧ kvs.length ≤ 6000 * i ∧ ∀ k : Nat, MetOk H' (valV kvs (.inl (k : Int))) (fl (ixs bss i k))) ?_ ?_ ?_ ?_⟩
    · exact ⟨none, none, none, none, none, [], rfl, s1, upd_same, Nat.le_refl _, fun k => rfl⟩
    · rintro i σ H' _ ⟨_, _, _, _, _, _, _, sm, _⟩
      exact SqT.of (sm _ _ hpy)
    · rintro i x σ H5 H6 hi ⟨v5, v6, v7, v8, v9, kvs, rfl, sm, hG, hkl, hM⟩ ⟨T', x1, x2, rfl, hT, rfl, e1, e2⟩
      cases e1
      have sT := same_upd (o := .tup [.int (i : Nat), x2]) hT
      have sm6 := sm.trans sT
      have hG6 := sT _ _ hG
      have hM6 := fun k => (hM k).tk (same_tk sT)
      have hT6 : SqT K (upd H5 T' (.tup [.int (i : Nat), x2])) T' [.int (i : Nat), x2] := SqT.of upd_same
      generalize (upd H5 T' (.tup [.int (i : Nat), x2])) = H6 at *
      obtain ⟨b, hb, hxb⟩ := hss.at e2
      have hgd : bss.getD i [] = b := by rw [List.getD_eq_getElem?_getD, hb]; rfl
      refine ⟨T', _, rfl, hT6, rfl, _, _, rfl, _, _, rfl, rfl, ?_⟩
      refine ⟨_, rfl, x2, b, rfl, hxb.tk (same_tk sm6), fun H7 q7 s7 nq7 hq7 hbl7 => ⟨q7, rfl, ⟨_, SqL.of hq7⟩, for_list (K := K) (a := q7) (xs := b.map natV) (fun j σ H' => ∃ (v7 v8 v9 : Option V) (kvs : List (Key × V)), σ = [some (.ref pg), some (.ref po), some (.ref pb), some (.ref py), some (.ref G), some (.int (i : Nat)), some x2, v7, v8, v9, none, none, none] ∧ Same H H' ∧ H' G = some (.dK kvs) ∧ H' q7 = some (.lst (b.map natV)) ∧ kvs.length ≤ 6000 * i + j ∧ ∀ k : Nat, MetOk H' (valV kvs (.inl (k : Int))) (midM bss i (b.take j) k))
        ⟨v7, v8, v9, kvs, rfl, sm6.trans s7, s7 _ _ hG6, hq7, hkl, fun k => (by unfold midM; rw [List.take_zero, if_neg (List.not_mem_nil)]; exact (hM6 k).tk (same_tk s7))⟩ (fun i σ H' _ ⟨_, _, _, _, _, _, _, h, _⟩ => SqL.of h) ?_ ?_⟩⟩
      · have hGq : G ≠ q7 := ne_of_none hG6 nq7
        clear hG hG6 hM hM6 hq7 hkl
        rintro j x σ H' hx ⟨v7, v8, v9, kvs, rfl, sm, hG, hq7, hkl, hM⟩
        obtain ⟨k, hk, rfl⟩ : ∃ k, b[j]? = some k ∧ x = natV k := by
          rw [List.getElem?_map] at hx
          obtain ⟨k, h1, h2⟩ := Option.map_eq_some_iff.mp hx
          exact ⟨k, h1, h2.symm⟩
        have hj := (List.getElem?_eq_some_iff.mp hk).1
        refine ⟨_, rfl, G, rfl, .inl ⟨kvs, .inl hG⟩, _, rfl, _, rfl, _, rfl, t2, fun p np => ?_⟩
        have sp := same_upd (o := .tup [.int (i : Nat), .int (i : Nat)]) np
        have hGp := sp _ _ hG
        have hMp := fun k => (hM k).tk (same_tk sp)
        have hqp := sp _ _ hq7
        obtain ⟨q8, y, h8, h8'⟩ : ∃ (q8 : Addr) (y : V), (valV kvs (.inl (k : Int))).getD (.ref p) = .ref q8 ∧ upd H' p (.tup [.int (i : Nat), .int (i : Nat)]) q8 = some (.tup [.int (nx i (fl (ixs bss i k))).1, y]) := by
          rw [← midM_first bss i (b.take j) k]
          have h := hMp k
          cases hm : midM bss i (b.take j) k with
          | none =>
            rw [hm] at h
            rw [show valV kvs (.inl (k : Int)) = none from h]
            exact ⟨p, _, rfl, upd_same⟩
          | some pr =>
            rw [hm] at h
            obtain ⟨q8, h1, h2⟩ := h
            rw [h1]
            exact ⟨q8, _, rfl, h2⟩
        have smp := sm.trans sp
        generalize upd H' p (.tup [.int (i : Nat), .int (i : Nat)]) = H8 at *
        refine ⟨_, DGet.k (k := .inl (k : Int)) hGp, ?_⟩
        refine ⟨q8, _, h8, SqT.of h8', rfl, _, _, rfl, _, _, rfl, rfl, ?_⟩
        refine ⟨_, rfl, _, rfl, t2, fun p2 np2 => ⟨_, rfl, _, rfl, G, _, rfl, DPut.k (k := .inl (k : Int)) (same_upd np2 _ _ hGp) (by omega), ?_⟩⟩
        have s2 := same_upd (o := .tup [.int (nx i (fl (ixs bss i k))).1, .int (i : Nat)]) np2
        have hG9 := s2 _ _ hGp
        have kk : TK H8 (upd (upd H8 p2 (.tup [.int (nx i (fl (ixs bss i k))).1, .int (i : Nat)])) G (.dK (putK kvs (.inl (k : Int)) (.ref p2)))) := (same_tk s2).trans (tk_dk hG9)
        have hp2 : (upd (upd H8 p2 (.tup [.int (nx i (fl (ixs bss i k))).1, .int (i : Nat)])) G (.dK (putK kvs (.inl (k : Int)) (.ref p2)))) p2 = some (.tup [.int (nx i (fl (ixs bss i k))).1, .int (i : Nat)]) := tk_dk hG9 _ _ upd_same
        refine ⟨_, _, _, putK kvs (.inl (k : Int)) (.ref p2), rfl, same_updN (smp.trans s2) nG, upd_same, by rw [upd_ne hGq.symm]; exact s2 _ _ hqp, ?_, fun k' => ?_⟩
        · have := length_putK kvs (.inl (k : Int)) (.ref p2)
          omega
        · rw [valV_put]
          by_cases e : k' = k
          · subst e
            rw [if_pos rfl]
            unfold midM
            rw [if_pos (by rw [take_snoc hk]; simp)]
            exact ⟨p2, rfl, hp2⟩
          · rw [if_neg (fun z => e (by injection z with z; omega))]
            have em : midM bss i (b.take (j + 1)) k' = midM bss i (b.take j) k' := by
              unfold midM
              rw [take_snoc hk]
              by_cases h : k' ∈ b.take j
              · rw [if_pos h, if_pos (List.mem_append_left _ h)]
              · rw [if_neg h, if_neg (fun z => by rcases List.mem_append.mp z with z | z; exact h z; exact e (List.mem_singleton.mp z))]
            rw [em]
            exact (hMp k').tk kk
      · rintro σ H' ⟨v7, v8, v9, kvs, rfl, sm, hG, hq7, hkl, hM⟩
        refine ⟨_, _, _, _, _, kvs, rfl, sm, hG, ?_, fun k => ?_⟩
        · rw [List.length_map] at hkl
          omega
        · have h := hM k
          unfold midM at h
          rw [List.length_map, List.take_length] at h
          rw [fl_succ, hgd]
          exact h
    · rintro σ H2 ⟨v5, v6, v7, v8, v9, kvs, rfl, sm, hG, hkl, hM⟩
      refine ⟨t0, fun R nR => ?_⟩
      have s2 := same_upd (o := .lst []) nR
      have hGR : G ≠ R := ne_of_none hG nR
      have nR0 : H R = none := by
        cases hh : H R with
        | none => rfl
        | some o => rw [sm _ _ hh] at nR; cases nR
      refine ⟨_, rfl, pb, bv, rfl, SqT.of (s2 _ _ (sm _ _ hpb)), for_it (walk_enumT (K := K) (a := pb) (xs := bv)) (fun i σ H' => ∃ (v7 v8 v9 v11 v12 : Option V) (ls : List V), σ = [some (.ref pg), some (.ref po), some (.ref pb), some (.ref py), some (.ref G), v5, v6, v7, v8, v9, some (.ref R), v11, v12] ∧ Same H H' ∧ H' G = some (.dK kvs) ∧ H' R = some (.lst ls) ∧ ls.length ≤ i ∧ Each (LifeE H') ls (due bfs bss os i) ∧ ∀ k : Nat, MetOk H' (valV kvs (.inl (k : Int))) (fl (ixs bss ss.length k))) ?_ ?_ ?_ ?_⟩
      · exact ⟨_, _, _, none, none, [], rfl, sm.trans s2, s2 _ _ hG, upd_same, Nat.le_refl _, True.intro, fun k => (hM k).tk (same_tk s2)⟩
      · rintro i σ H' _ ⟨_, _, _, _, _, _, _, sm, _⟩
        exact SqT.of (sm _ _ hpb)
      · clear hM hG sm s2 hkl
        rintro i x σ H5 H6 hi ⟨v7, v8, v9, v11, v12, ls, rfl, sm, hG, hR, hll, hL, hM⟩ ⟨T', x1, x2, rfl, hT, rfl, e1, e2⟩
        cases e1
        have sT := same_upd (o := .tup [.int (i : Nat), x2]) hT
        have sm6 := sm.trans sT
        have hG6 := sT _ _ hG
        have hR6 := sT _ _ hR
        have hL6 := lifeE_tk (same_tk sT) hL
        have hM6 := fun k => (hM k).tk (same_tk sT)
        have hT6 : SqT K (upd H5 T' (.tup [.int (i : Nat), x2])) T' [.int (i : Nat), x2] := SqT.of upd_same
        generalize (upd H5 T' (.tup [.int (i : Nat), x2])) = H6 at *
        obtain ⟨⟨role, sz⟩, hb, pe, rfl, hpe⟩ := hbv.at e2
        have hmb : mainB bfs i = decide (role = "main") := by unfold mainB; rw [List.getD_eq_getElem?_getD, hb]; rfl
        refine ⟨T', _, rfl, hT6, rfl, _, _, rfl, _, _, rfl, pe, _, rfl, SqT.of (sm6 _ _ hpe), rfl, _, _, rfl, _, _, rfl, rfl, rfl, ?_⟩
        have hrl : decide (V.str role = V.str "main") = decide (role = "main") := decide_eq_decide.mpr ⟨fun z => V.str.inj z, fun z => congrArg V.str z⟩
        have hds := due_succ bfs bss os i
        rw [hmb] at hds
        refine ⟨_, rfl, rfl, _, rfl, ?_⟩
        show (if decide (V.str role = V.str "main") = true then _ else _)
        rw [hrl]
        by_cases hr2 : role = "main"
        · rw [if_pos (decide_eq_true hr2)]
          rw [if_pos (decide_eq_true hr2)] at hds
          refine ⟨_, rfl, G, rfl, .inl ⟨kvs, .inl hG6⟩, _, rfl, t2, fun p np => ?_⟩
          have sp := same_upd (o := .tup [.int 0, .int 0]) np
          have hGp := sp _ _ hG6
          have hRp := sp _ _ hR6
          have hMp := fun k => (hM6 k).tk (same_tk sp)
          have hLp := lifeE_tk (same_tk sp) hL6
          obtain ⟨q8, h8, h8'⟩ : ∃ (q8 : Addr), (valV kvs (.inl (i : Int))).getD (.ref p) = .ref q8 ∧ upd H6 p (.tup [.int 0, .int 0]) q8 = some (.tup [.int ((fl (ixs bss ss.length i)).getD (0, 0)).1, .int ((fl (ixs bss ss.length i)).getD (0, 0)).2]) := by
            have h := hMp i
            cases hm : fl (ixs bss ss.length i) with
            | none =>
              rw [hm] at h
              rw [show valV kvs (.inl (i : Int)) = none from h]
              exact ⟨p, rfl, upd_same⟩
            | some pr =>
              rw [hm] at h
              obtain ⟨q8, h1, h2⟩ := h
              rw [h1]
              exact ⟨q8, rfl, h2⟩
          have smp := sm6.trans sp
          generalize upd H6 p (.tup [.int 0, .int 0]) = H8 at *
          refine ⟨_, DGet.k (k := .inl (i : Int)) hGp, ?_⟩
          refine ⟨q8, _, h8, SqT.of h8', rfl, _, _, rfl, _, _, rfl, rfl, ?_⟩
          refine ⟨_, rfl, tyL hRp, _, rfl, _, rfl, _, rfl, po, _, rfl, .inr (SqT.of (smp _ _ hpo)), rfl, flat_natV os, _, rfl, ?_⟩
          have lf : life bss os i = (((fl (ixs bss ss.length i)).getD (0, 0)).1, if i ∈ os then ss.length else ((fl (ixs bss ss.length i)).getD (0, 0)).2) := by
            unfold life
            rw [hsl2]
          show (if (if false = true then !inV _ _ else inV (.int (i : Int)) (os.map natV)) = true then _ else _)
          rw [if_neg Bool.false_ne_true, inV_natV]
          by_cases ho : i ∈ os
          · rw [if_pos (decide_eq_true ho)]
            rw [if_pos ho] at lf
            refine ⟨_, rfl, py, _, rfl, .inr (SqT.of (smp _ _ hpy)), t2, fun p3 np3 => ?_⟩
            have s3 := same_upd (o := .tup [.int (((fl (ixs bss ss.length i)).getD (0, 0)).1 : Nat), .int (ss.length : Nat)]) np3
            have kk := (same_tk s3).trans (tk_lst (s3 _ _ hRp) (o := .lst (ls ++ [.ref p3])))
            refine ⟨R, _, _, rfl, rfl, s3 _ _ hRp, by omega, ?_⟩
            refine ⟨_, _, _, _, _, ls ++ [.ref p3], rfl, same_updN (smp.trans s3) nR0, ?_, upd_same, by rw [List.length_append]; show ls.length + 1 ≤ i + 1; omega, ?_, fun k => (hMp k).tk kk⟩
            · rw [upd_ne hGR]
              exact s3 _ _ hGp
            · rw [hds]
              refine (lifeE_tk kk hLp).append (Each.one ⟨p3, rfl, ?_⟩)
              rw [lf]
              exact tk_lst (s3 _ _ hRp) _ _ upd_same
          · rw [if_neg (fun z => ho (of_decide_eq_true z))]
            rw [if_neg ho] at lf
            refine ⟨_, rfl, t2, fun p3 np3 => ?_⟩
            have s3 := same_upd (o := .tup [.int (((fl (ixs bss ss.length i)).getD (0, 0)).1 : Nat), .int (((fl (ixs bss ss.length i)).getD (0, 0)).2 : Nat)]) np3
            have kk := (same_tk s3).trans (tk_lst (s3 _ _ hRp) (o := .lst (ls ++ [.ref p3])))
            refine ⟨R, _, _, rfl, rfl, s3 _ _ hRp, by omega, ?_⟩
            refine ⟨_, _, _, _, _, ls ++ [.ref p3], rfl, same_updN (smp.trans s3) nR0, ?_, upd_same, by rw [List.length_append]; show ls.length + 1 ≤ i + 1; omega, ?_, fun k => (hMp k).tk kk⟩
            · rw [upd_ne hGR]
              exact s3 _ _ hGp
            · rw [hds]
              refine (lifeE_tk kk hLp).append (Each.one ⟨p3, rfl, ?_⟩)
              rw [lf]
              exact tk_lst (s3 _ _ hRp) _ _ upd_same
        · rw [if_neg (fun z => hr2 (of_decide_eq_true z))]
          rw [if_neg (fun z => hr2 (of_decide_eq_true z)), List.append_nil] at hds
          exact ⟨_, _, _, _, _, ls, rfl, sm6, hG6, hR6, by omega, by rw [hds]; exact hL6, hM6⟩
      · rintro σ H' ⟨v7, v8, v9, v11, v12, ls, rfl, sm, hG, hR, hll, hL, hM⟩
        refine ⟨_, rfl, R, _, rfl, .inl ⟨SqL.of hR, fun q' nq => ?_⟩⟩
        have s3 := same_upd (o := .tup ls) nq
        refine q _ q' ls (sm.trans s3) upd_same ?_
        rw [← hbl2]
        exact lifeE_tk (same_tk s3) hL
end
section
variable {P : Program} {w : World} {K : PySem.W.Frag} {mg : Str → Option Value} {base : Heap}
def Kp (d : Addr) (H H' : Hp) : Prop := ∀ b o, b ≠ d → H b = some o → H' b = some o
theorem Kp.refl (d : Addr) (H : Hp) : Kp d H H := fun _ _ _ h => h
theorem Kp.trans {d : Addr} {H H1 H2 : Hp} (a : Kp d H H1) (b : Kp d H1 H2) : Kp d H H2 := fun p o n h => b p o n (a p o n h)
theorem But.kp {d : Addr} {H H' : Hp} (k : But d H H') : Kp d H H' := fun b o n h => by rw [k b n]; exact h
theorem same_kp {d : Addr} {H H' : Hp} (s : Same H H') : Kp d H H' := fun b o _ h => s b o h
theorem Kp.upd {d p : Addr} {H H' : Hp} {o : HO} (k : Kp d H H') (h : H p = none) : Kp d H (upd H' p o) := fun b x n e => by
  rw [upd_ne (ne_of_none e h)]
  exact k b x n e
theorem Kp.tk {d c : Addr} {H H' : Hp} (k : Kp d H H') (dr : DrAt H d c) : TK H H' := fun a xs h => by
  obtain ⟨ys, hd⟩ := dr.lst
  exact k a _ (ne_of h hd (fun z => nomatch z)) h
theorem new_neD {H : Hp} {d c D : Addr} (dr : DrAt H d c) (h : H D = none) : D ≠ d ∧ D ≠ c := by
  obtain ⟨xs, h1⟩ := dr.lst
  obtain ⟨ys, h2⟩ := dr.lstc
  exact ⟨fun e => (by rw [e, h1] at h; cases h), fun e => (by rw [e, h2] at h; cases h)⟩
theorem nonew {d p : Addr} {H H' : Hp} (k : Kp d H H') (n : p ≠ d) (h : H' p = none) : H p = none := by
  cases hh : H p with
  | none => rfl
  | some o => rw [k _ _ n hh] at h; cases h
def EnvAt (H : Hp) (d l : Addr) (m : Nat) : Prop := ∃ vs, H l = some (.lst vs) ∧ l ≠ d ∧ vs.length ≤ m ∧ ∀ v ∈ vs, ∃ (p q : Addr) (x : V) (ns : List Int), v = .ref p ∧ p ≠ d ∧ H p = some (.tup [x, .ref q]) ∧ q ≠ d ∧ H q = some (.lst (ns.map V.int)) ∧ 0 < ns.length ∧ ns.length ≤ 10
theorem EnvAt.kp {d l : Addr} {m : Nat} {H H' : Hp} (k : Kp d H H') : EnvAt H d l m → EnvAt H' d l m
  | ⟨vs, h1, h2, h3, h4⟩ => ⟨vs, k _ _ h2 h1, h2, h3, fun v hv => by
    obtain ⟨p, q, x, ns, e, n1, h5, n2, h6, h7⟩ := h4 v hv
    exact ⟨p, q, x, ns, e, n1, k _ _ n1 h5, n2, k _ _ n2 h6, h7⟩⟩
def spForm : Sp := fun vs H Q _ => ∃ (d c l : Addr) (z : Int), vs = [.ref d, .ref l, .int z] ∧ DrAt H d c ∧ EnvAt H d l 4 ∧ 1 ≤ z ∧ z ≤ 1000 ∧ ∀ H' v, Kp d H H' → DrAt H' d c → Q v H'
abbrev nFo : List Str := ["d", "env", "size", "terms", "low", "high", "var", "values", "factor", "ends", "v"]
theorem scFo : FnScope nFo ["d", "env", "size"] (defScope sForm) := ⟨rfl, rfl, rfl, by decide +kernel, rfl, by decide +kernel, by decide +kernel⟩
theorem ok_form {f : Addr} {fd : FuncData} (F : Fun K "_law_form" "_law_form" sForm f fd) (T : Txt42 mg) (cT : Calls P w K mg base CX0 1 "_law_take" ["d", "many"] spTake) : FnOk P w K mg base CX0 2 f fd ["d", "env", "size"] spForm := by
  obtain ⟨fT, dT, GT, kT, bT, gT⟩ := cT.ex
  refine F.ok scFo (fun vs H Q E h => ?_) (fun cdv A outer s H vs Q E hr1 h => ?_)
  · obtain ⟨d, c, l, z, rfl, _⟩ := h
    rfl
  · obtain ⟨d, c, l, z, rfl, dr, ⟨vs, hl, nl, hvl, hv⟩, hz1, hz2, q⟩ := h
    have hr := hr1
    refine ⟨_, (pss_cons (ps_set (i := 3) scFo.nd rfl (.inl rfl) (pe_lst pa_nil))
      (pss_cons (ps_set (i := 4) scFo.nd rfl (.inl rfl) pe_int)
      (pss_cons (ps_set (i := 5) scFo.nd rfl (.inl rfl) pe_int)
      (pss_cons (ps_for PassesOwn.never rfl (pi_list (pv 1)) (pg_tup rfl (pgs_cons (pg_name (i := 6) scFo.nd rfl (.inl rfl)) (pgs_cons (pg_name (i := 7) scFo.nd rfl (.inl rfl)) pgs_nil))) (pss_one (ps_if (pt_cmpR op_gt (pe_call GT hr1 (by rfl) gT kT bT .nil pass0 (pa_cons (pv 0) (pa_cons pe_int pa_nil))) pe_int (nomark _)) (pss_cons (ps_set (i := 8) scFo.nd rfl (.inr rfl) (pe_ix ix_tup (pe_tup (pa_cons pe_int (pa_cons pe_int (pa_cons pe_int (pa_cons (pe_op op_sub pe_int pe_int) pa_nil))))) (pe_call GT hr1 (by rfl) gT kT bT .nil pass0 (pa_cons (pv 0) (pa_cons pe_int pa_nil))) (fun _ _ => rfl)))
      (pss_cons (ps_setLc (i := 9) (own := [("v", 10)]) (g := (gName 10)) (tt := tYes) (te := (tOp (rI CMul fun i j => .int (i * j)) (tVar 8) (tVar 10))) (by rfl) scFo.nd rfl rfl (sw_true rfl rfl rfl (by decide +kernel)) (pi_list (pv 7)) (blkOk_by (N := nFo) (sc := defScope sForm) (by decide +kernel)) (fun _ _ _ _ _ => (pg_name (i := 10) scFo.nd rfl (.inl rfl) (hf := Or.inr rfl))) (fun _ _ _ _ _ => pts_nil) (fun _ _ _ _ _ => (pe_op op_mul (pv 8) (pv 10))))
      (pss_one (ps_if (pt_cmpR op_lt (pe_op op_sub (pe_op op_sub (pe_op op_add (pv 5) (pe_callB (cr_max rfl) (by rfl) T.max (by decide +kernel) (pa_cons (pv 9) pa_nil))) (pv 4)) (pe_callB (cr_min rfl) (by rfl) T.min (by decide +kernel) (pa_cons (pv 9) pa_nil))) (pv 2) (nomark _)) (pss_cons (ps_expr (pe_bm PySem.F.plainAttrs_list PySem.F.slot_list_append PySem.F.type_list_append mt_append (pv 3) (pa_cons (pe_tup (pa_cons (pv 6) (pa_cons (pv 8) pa_nil))) pa_nil)))
      (pss_cons (ps_set (i := 4) scFo.nd rfl (.inl rfl) (pe_op op_add (pv 4) (pe_callB (cr_min rfl) (by rfl) T.min (by decide +kernel) (pa_cons (pv 9) pa_nil))))
      (pss_one (ps_set (i := 5) scFo.nd rfl (.inl rfl) (pe_op op_add (pv 5) (pe_callB (cr_max rfl) (by rfl) T.max (by decide +kernel) (pa_cons (pv 9) pa_nil))))))) pss_nil)))) pss_nil)))
      (pss_one (ps_ret (pe_tup (pa_cons (pe_op op_sub (pe_call GT hr1 (by rfl) gT kT bT .nil pass0 (pa_cons (pv 0) (pa_cons (pe_op op_add (pe_op op_sub (pv 2) (pv 5)) (pv 4)) pa_nil))) (pv 4)) (pa_cons (pe_callTy call_tuple_of (by rfl) T.tuple (by decide +kernel) (pa_cons (pv 3) pa_nil)) pa_nil))))))))), ?_⟩
    have t0 : 0 ≤ sizeLine := by decide
    have t1 : 1 ≤ sizeLine := by decide
    have t2 : 2 ≤ sizeLine := by decide
    have t4 : 4 ≤ sizeLine := by decide
    have big : 1000 ≤ sizeLine := by decide
    refine ⟨t0, fun D nD => ?_⟩
    obtain ⟨nDd, nDc⟩ := new_neD dr nD
    have nDl : l ≠ D := ne_of_none hl nD
    refine ⟨_, rfl, l, rfl, ⟨_, SqL.of (same_upd nD _ _ hl)⟩, for_list (K := K) (a := l) (xs := vs) (fun i σ H' => ∃ (v6 v7 v8 v9 v10 : Option V) (ts : List V) (lo hi : Int), σ = [some (.ref d), some (.ref l), some (.int z), some (.ref D), some (.int lo), some (.int hi), v6, v7, v8, v9, v10] ∧ Kp d H H' ∧ DrAt H' d c ∧ H' D = some (.lst ts) ∧ ts.length ≤ i ∧ 0 ≤ hi - lo ∧ hi - lo < z)
      ⟨none, none, none, none, none, [], 0, 0, rfl, same_kp (same_upd nD), dr.same (same_upd nD), upd_same, Nat.le_refl _, by omega, by omega⟩ (fun i σ H' _ ⟨_, _, _, _, _, _, _, _, _, k, _⟩ => SqL.of (k _ _ nl hl)) ?_ ?_⟩
    · rintro i x σ H' hx ⟨v6, v7, v8, v9, v10, ts, lo, hi, rfl, k, dr', hD, htl, hn0, hn1⟩
      obtain ⟨p, qa, x0, ns, rfl, np, hp, nq, hq, hnp, hnl⟩ := hv x (List.mem_of_getElem? hx)
      have hi2 := (List.getElem?_eq_some_iff.mp hx).1
      refine ⟨p, _, rfl, SqT.of (k _ _ np hp), rfl, _, _, rfl, _, _, rfl, rfl, ?_⟩
      refine ⟨_, rfl, d, c, 3, rfl, dr', by decide, bnd_le (by decide), fun H1 t k1 dr1 g0 g1 => ⟨_, _, rfl, rfl, _, rfl, ite2 (fun e => ?_) (fun e => ?_)⟩⟩
      · refine ⟨_, _, rfl, rfl, t4, fun tp ntp => ⟨_, rfl, d, c, 4, rfl, dr1.same (same_upd ntp), by decide, bnd_le (by decide), fun H2 u k2 dr2 u0 u1 => ?_⟩⟩
        obtain ⟨un, rfl⟩ : ∃ un : Nat, u = (un : Int) := ⟨u.toNat, by omega⟩
        have htp := k2.tup (dr1.same (same_upd ntp)) (upd_same (H := H1) (a := tp) (o := .tup [.int 1, .int 1, .int 2, .int (0 - 1)]))
        obtain ⟨fa, hfa, hf0, hf1⟩ : ∃ fa : Int, atI [V.int 1, .int 1, .int 2, .int (0 - 1)] (un : Int) = some (.int fa) ∧ -2 ≤ fa ∧ fa ≤ 2 := by
          match un, u1 with
          | 0, _ => exact ⟨1, rfl, by decide, by decide⟩
          | 1, _ => exact ⟨1, rfl, by decide, by decide⟩
          | 2, _ => exact ⟨2, rfl, by decide, by decide⟩
          | 3, _ => exact ⟨0 - 1, rfl, by decide, by decide⟩
          | n + 4, h => exact absurd h (by omega)
        have k02 : Kp d H' H2 := (k1.kp.trans (same_kp (same_upd ntp))).trans k2.kp
        refine ⟨tp, _, _, _, rfl, rfl, SqT.of htp, hfa, ?_⟩
        have hq2 := k02 _ _ nq (k _ _ nq hq)
        have hD2 := k02 _ _ nDd hD
        refine ⟨_, rfl, qa, rfl, ⟨_, SqL.of hq2⟩, fun L nL => lc_list (K := K) (a := qa) (xs := ns.map V.int) (fun i H' => Same H2 H' ∧ H' L = some (.lst ((ns.take i).map fun n => V.int (fa * n)))) ⟨same_upd nL, upd_same⟩ (fun i H' _ ⟨s, _⟩ => SqL.of (s _ _ hq2)) ?_ ?_⟩
        · rintro j y H3 hj ⟨s3, hL⟩
          obtain ⟨n, rfl, hn⟩ := map_int_at hj
          have hjl := (List.getElem?_eq_some_iff.mp hn).1
          refine ⟨rfl, ?_⟩
          unfold tYes
          dsimp only
          rw [if_pos rfl]
          refine ⟨_, rfl, _, rfl, _, _, rfl, rfl, .inl ⟨by omega, by omega⟩, _, hL, ?_, same_updN s3 nL, ?_⟩
          · rw [List.length_map, List.length_take]
            exact small1000 (by omega)
          · rw [upd_same, take_snoc hn, List.map_append]
            rfl
        · rintro H3 ⟨s3, hL⟩
          rw [List.length_map, List.take_length] at hL
          have hL' : H3 L = some (.lst ((ns.map fun n => fa * n).map V.int)) := by rw [hL, List.map_map]; rfl
          have hpos : 0 < (ns.map fun n => fa * n).length := by rw [List.length_map]; exact hnp
          generalize (ns.map fun n => fa * n) = es at hL' hpos
          clear hL
          obtain ⟨nLd, nLc⟩ := new_neD dr2 nL
          refine ⟨_, rfl, _, rfl, L, _, rfl, SqL.of hL', hpos, fun m hm hmax => ⟨_, _, rfl, rfl, _, rfl, _, _, rfl, rfl, _, rfl, L, _, rfl, SqL.of hL', hpos, fun n hn hmin => ⟨_, _, rfl, rfl, _, rfl, _, _, rfl, rfl, _, rfl, ite2 (fun e => ?_) (fun e => ?_)⟩⟩⟩
          · have e : hi + m - lo - n < z := of_decide_eq_true e
            have hmn := hmin m hm
            refine ⟨_, rfl, tyL (s3 _ _ hD2), _, rfl, _, rfl, t2, fun p2 np2 => ⟨D, _, _, rfl, rfl, same_upd np2 _ _ (s3 _ _ hD2), by omega, ?_⟩⟩
            have nLp : L ≠ p2 := ne_of_none hL' np2
            have nLD : L ≠ D := (ne_of_none hD2 nL).symm
            have hL4 : (upd (upd H3 p2 (.tup [x0, .int fa])) D (.lst (ts ++ [.ref p2]))) L = some (.lst (es.map V.int)) := by
              rw [upd_ne nLD, upd_ne nLp]
              exact hL'
            have k4 : Kp d H (upd (upd H3 p2 (.tup [x0, .int fa])) D (.lst (ts ++ [.ref p2]))) := (((k.trans k02).trans (same_kp s3)).trans (same_kp (same_upd np2))).upd nD
            have dr4 : DrAt (upd (upd H3 p2 (.tup [x0, .int fa])) D (.lst (ts ++ [.ref p2]))) d c := (((dr2.same s3).same (same_upd np2)).upd _ nDd nDc)
            have hD4 : (upd (upd H3 p2 (.tup [x0, .int fa])) D (.lst (ts ++ [.ref p2]))) D = some (.lst (ts ++ [.ref p2])) := upd_same
            generalize upd (upd H3 p2 (.tup [x0, .int fa])) D (.lst (ts ++ [.ref p2])) = H4 at *
            refine ⟨_, rfl, _, rfl, L, _, rfl, SqL.of hL4, hpos, fun n' hn' hmin' => ⟨_, _, rfl, rfl, ?_⟩⟩
            have en : n' = n := Int.le_antisymm (hmin' n hn) (hmin n' hn')
            subst en
            refine ⟨_, rfl, _, rfl, L, _, rfl, SqL.of hL4, hpos, fun m' hm' hmax' => ⟨_, _, rfl, rfl, ?_⟩⟩
            have em : m' = m := Int.le_antisymm (hmax m' hm') (hmax' m hm)
            subst em
            exact ⟨_, _, _, _, _, ts ++ [.ref p2], _, _, rfl, k4, dr4, hD4, by rw [List.length_append]; show ts.length + 1 ≤ i + 1; omega, by omega, by omega⟩
          · exact ⟨_, _, _, _, _, ts, _, _, rfl, (k.trans k02).trans (same_kp s3), dr2.same s3, s3 _ _ hD2, by omega, hn0, hn1⟩
      · exact ⟨_, _, _, _, _, ts, _, _, rfl, k.trans k1.kp, dr1, k1.kp _ _ nDd hD, by omega, hn0, hn1⟩
    · rintro σ H' ⟨v6, v7, v8, v9, v10, ts, lo, hi, rfl, k, dr', hD, htl, hn0, hn1⟩
      refine ⟨_, rfl, _, rfl, _, rfl, _, _, rfl, rfl, _, rfl, _, _, rfl, rfl, d, c, _, rfl, dr', by omega, bnd_le (by omega), fun H1 t k1 dr1 g0 g1 => ⟨_, rfl, _, _, rfl, rfl, _, rfl, D, _, rfl, .inl ⟨SqL.of (k1.kp _ _ nDd hD), fun tp ntp => ⟨t2, fun p np => ?_⟩⟩⟩⟩
      exact q _ _ ((k.trans k1.kp).trans ((same_kp (same_upd ntp)).trans (same_kp (same_upd np)))) ((dr1.same (same_upd ntp)).same (same_upd np))
def spTest : Sp := fun vs H Q _ => ∃ (d c l : Addr), vs = [.ref d, .ref l] ∧ DrAt H d c ∧ EnvAt H d l 4 ∧ ∀ H' v, Kp d H H' → DrAt H' d c → Q v H'
abbrev nTe : List Str := ["d", "env", "terms", "var", "values"]
theorem scTe : FnScope nTe ["d", "env"] (defScope sTest) := ⟨rfl, rfl, rfl, by decide +kernel, rfl, by decide +kernel, by decide +kernel⟩
theorem ok_test {f : Addr} {fd : FuncData} (F : Fun K "_law_test" "_law_test" sTest f fd) (T : Txt42 mg) (cT : Calls P w K mg base CX0 1 "_law_take" ["d", "many"] spTake) (cS : Calls P w K mg base CX0 2 "_law_signed" ["d", "most"] spSigned) : FnOk P w K mg base CX0 3 f fd ["d", "env"] spTest := by
  obtain ⟨fT, dT, GT, kT, bT, gT⟩ := cT.ex
  obtain ⟨fS, dS, GS, kS, bS, gS⟩ := cS.ex
  refine F.ok scTe (fun vs H Q E h => ?_) (fun cdv A outer s H vs Q E hr2 h => ?_)
  · obtain ⟨d, c, l, rfl, _⟩ := h
    rfl
  · obtain ⟨d, c, l, rfl, dr, ⟨vs, hl, nl, hvl, hv⟩, q⟩ := h
    have hr1 : Room 1 _ := hr2.mono (by decide)
    refine ⟨_, (pss_cons (ps_set (i := 2) scTe.nd rfl (.inl rfl) (pe_callTy call_tuple_of (by rfl) T.tuple (by decide +kernel) (pa_cons (pe_lc (own := [("var", 3), ("values", 4)]) (g := (gTup K 2 (gCons (gName 3) (gCons (gName 4) gNil)))) (tt := tYes) (te := (tTup (tCons (tVar 3) (tCons (tOp (rIxT K) (tTup (tCons (tC (.int 1)) (tCons (tOp (rI0 fun i j => .int (i - j)) (tC (.int 0)) (tC (.int 1))) (tCons (tC (.int 2)) tNil)))) (tCall spTake [] E0 (tCons (tVar 0) (tCons (tC (.int 3)) tNil)))) tNil)))) rfl scTe.nd (pi_list (pe_slice sl_list (pv 1) po_none (po_some pe_int))) (blkOk_by (N := nTe) (sc := defScope sTest) (by decide +kernel)) (fun _ _ _ _ _ => (pg_tup rfl (pgs_cons (pg_name (i := 3) scTe.nd rfl (.inl rfl) (hf := Or.inr rfl)) (pgs_cons (pg_name (i := 4) scTe.nd rfl (.inl rfl) (hf := Or.inr rfl)) pgs_nil)))) (fun _ _ _ _ _ => pts_nil) (fun _ _ _ _ _ => (pe_tup (pa_cons (pv 3) (pa_cons (pe_ix ix_tup (pe_tup (pa_cons pe_int (pa_cons (pe_op op_sub pe_int pe_int) (pa_cons pe_int pa_nil)))) (pe_call GT hr1 (by rfl) gT kT bT .nil pass0 (pa_cons (pv 0) (pa_cons pe_int pa_nil))) (fun _ _ => rfl)) pa_nil))))) pa_nil)))
      (pss_one (ps_ret (pe_tup (pa_cons (pe_call GS hr2 (by rfl) gS kS bS .nil pass0 (pa_cons (pv 0) (pa_cons pe_int pa_nil))) (pa_cons (pv 2) pa_nil)))))), ?_⟩
    have t2 : 2 ≤ sizeLine := by decide
    have t3 : 3 ≤ sizeLine := by decide
    refine ⟨_, rfl, 2, rfl, l, vs, rfl, SqL.of hl, fun L nL => ?_⟩
    have hsub : ∀ v ∈ cutV vs none (some 2), v ∈ vs := fun v hv => List.mem_of_mem_drop (List.mem_of_mem_take hv)
    have hcl : (cutV vs none (some 2)).length ≤ vs.length := by
      unfold cutV
      rw [List.length_take, List.length_drop]
      omega
    generalize cutV vs none (some 2) = ws at *
    obtain ⟨nLd, nLc⟩ := new_neD dr nL
    refine ⟨L, rfl, ⟨_, SqL.of upd_same⟩, fun D nD => lc_list (K := K) (a := L) (xs := ws) (fun i H' => ∃ ts : List V, Kp d H H' ∧ DrAt H' d c ∧ H' L = some (.lst ws) ∧ H' D = some (.lst ts) ∧ ts.length = i) ?_ (fun i H' _ ⟨_, _, _, h, _⟩ => SqL.of h) ?_ ?_⟩
    · exact ⟨[], (same_kp (same_upd nL)).trans (same_kp (same_upd nD)), (dr.same (same_upd nL)).same (same_upd nD), same_upd nD _ _ upd_same, upd_same, rfl⟩
    · rintro i x H' hi ⟨ts, k, dr', hL, hD, htl⟩
      have nDL : L ≠ D := ne_of_none (upd_same (H := H) (a := L)) nD
      have nD0 : H D = none := by
        rw [upd_ne nDL.symm] at nD
        exact nD
      obtain ⟨nDd, nDc⟩ := new_neD dr nD0
      obtain ⟨p, qa, x0, ns, rfl, np, hp, nq, hq, hnp, hnl⟩ := hv x (hsub x (List.mem_of_getElem? hi))
      have hi2 := (List.getElem?_eq_some_iff.mp hi).1
      refine ⟨p, _, rfl, SqT.of (k _ _ np hp), rfl, _, _, rfl, _, _, rfl, rfl, ?_⟩
      unfold tYes
      dsimp only
      rw [if_pos rfl]
      refine ⟨rfl, _, rfl, _, _, rfl, rfl, t3, fun tp ntp => ⟨_, rfl, d, c, 3, rfl, dr'.same (same_upd ntp), by decide, bnd_le (by decide), fun H2 u k2 dr2 u0 u1 => ?_⟩⟩
      obtain ⟨un, rfl⟩ : ∃ un : Nat, u = (un : Int) := ⟨u.toNat, by omega⟩
      have htp := k2.tup (dr'.same (same_upd ntp)) (upd_same (H := H') (a := tp) (o := .tup [.int 1, .int (0 - 1), .int 2]))
      obtain ⟨fa, hfa⟩ : ∃ fa : Int, atI [V.int 1, .int (0 - 1), .int 2] (un : Int) = some (.int fa) := by
        match un, u1 with
        | 0, _ => exact ⟨1, rfl⟩
        | 1, _ => exact ⟨0 - 1, rfl⟩
        | 2, _ => exact ⟨2, rfl⟩
        | n + 3, h => exact absurd h (by omega)
      refine ⟨tp, _, _, _, rfl, rfl, SqT.of htp, hfa, t2, fun p2 np2 => ?_⟩
      have k02 : Kp d H' (upd H2 p2 (.tup [x0, .int fa])) := ((same_kp (same_upd ntp)).trans k2.kp).trans (same_kp (same_upd np2))
      refine ⟨_, k02 _ _ nDd hD, by rw [htl]; exact small1000 (by omega), ts ++ [.ref p2], (k.trans k02).upd nD0, (dr2.same (same_upd np2)).upd _ nDd nDc, by rw [upd_ne nDL]; exact k02 _ _ nLd hL, upd_same, by rw [List.length_append, htl]; rfl⟩
    · rintro H' ⟨ts, k, dr', hL, hD, htl⟩
      refine ⟨D, _, rfl, .inl ⟨SqL.of hD, fun tp ntp => ?_⟩⟩
      refine ⟨_, rfl, d, c, 2, rfl, dr'.same (same_upd ntp), by decide, bnd_le (by decide), fun H2 u k2 dr2 u0 u1 => ⟨_, rfl, t2, fun p2 np2 => ?_⟩⟩
      exact q _ _ (((k.trans (same_kp (same_upd ntp))).trans k2.kp).trans (same_kp (same_upd np2))) (dr2.same (same_upd np2))
def spPI : Sp := fun vs H Q _ => ∃ (d c : Addr) (z : Str), vs = [.ref d, .str z] ∧ DrAt H d c ∧ ∀ H' v, Kp d H H' → DrAt H' d c → Q v H'
abbrev nPi : List Str := ["d", "kind", "low"]
theorem scPi : FnScope nPi ["d", "kind"] (defScope sPInfo) := ⟨rfl, rfl, rfl, by decide +kernel, rfl, by decide +kernel, by decide +kernel⟩
theorem ok_pi {f : Addr} {fd : FuncData} (F : Fun K "_law_point_info" "_law_point_info" sPInfo f fd) (cT : Calls P w K mg base CX0 1 "_law_take" ["d", "many"] spTake) (cS : Calls P w K mg base CX0 2 "_law_signed" ["d", "most"] spSigned) : FnOk P w K mg base CX0 3 f fd ["d", "kind"] spPI := by
  obtain ⟨fT, dT, GT, kT, bT, gT⟩ := cT.ex
  obtain ⟨fS, dS, GS, kS, bS, gS⟩ := cS.ex
  refine F.ok scPi (fun vs H Q E h => ?_) (fun cdv A outer s H vs Q E hr2 h => ?_)
  · obtain ⟨d, c, z, rfl, _⟩ := h
    rfl
  · obtain ⟨d, c, z, rfl, dr, q⟩ := h
    have hr1 : Room 1 _ := hr2.mono (by decide)
    refine ⟨_, (pss_cons (ps_if (pt_cmpR op_eq (pv 1) pe_str (nomark _)) (pss_cons (ps_set (i := 2) scPi.nd rfl (.inl rfl) (pe_call GS hr2 (by rfl) gS kS bS .nil pass0 (pa_cons (pv 0) (pa_cons pe_int pa_nil))))
      (pss_one (ps_ret (pe_tup (pa_cons (pv 2) (pa_cons (pe_op op_add (pv 2) (pe_call GT hr1 (by rfl) gT kT bT .nil pass0 (pa_cons (pv 0) (pa_cons pe_int pa_nil)))) pa_nil)))))) pss_nil)
      (pss_one (ps_ret (pe_ifExp (pt_cmpR op_eq (pv 1) pe_str (nomark _)) (pe_tup (pa_cons (pe_op op_add pe_int (pe_call GT hr1 (by rfl) gT kT bT .nil pass0 (pa_cons (pv 0) (pa_cons pe_int pa_nil)))) pa_nil)) (pe_tup pa_nil))))), ?_⟩
    have t0 : 0 ≤ sizeLine := by decide
    have t1 : 1 ≤ sizeLine := by decide
    have t2 : 2 ≤ sizeLine := by decide
    refine ⟨_, rfl, rfl, _, rfl, ite2 (fun e => ?_) (fun e => ⟨_, rfl, rfl, _, rfl, ite2 (fun e => ?_) (fun e => ?_)⟩)⟩
    · refine ⟨_, rfl, d, c, 9, rfl, dr, by decide, bnd_le (by decide), fun H1 u k1 dr1 u0 u1 => ⟨_, rfl, _, rfl, _, rfl, d, c, 12, rfl, dr1, by decide, bnd_le (by decide), fun H2 t k2 dr2 w0 w1 => ⟨_, _, rfl, rfl, t2, fun p np => ?_⟩⟩⟩
      exact q _ _ ((k1.kp.trans k2.kp).trans (same_kp (same_upd np))) (dr2.same (same_upd np))
    · refine ⟨_, rfl, d, c, 3, rfl, dr, by decide, bnd_le (by decide), fun H2 t k2 dr2 w0 w1 => ⟨_, _, rfl, rfl, ?_⟩⟩
      refine ⟨by show 1 ≤ sizeLine; exact t1, fun p np => ?_⟩
      exact q _ _ (k2.kp.trans (same_kp (same_upd np))) (dr2.same (same_upd np))
    · exact ⟨t0, fun p np => q _ _ (same_kp (same_upd np)) (dr.same (same_upd np))⟩
end
def tStrs : List Str → TA
  | [] => tNil
  | z :: r => tCons (tC (.str z)) (tStrs r)
theorem tStrs_run : ∀ (zs : List Str) (σ : St) (H : Hp) (Q : List V → Hp → Prop), Q (zs.map V.str) H → tStrs zs σ H Q
  | [], _, _, _, h => h
  | z :: r, σ, H, Q, h => tStrs_run r σ H (fun vs H' => Q (.str z :: vs) H') h
theorem inV_strs (z : Str) : ∀ zs : List Str, inV (.str z) (zs.map V.str) = decide (z ∈ zs)
  | [] => by simp [inV]
  | y :: zs => by
    have ih := inV_strs z zs
    unfold inV at *
    rw [List.map_cons, List.any_cons, ih]
    show ((y == z) || decide (z ∈ zs)) = decide (z ∈ y :: zs)
    rw [Bool.eq_iff_iff, Bool.or_eq_true, beq_iff_eq, decide_eq_true_iff, decide_eq_true_iff, List.mem_cons]
    exact or_congr eq_comm Iff.rfl
theorem flat_strs : ∀ zs : List Str, (zs.map V.str).all flatV = true
  | [] => rfl
  | _ :: zs => flat_strs zs
/-- kind in ('a', 'b', ..) -/
def tInS (i : Nat) (zs : List Str) : TE := fun σ H Q => ∃ z, σ[i]? = some (some (.str z)) ∧ ∀ H', Same H H' → Q (.bl (decide (z ∈ zs))) H'
theorem pe_inS {X : Cx} {e : Expr} {es : List Expr} {i : Nat} {zs : List Str} {c : Nat} {pos pos' : Pos} (hz : zs.length ≤ 1000) (he : PE X e (tVar i)) (ht : PA X es (tStrs zs)) (hb : behindInMarks .In (.Tuple es c pos') = false := by rfl) : PE X (.Compare e [.In] [.Tuple es c pos'] pos) (tInS i zs) := by
  refine ⟨fun pins s σ H Q I h => ?_⟩
  obtain ⟨z, hz2, q⟩ := h
  refine (pe_cmpR op_in_seq he (pe_tup ht) hb).run pins s σ H Q I ⟨.str z, hz2, tStrs_run zs σ H _ ⟨?_, fun p np => ?_⟩⟩
  · rw [List.length_map]
    exact Nat.le_trans hz (by decide)
  · refine ⟨p, zs.map V.str, rfl, .inr (SqT.of upd_same), rfl, flat_strs zs, ?_⟩
    show Q (.bl (inV (.str z) (zs.map V.str))) _
    rw [inV_strs]
    exact q _ (same_upd np)
theorem pt_inS {X : Cx} {e : Expr} {es : List Expr} {i : Nat} {zs : List Str} {c : Nat} {pos pos' : Pos} (hz : zs.length ≤ 1000) (he : PE X e (tVar i)) (ht : PA X es (tStrs zs)) (hb : behindInMarks .In (.Tuple es c pos') = false := by rfl) : PT X (.Compare e [.In] [.Tuple es c pos'] pos) (tTest (tInS i zs)) := by
  refine ⟨fun pins s σ H Q I h => ?_⟩
  obtain ⟨z, hz2, q⟩ := h
  refine (pt_cmpR op_in_seq he (pe_tup ht) hb).run pins s σ H Q I ⟨.str z, hz2, tStrs_run zs σ H _ ⟨?_, fun p np => ?_⟩⟩
  · rw [List.length_map]
    exact Nat.le_trans hz (by decide)
  · refine ⟨p, zs.map V.str, rfl, .inr (SqT.of upd_same), rfl, flat_strs zs, ?_⟩
    have := q _ (same_upd (o := .tup (zs.map V.str)) np)
    rw [← inV_strs] at this
    exact this
section
variable {P : Program} {w : World} {K : PySem.W.Frag} {mg : Str → Option Value} {base : Heap}
def BufN (H : Hp) (d : Addr) (v : V) (b : Str × Int) : Prop := ∃ p : Addr, v = .ref p ∧ p ≠ d ∧ H p = some (.tup [.str b.1, .int b.2])
def BufsAt (H : Hp) (d bl : Addr) (bfs : List (Str × Int)) : Prop := ∃ bv, bl ≠ d ∧ (H bl = some (.lst bv) ∨ H bl = some (.tup bv)) ∧ Each (BufN H d) bv bfs
theorem BufsAt.kp {d bl : Addr} {bfs : List (Str × Int)} {H H' : Hp} (k : Kp d H H') : BufsAt H d bl bfs → BufsAt H' d bl bfs
  | ⟨bv, n, h, e⟩ => ⟨bv, n, h.imp (k _ _ n) (k _ _ n), e.mono fun v b ⟨p, e1, e2, e3⟩ => ⟨p, e1, e2, k _ _ e2 e3⟩⟩
structure GoodB (bfs : List (Str × Int)) : Prop where
  l2 : 2 ≤ bfs.length
  l10 : bfs.length ≤ 10
  sz : ∀ (k : Nat) b, bfs[k]? = some b → 1 ≤ b.2 ∧ b.2 ≤ 5
  b0 : ∃ z : Int, bfs[0]? = some (("in" : Str), z)
  b1 : ∃ z : Int, bfs[1]? = some (("main" : Str), z)
theorem BufsAt.ix {d bl : Addr} {bfs : List (Str × Int)} {H : Hp} {k : Nat} {b : Str × Int} (h : BufsAt H d bl bfs) (hk : bfs[k]? = some b) {Q : VK} (q : ∀ p : Addr, SqT K H p [.str b.1, .int b.2] → Q (.ref p) H) : rIx K (.ref bl) (.int k) H Q := by
  obtain ⟨bv, n, h, e⟩ := h
  have hl := e.len
  have hlt := (List.getElem?_eq_some_iff.mp hk).1
  have hv : bv[k]? = some bv[k] := List.getElem?_eq_getElem (by omega)
  obtain ⟨b', hb', p, ep, _, hp⟩ := e.at hv
  rw [hk] at hb'
  cases hb'
  rw [ep] at hv
  rcases h with h | h
  · exact .inl ⟨bl, bv, k, _, rfl, rfl, SqL.of h, atI_nat hv, q p (SqT.of hp)⟩
  · exact .inr (.inl ⟨bl, bv, k, _, rfl, rfl, SqT.of h, atI_nat hv, q p (SqT.of hp)⟩)
theorem BufsAt.seq {d bl : Addr} {bfs : List (Str × Int)} {H : Hp} (h : BufsAt H d bl bfs) : ∃ bv : List V, (SqL K H bl bv ∨ SqT K H bl bv) ∧ bv.length = bfs.length := by
  obtain ⟨bv, n, h, e⟩ := h
  exact ⟨bv, h.imp SqL.of SqT.of, e.len⟩
def spExpr : Nat → Sp := fun n vs H Q _ => ∃ (d c bl l : Addr) (bfs : List (Str × Int)), vs = [.ref d, .ref bl, .ref l, .int (4 - (n : Int))] ∧ 1 ≤ n ∧ DrAt H d c ∧ BufsAt H d bl bfs ∧ GoodB bfs ∧ EnvAt H d l 4 ∧
  ∀ H' v bs, Kp d H H' → DrAt H' d c → ExH H' n v bs → Q v H'
def kindL : List Str := ["add", "sub", "mul", "max", "min", "less", "equal", "neg", "clamp", "shift", "where", "add"]
abbrev nEx : List Str := ["d", "buffers", "env", "level", "menu", "k", "size", "count", "stride", "form", "kinds", "kind", "many", "kids", "j"]
theorem scEx : FnScope nEx ["d", "buffers", "env", "level"] (defScope sExpr) := ⟨rfl, rfl, rfl, by decide +kernel, rfl, by decide +kernel, by decide +kernel⟩
theorem ok_expr {f : Addr} {fd : FuncData} (F : Fun K "_law_expr" "_law_expr" sExpr f fd) (T : Txt42 mg) (cT : Calls P w K mg base CX0 1 "_law_take" ["d", "many"] spTake) (cS : Calls P w K mg base CX0 2 "_law_signed" ["d", "most"] spSigned)
    (cF : Calls P w K mg base CX0 2 "_law_form" ["d", "env", "size"] spForm) (cTe : Calls P w K mg base CX0 3 "_law_test" ["d", "env"] spTest) (cPi : Calls P w K mg base CX0 3 "_law_point_info" ["d", "kind"] spPI)
    (kEx : PySem.W.keepIn K (.ref f) = true) (bEx : Binds K fd ["d", "buffers", "env", "level"] []) (gEx : mg "_law_expr" = some (.ref f)) : ∀ n : Nat, n ≤ 3 → FnOk P w K mg base CX0 (n + 4) f fd ["d", "buffers", "env", "level"] (spExpr n) := by
  obtain ⟨fT, dT, GT, kT, bT, gT⟩ := cT.ex
  obtain ⟨fS, dS, GS, kS, bS, gS⟩ := cS.ex
  obtain ⟨fF, dF, GF, kF, bF, gF⟩ := cF.ex
  obtain ⟨fTe, dTe, GTe, kTe, bTe, gTe⟩ := cTe.ex
  obtain ⟨fPi, dPi, GPi, kPi, bPi, gPi⟩ := cPi.ex
  intro n
  induction n with
  | zero => exact fun _ => ⟨fun vs H Q E h => (by obtain ⟨_, _, _, _, _, _, h, _⟩ := h; exact absurd h (by decide)), fun A o s H args us vs Q E _ _ _ _ h => (by obtain ⟨_, _, _, _, _, _, h, _⟩ := h; exact absurd h (by decide))⟩
  | succ n ih =>
  intro hn
  have GEx := ih (by omega)
  refine F.ok scEx (fun vs H Q E h => ?_) (fun cdv A outer s H vs Q E hrn h => ?_)
  · obtain ⟨d, c, bl, l, bfs, rfl, _⟩ := h
    rfl
  · obtain ⟨d, c, bl, l, bfs, rfl, _, dr, hB, gB, hE, q⟩ := h
    have hr1 : Room 1 _ := hrn.mono (by omega)
    have hr2 : Room 2 _ := hrn.mono (by omega)
    have hr3 : Room 3 _ := hrn.mono (by omega)
    refine ⟨_, (Evl.pss_cut (ps_set (i := 4) scEx.nd rfl (.inl rfl) (pe_ifExp (pt_cmpR op_lt (pv 3) pe_int (nomark _)) (pe_call GT hr1 (by rfl) gT kT bT .nil pass0 (pa_cons (pv 0) (pa_cons pe_int pa_nil))) (pe_call GT hr1 (by rfl) gT kT bT .nil pass0 (pa_cons (pv 0) (pa_cons pe_int pa_nil)))))
      (pss_cons (ps_if (pt_cmpR op_eq (pv 4) pe_int (nomark _)) (pss_one (ps_ret (pe_tup (pa_cons pe_str (pa_cons (pe_call GS hr2 (by rfl) gS kS bS .nil pass0 (pa_cons (pv 0) (pa_cons pe_int pa_nil))) pa_nil))))) pss_nil)
      (pss_cons (ps_if (pt_cmpR op_eq (pv 4) pe_int (nomark _)) (pss_one (ps_ret (pe_tup (pa_cons pe_str (pa_cons (pe_call GTe hr3 (by rfl) gTe kTe bTe .nil pass0 (pa_cons (pv 0) (pa_cons (pv 2) pa_nil))) pa_nil))))) pss_nil)
      (pss_cons (ps_set (i := 5) scEx.nd rfl (.inl rfl) (pe_call GT hr1 (by rfl) gT kT bT .nil pass0 (pa_cons (pv 0) (pa_cons (pe_callB call_len_seq (by rfl) T.len PySem.boot_len (pa_cons (pv 1) pa_nil)) pa_nil))))
      (pss_cons (ps_set (i := 6) scEx.nd rfl (.inl rfl) (pe_ix ix_tup (pe_ix ix_seq (pv 1) (pv 5) (fun _ _ => rfl)) pe_int (fun _ _ => rfl)))
      (pss_cons (ps_if (pt_cmpR op_lt (pv 4) pe_int (nomark _)) (pss_one (ps_ret (pe_tup (pa_cons pe_str (pa_cons (pv 5) (pa_cons (pe_call GF hr2 (by rfl) gF kF bF .nil pass0 (pa_cons (pv 0) (pa_cons (pv 2) (pa_cons (pv 6) pa_nil)))) pa_nil)))))) pss_nil)
      (pss_cons (ps_if (pt_cmpR op_eq (pv 4) pe_int (nomark _)) (pss_one (ps_ret (pe_tup (pa_cons pe_str (pa_cons (pe_call GTe hr3 (by rfl) gTe kTe bTe .nil pass0 (pa_cons (pv 0) (pa_cons (pv 2) pa_nil))) (pa_cons (pe_call GEx hrn (by rfl) gEx kEx bEx .nil pass0 (pa_cons (pv 0) (pa_cons (pv 1) (pa_cons (pv 2) (pa_cons (pe_op op_add (pv 3) pe_int) pa_nil))))) (pa_cons (pe_call GEx hrn (by rfl) gEx kEx bEx .nil pass0 (pa_cons (pv 0) (pa_cons (pv 1) (pa_cons (pv 2) (pa_cons (pe_op op_add (pv 3) pe_int) pa_nil))))) pa_nil))))))) pss_nil)
      (pss_cons (ps_if (pt_cmpR op_eq (pv 4) pe_int (nomark _)) (pss_cons (ps_set (i := 7) scEx.nd rfl (.inl rfl) (pe_op op_add pe_int (pe_call GT hr1 (by rfl) gT kT bT .nil pass0 (pa_cons (pv 0) (pa_cons (pe_callB (call_min2 rfl) (by rfl) T.min (by decide +kernel) (pa_cons pe_int (pa_cons (pv 6) pa_nil))) pa_nil)))))
      (Evl.pss_cut (ps_set (i := 8) scEx.nd rfl (.inl rfl) (pe_ifExp (pt_cmpR op_lt (pe_op op_mul pe_int (pe_op op_sub (pv 7) pe_int)) (pv 6) (nomark _)) (pe_ix ix_tup (pe_tup (pa_cons pe_int (pa_cons pe_int (pa_cons pe_int pa_nil)))) (pe_call GT hr1 (by rfl) gT kT bT .nil pass0 (pa_cons (pv 0) (pa_cons pe_int pa_nil))) (fun _ _ => rfl)) pe_int))
      (pss_cons (ps_set (i := 9) scEx.nd rfl (.inl rfl) (pe_call GF hr2 (by rfl) gF kF bF .nil pass0 (pa_cons (pv 0) (pa_cons (pv 2) (pa_cons (pe_op op_sub (pv 6) (pe_op op_mul (pv 8) (pe_op op_sub (pv 7) pe_int))) pa_nil)))))
      (pss_one (ps_ret (pe_tup (pa_cons pe_str (pa_cons (pv 5) (pa_cons (pv 9) (pa_cons (pv 8) (pa_cons (pv 7) (pa_cons (pe_call GEx hrn (by rfl) gEx kEx bEx .nil pass0 (pa_cons (pv 0) (pa_cons (pv 1) (pa_cons (pv 2) (pa_cons (pe_op op_add (pv 3) pe_int) pa_nil))))) pa_nil)))))))))))) pss_nil)
      (pss_cons (ps_set (i := 10) scEx.nd rfl (.inl rfl) (pe_tup (pa_cons pe_str (pa_cons pe_str (pa_cons pe_str (pa_cons pe_str (pa_cons pe_str (pa_cons pe_str (pa_cons pe_str (pa_cons pe_str (pa_cons pe_str (pa_cons pe_str (pa_cons pe_str (pa_cons pe_str pa_nil))))))))))))))
      (pss_cons (ps_set (i := 11) scEx.nd rfl (.inl rfl) (pe_ix ix_tup (pv 10) (pe_call GT hr1 (by rfl) gT kT bT .nil pass0 (pa_cons (pv 0) (pa_cons pe_int pa_nil))) (fun _ _ => rfl)))
      (Evl.pss_cut (ps_set (i := 12) scEx.nd rfl (.inl rfl) (pe_ifExp (pt_inS (zs := ["neg", "clamp", "shift"]) (by decide) (pv 11) (pa_cons pe_str (pa_cons pe_str (pa_cons pe_str pa_nil)))) pe_int (pe_ifExp (pt_cmpR op_eq (pv 11) pe_str (nomark _)) pe_int pe_int)))
      (pss_cons (ps_set (i := 13) scEx.nd rfl (.inl rfl) (pe_callTy call_tuple_of (by rfl) T.tuple (by decide +kernel) (pa_cons (pe_lc (own := [("j", 14)]) (g := (gName 14)) (tt := tYes) (te := (tCall (spExpr n) [] E0 (tCons (tVar 0) (tCons (tVar 1) (tCons (tVar 2) (tCons (tOp (rI0 fun i j => .int (i + j)) (tVar 3) (tC (.int 1))) tNil)))))) rfl scEx.nd (pi_range1 rfl T.range (pa_cons (pv 12) pa_nil)) (blkOk_by (N := nEx) (sc := defScope sExpr) (by decide +kernel)) (fun _ _ _ _ _ => (pg_name (i := 14) scEx.nd rfl (.inl rfl) (hf := Or.inr rfl))) (fun _ _ _ _ _ => pts_nil) (fun _ _ _ _ _ => (pe_call GEx hrn (by rfl) gEx kEx bEx .nil pass0 (pa_cons (pv 0) (pa_cons (pv 1) (pa_cons (pv 2) (pa_cons (pe_op op_add (pv 3) pe_int) pa_nil))))))) pa_nil)))
      (pss_one (ps_ret (pe_tup (pa_cons pe_str (pa_cons (pv 11) (pa_cons (pv 13) (pa_cons (pe_call GPi hr3 (by rfl) gPi kPi bPi .nil pass0 (pa_cons (pv 0) (pa_cons (pv 11) pa_nil))) pa_nil))))))))))))))))))), ?_⟩
    have t0 : 0 ≤ sizeLine := by decide
    have t1 : 1 ≤ sizeLine := by decide
    have t2 : 2 ≤ sizeLine := by decide
    have t3 : 3 ≤ sizeLine := by decide
    have t4 : 4 ≤ sizeLine := by decide
    have t6 : 6 ≤ sizeLine := by decide
    have t12 : 12 ≤ sizeLine := by decide
    have lv : (4 - ((n + 1 : Nat) : Int)) + 1 = 4 - (n : Int) := by omega
    refine ⟨fun σ' H' => ∃ u : Int, σ' = [some (.ref d), some (.ref bl), some (.ref l), some (.int (4 - ((n + 1 : Nat) : Int))), some (.int u), none, none, none, none, none, none, none, none, none, none] ∧ Kp d H H' ∧ DrAt H' d c ∧ 0 ≤ u ∧ u < 9 ∧ (4 ≤ u → 1 ≤ n), ?_, ?_⟩
    · refine ⟨_, rfl, _, _, rfl, rfl, _, rfl, ite2 (fun e => ?_) (fun e => ?_)⟩
      · have e : 4 - ((n + 1 : Nat) : Int) < 3 := of_decide_eq_true e
        refine ⟨_, rfl, d, c, 9, rfl, dr, by decide, bnd_le (by decide), fun H1 u k1 dr1 u0 u1 => ⟨u, rfl, k1.kp, dr1, u0, u1, fun _ => by omega⟩⟩
      · refine ⟨_, rfl, d, c, 4, rfl, dr, by decide, bnd_le (by decide), fun H1 u k1 dr1 u0 u1 => ⟨u, rfl, k1.kp, dr1, u0, by omega, fun _ => by omega⟩⟩
    rintro σ' H1 ⟨u, rfl, k1, dr1, u0, u9, un⟩
    replace hB := hB.kp k1
    replace hE := hE.kp k1
    replace q : ∀ H' v bs, Kp d H1 H' → DrAt H' d c → ExH H' (n + 1) v bs → Q v H' := fun H' v bs k => q H' v bs (k1.trans k)
    clear dr k1
    refine ⟨_, rfl, rfl, _, rfl, ite2 (fun e0 => ?_) (fun e0 => ⟨_, rfl, rfl, _, rfl, ite2 (fun e1 => ?_) (fun e1 => ?_)⟩)⟩
    · refine ⟨_, rfl, d, c, 9, rfl, dr1, by decide, bnd_le (by decide), fun H2 x k2 dr2 x0 x1 => ⟨t2, fun p np => ?_⟩⟩
      exact q _ _ [] (k2.kp.trans (same_kp (same_upd np))) (dr2.same (same_upd np)) ⟨p, _, _, [], [], [], rfl, upd_same, .number _, True.intro, rfl⟩
    · refine ⟨_, rfl, _, rfl, d, c, l, rfl, dr1, hE, fun H2 v k2 dr2 => ⟨t2, fun p np => ?_⟩⟩
      exact q _ _ [] (k2.trans (same_kp (same_upd np))) (dr2.same (same_upd np)) ⟨p, _, _, [], [], [], rfl, upd_same, .index _, True.intro, rfl⟩
    have g2 := gB.l2
    have g10 := gB.l10
    obtain ⟨bv, hbv, hbl⟩ := hB.seq (K := K)
    refine ⟨_, rfl, _, rfl, bl, bv, rfl, hbv, d, c, _, rfl, dr1, by omega, bnd_le (by omega), fun H2 kv k2 dr2 v0 v1 => ?_⟩
    obtain ⟨k, rfl⟩ : ∃ k : Nat, kv = (k : Int) := ⟨kv.toNat, by omega⟩
    obtain ⟨b, hb⟩ : ∃ b, bfs[k]? = some b := ⟨_, List.getElem?_eq_getElem (by omega)⟩
    obtain ⟨z1, z5⟩ := gB.sz k b hb
    replace hB := hB.kp k2.kp
    replace hE := hE.kp k2.kp
    replace q : ∀ H' v bs, Kp d H2 H' → DrAt H' d c → ExH H' (n + 1) v bs → Q v H' := fun H' v bs k => q H' v bs (k2.kp.trans k)
    clear dr1 k2
    refine ⟨_, rfl, _, rfl, hB.ix hb fun p hp => ⟨p, _, _, _, rfl, rfl, hp, rfl, ?_⟩⟩
    refine ⟨_, rfl, _, _, rfl, rfl, _, rfl, ite2 (fun e2 => ?_) (fun e2 => ?_)⟩
    · refine ⟨_, rfl, _, rfl, _, rfl, _, rfl, d, c, l, _, rfl, dr2, hE, z1, by omega, fun H3 v k3 dr3 => ⟨t3, fun p np => ?_⟩⟩
      exact q _ _ [k] (k3.trans (same_kp (same_upd np))) (dr3.same (same_upd np)) ⟨p, _, _, [k], [], [], rfl, upd_same, .load k _, True.intro, rfl⟩
    have u5 : 5 ≤ u := by
      have : ¬ u < 5 := fun z => e2 (decide_eq_true z)
      omega
    have n1 := un (by omega)
    refine ⟨_, rfl, rfl, _, rfl, ite2 (fun e3 => ?_) (fun e3 => ⟨_, rfl, rfl, _, rfl, ite2 (fun e4 => ?_) (fun e4 => ?_)⟩)⟩
    · -- guard
      refine ⟨_, rfl, _, rfl, d, c, l, rfl, dr2, hE, fun H3 v k3 dr3 => ⟨_, rfl, _, rfl, _, rfl, _, rfl, _, _, rfl, rfl, d, c, bl, l, bfs, (show [V.ref d, V.ref bl, V.ref l, V.int (4 - ((n + 1 : Nat) : Int) + 1)] = _ from by rw [lv]), n1, dr3, hB.kp k3, gB, hE.kp k3, fun H4 w1 bs1 k4 dr4 x1 => ⟨_, rfl, _, rfl, _, rfl, _, rfl, _, _, rfl, rfl, d, c, bl, l, bfs, (show [V.ref d, V.ref bl, V.ref l, V.int (4 - ((n + 1 : Nat) : Int) + 1)] = _ from by rw [lv]), n1, dr4, (hB.kp k3).kp k4, gB, (hE.kp k3).kp k4, fun H5 w2 bs2 k5 dr5 x2 => ⟨t4, fun p np => ?_⟩⟩⟩⟩
      have kk := same_kp (d := d) (same_upd (o := .tup [.str "guard", v, w1, w2]) np)
      exact q _ _ (bs1 ++ bs2) ((k3.trans (k4.trans k5)).trans kk) (dr5.same (same_upd np)) ⟨p, _, _, [], [w1, w2], [bs1, bs2], rfl, upd_same, .guard _ _ _, ⟨x1.tk ((k5.trans kk).tk dr4), x2.tk (kk.tk dr5), True.intro⟩, by simp⟩
    · -- pick
      have hmn : 1 ≤ (if b.2 < 4 then b.2 else 4) ∧ (if b.2 < 4 then b.2 else 4) ≤ b.2 ∧ (if b.2 < 4 then b.2 else 4) ≤ 4 := by split <;> omega
      refine ⟨_, rfl, _, rfl, _, _, rfl, ?_⟩
      generalize (if b.2 < 4 then b.2 else 4) = mn at hmn
      refine ⟨d, c, mn, rfl, dr2, by omega, bnd_le (by omega), fun H3 cv k3 dr3 c0 c1 => ⟨_, _, rfl, rfl, ?_⟩⟩
      refine ⟨fun σ' H' => ∃ st : Int, σ' = [some (.ref d), some (.ref bl), some (.ref l), some (.int (4 - ((n + 1 : Nat) : Int))), some (.int u), some (.int k), some (.int b.2), some (.int (1 + cv)), some (.int st), none, none, none, none, none, none] ∧ Kp d H3 H' ∧ DrAt H' d c ∧ (st = 0 ∨ st = 1 ∨ (st = 2 ∧ 2 * cv < b.2)), ?_, ?_⟩
      · refine ⟨_, rfl, _, _, rfl, rfl, _, _, rfl, rfl, .inl ⟨by omega, by omega⟩, _, rfl, _, _, rfl, rfl, _, rfl, ite2 (fun e => ?_) (fun e => ⟨1, rfl, Kp.refl d H3, dr3, .inr (.inl rfl)⟩)⟩
        have e : 2 * (1 + cv - 1) < b.2 := of_decide_eq_true e
        refine ⟨t3, fun tp ntp => ⟨_, rfl, d, c, 3, rfl, dr3.same (same_upd ntp), by decide, bnd_le (by decide), fun H4 x k4 dr4 x0 x1 => ?_⟩⟩
        obtain ⟨xn, rfl⟩ : ∃ xn : Nat, x = (xn : Int) := ⟨x.toNat, by omega⟩
        have htp := k4.tup (dr3.same (same_upd ntp)) (upd_same (H := H3) (a := tp) (o := .tup [.int 1, .int 0, .int 2]))
        obtain ⟨st, hst, hs⟩ : ∃ st : Int, atI [V.int 1, .int 0, .int 2] (xn : Int) = some (.int st) ∧ (st = 0 ∨ st = 1 ∨ (st = 2 ∧ 2 * cv < b.2)) := by
          match xn, x1 with
          | 0, _ => exact ⟨1, rfl, by omega⟩
          | 1, _ => exact ⟨0, rfl, by omega⟩
          | 2, _ => exact ⟨2, rfl, by omega⟩
          | n + 3, h => exact absurd h (by omega)
        exact ⟨tp, _, _, _, rfl, rfl, SqT.of htp, hst, st, rfl, (same_kp (same_upd ntp)).trans k4.kp, dr4, hs⟩
      rintro σ' H4 ⟨st, rfl, k4, dr4, hs⟩
      have k24 := k3.kp.trans k4
      have hbd : 1 ≤ b.2 - st * (1 + cv - 1) ∧ b.2 - st * (1 + cv - 1) ≤ 1000 := by
        rcases hs with rfl | rfl | ⟨rfl, h⟩ <;> omega
      refine ⟨_, rfl, _, rfl, _, rfl, _, rfl, _, rfl, _, _, rfl, rfl, _, _, rfl, rfl, .inl ⟨by omega, by omega⟩, _, _, rfl, rfl, d, c, l, _, rfl, dr4, hE.kp k24, hbd.1, hbd.2, fun H5 v k5 dr5 => ?_⟩
      have k25 := k24.trans k5
      refine ⟨_, rfl, _, rfl, _, rfl, _, rfl, _, rfl, _, rfl, _, rfl, _, rfl, _, _, rfl, rfl, d, c, bl, l, bfs, (show [V.ref d, V.ref bl, V.ref l, V.int (4 - ((n + 1 : Nat) : Int) + 1)] = _ from by rw [lv]), n1, dr5, hB.kp k25, gB, hE.kp k25, fun H6 w1 bs1 k6 dr6 x1 => ⟨t6, fun p np => ?_⟩⟩
      have kp := same_kp (d := d) (same_upd (o := .tup [.str "pick", .int k, v, .int st, .int (1 + cv), w1]) np)
      exact q _ _ (k :: bs1) ((k25.trans k6).trans kp) (dr6.same (same_upd np)) ⟨p, _, _, [k], [w1], [bs1], rfl, upd_same, .pick k _ _ _ w1, ⟨x1.tk (kp.tk dr6), True.intro⟩, by simp⟩
    · refine ⟨t12, fun tp ntp => ⟨_, rfl, _, rfl, d, c, 12, rfl, dr2.same (same_upd ntp), by decide, bnd_le (by decide), fun H3 x k3 dr3 x0 x1 => ?_⟩⟩
      obtain ⟨xn, rfl⟩ : ∃ xn : Nat, x = (xn : Int) := ⟨x.toNat, by omega⟩
      have htp := k3.tup (dr2.same (same_upd ntp)) (upd_same (H := H2) (a := tp) (o := .tup (kindL.map V.str)))
      obtain ⟨kd, hkd⟩ : ∃ kd, kindL[xn]? = some kd := ⟨_, List.getElem?_eq_getElem (show xn < 12 by omega)⟩
      refine ⟨tp, _, _, _, rfl, rfl, SqT.of htp, atI_nat (j := xn) (by rw [List.getElem?_map, hkd]; rfl), ?_⟩
      have k03 : Kp d H2 H3 := (same_kp (same_upd ntp)).trans k3.kp
      replace hB := hB.kp k03
      replace hE := hE.kp k03
      replace q : ∀ H' v bs, Kp d H3 H' → DrAt H' d c → ExH H' (n + 1) v bs → Q v H' := fun H' v bs k => q H' v bs (k03.trans k)
      clear k03 htp k3 dr2
      refine ⟨fun σ' H' => ∃ m : Int, σ' = [some (.ref d), some (.ref bl), some (.ref l), some (.int (4 - ((n + 1 : Nat) : Int))), some (.int u), some (.int k), some (.int b.2), none, none, none, some (.ref tp), some (.str kd), some (.int m), none, none] ∧ Same H3 H' ∧ 1 ≤ m ∧ m ≤ 3, ?_, ?_⟩
      · refine ⟨_, rfl, fun H4 s4 => ⟨_, rfl, ite2 (fun e => ⟨1, rfl, s4, by decide, by decide⟩) (fun e => ⟨_, rfl, rfl, _, rfl, ite2 (fun e => ⟨3, rfl, s4, by decide, by decide⟩) (fun e => ⟨2, rfl, s4, by decide, by decide⟩)⟩)⟩⟩
      rintro σ' H4 ⟨m, rfl, s4, m1, m3⟩
      replace dr3 := dr3.same s4
      have k04 : Kp d H3 H4 := same_kp s4
      replace hB := hB.kp k04
      replace hE := hE.kp k04
      replace q : ∀ H' v bs, Kp d H4 H' → DrAt H' d c → ExH H' (n + 1) v bs → Q v H' := fun H' v bs k => q H' v bs (k04.trans k)
      clear k04 s4
      have mz : (sizeLine : Int) = sizeLine := rfl
      refine ⟨_, rfl, m, rfl, by omega, by omega, fun L nL => lc_range (lo := 0) (n := m.toNat) (fun i H' => ∃ (ts : List V) (bss : List (List Nat)), Kp d H4 H' ∧ DrAt H' d c ∧ H' L = some (.lst ts) ∧ ts.length = i ∧ Each (ExH H' n) ts bss)
        ⟨[], [], same_kp (same_upd nL), dr3.same (same_upd nL), upd_same, rfl, True.intro⟩ ?_ ?_⟩
      · rintro i H5 hi ⟨ts, bss, k5, dr5, hL, htl, he⟩
        obtain ⟨nLd, nLc⟩ := new_neD dr3 nL
        refine ⟨rfl, ?_⟩
        unfold tYes
        dsimp only
        rw [if_pos rfl]
        refine ⟨_, rfl, _, rfl, _, rfl, _, rfl, _, _, rfl, rfl, d, c, bl, l, bfs, (show [V.ref d, V.ref bl, V.ref l, V.int (4 - ((n + 1 : Nat) : Int) + 1)] = _ from by rw [lv]), n1, dr5, hB.kp k5, gB, hE.kp k5, fun H6 w1 bs1 k6 dr6 x1 => ⟨_, k6 _ _ nLd hL, by rw [htl]; exact small1000 (by omega), ts ++ [w1], bss ++ [bs1], (k5.trans k6).upd nL, dr6.upd _ nLd nLc, upd_same, by rw [List.length_append, htl]; rfl, ?_⟩⟩
        have kk : TK H6 (upd H6 L (.lst (ts ++ [w1]))) := tk_lst (k6 _ _ nLd hL)
        exact (he.mono fun _ _ h => h.tk ((k6.tk dr5).trans kk)).append (Each.one (x1.tk kk))
      · rintro H5 ⟨ts, bss, k5, dr5, hL, htl, he⟩
        refine ⟨L, _, rfl, .inl ⟨SqL.of hL, fun t nt => ?_⟩⟩
        have kt := same_kp (d := d) (same_upd (o := .tup ts) nt)
        refine ⟨_, rfl, _, rfl, _, rfl, _, rfl, d, c, kd, rfl, dr5.same (same_upd nt), fun H6 v k6 dr6 => ⟨t4, fun p np => ?_⟩⟩
        have ht6 := k6 _ _ (new_neD dr5 nt).1 (upd_same (H := H5) (a := t) (o := .tup ts))
        have kp := same_kp (d := d) (same_upd (o := .tup [.str "apply", .str kd, .ref t, v]) np)
        exact q _ _ bss.flatten (((k5.trans kt).trans k6).trans kp) (dr6.same (same_upd np)) ⟨p, _, _, [], ts, bss, rfl, upd_same, .apply _ t _ ts (same_upd np _ _ ht6) (by omega), he.mono fun _ _ h => h.tk (((same_tk (same_upd nt)).trans (k6.tk (dr5.same (same_upd nt)))).trans (same_tk (same_upd np))), by simp⟩
end
section
variable {P : Program} {w : World} {K : PySem.W.Frag} {mg : Str → Option Value} {base : Heap}
def selB (p : Str → Bool) (bfs : List (Str × Int)) (i : Nat) : List Nat := (List.range i).filter fun k => p (bfs.getD k ("", 0)).1
theorem selB_succ (p : Str → Bool) {bfs : List (Str × Int)} {i : Nat} {b : Str × Int} (h : bfs[i]? = some b) : selB p bfs (i + 1) = selB p bfs i ++ if p b.1 = true then [i] else [] := by
  have e : bfs.getD i ("", 0) = b := by rw [List.getD_eq_getElem?_getD, h]; rfl
  unfold selB
  rw [List.range_succ, List.filter_append]
  congr 1
  by_cases hp : p b.1 = true
  · rw [if_pos hp, List.filter_cons_of_pos (by rw [e]; exact hp)]
    rfl
  · rw [if_neg hp, List.filter_cons_of_neg (by rw [e]; exact hp)]
    rfl
theorem selB_mem {p : Str → Bool} {bfs : List (Str × Int)} {i k : Nat} : k ∈ selB p bfs i ↔ k < i ∧ p (bfs.getD k ("", 0)).1 = true := by
  unfold selB
  rw [List.mem_filter, List.mem_range]
theorem selB_len {p : Str → Bool} {bfs : List (Str × Int)} {i : Nat} : (selB p bfs i).length ≤ i := by
  unfold selB
  exact Nat.le_trans (List.length_filter_le _ _) (by rw [List.length_range]; exact Nat.le_refl _)
theorem natV_at {ls : List Nat} {i k : Nat} (h : ls[i]? = some k) : atI (ls.map natV) (i : Int) = some (.int k) := atI_nat (by rw [List.getElem?_map, h]; rfl)
theorem decS {z y : Str} : decide (V.str z = V.str y) = decide (z = y) := decide_eq_decide.mpr ⟨fun e => V.str.inj e, fun e => congrArg V.str e⟩
def spCopy : Sp := fun vs H Q _ => ∃ (d c bl l : Addr) (bfs : List (Str × Int)), vs = [.ref d, .ref bl, .ref l] ∧ DrAt H d c ∧ BufsAt H d bl bfs ∧ GoodB bfs ∧ EnvAt H d l 4 ∧
  ∀ H' v, Kp d H H' → DrAt H' d c → (v = .non ∨ ∃ (a : Addr) (bs : List Nat), v = .ref a ∧ ∀ n, StH H' (n + 1) v bs) → Q v H'
abbrev nCo : List Str := ["d", "buffers", "env", "near", "other", "one", "two", "count", "first", "second", "k"]
theorem scCo : FnScope nCo ["d", "buffers", "env"] (defScope sCopy) := ⟨rfl, rfl, rfl, by decide +kernel, rfl, by decide +kernel, by decide +kernel⟩
theorem ok_copy {f : Addr} {fd : FuncData} (F : Fun K "_law_copy" "_law_copy" sCopy f fd) (T : Txt42 mg) (cT : Calls P w K mg base CX0 1 "_law_take" ["d", "many"] spTake) (cF : Calls P w K mg base CX0 2 "_law_form" ["d", "env", "size"] spForm) : FnOk P w K mg base CX0 3 f fd ["d", "buffers", "env"] spCopy := by
  obtain ⟨fT, dT, GT, kT, bT, gT⟩ := cT.ex
  obtain ⟨fF, dF, GF, kF, bF, gF⟩ := cF.ex
  refine F.ok scCo (fun vs H Q E h => ?_) (fun cdv A outer s H vs Q E hr2 h => ?_)
  · obtain ⟨d, c, bl, l, bfs, rfl, _⟩ := h
    rfl
  · obtain ⟨d, c, bl, l, bfs, rfl, dr, hB, gB, hE, q⟩ := h
    have hr1 : Room 1 _ := hr2.mono (by omega)
    refine ⟨_, (pss_cons (ps_setLc (i := 3) (own := [("k", 10)]) (g := (gName 10)) (tt := (tTest (tOp rEq (tOp (rIxT K) (tOp (rIx K) (tVar 1) (tVar 10)) (tC (.int 0))) (tC (.str "near"))))) (te := (tVar 10)) (by rfl) scCo.nd rfl rfl (sw_true rfl rfl rfl (by decide +kernel)) (pi_range1 rfl T.range (pa_cons (pe_callB call_len_seq (by rfl) T.len PySem.boot_len (pa_cons (pv 1) pa_nil)) pa_nil)) (blkOk_by (N := nCo) (sc := defScope sCopy) (by decide +kernel)) (fun _ _ _ _ _ => (pg_name (i := 10) scCo.nd rfl (.inl rfl) (hf := Or.inr rfl))) (fun _ _ _ _ _ => pts_one (pt_cmpR op_eq (pe_ix ix_tup (pe_ix ix_seq (pv 1) (pv 10) (fun _ _ => rfl)) pe_int (fun _ _ => rfl)) pe_str (nomark _))) (fun _ _ _ _ _ => (pv 10)))
      (pss_cons (ps_setLc (i := 4) (own := [("k", 10)]) (g := (gName 10)) (tt := (tTest (tOp rNe (tOp (rIxT K) (tOp (rIx K) (tVar 1) (tVar 10)) (tC (.int 0))) (tC (.str "near"))))) (te := (tVar 10)) (by rfl) scCo.nd rfl rfl (sw_true rfl rfl rfl (by decide +kernel)) (pi_range1 rfl T.range (pa_cons (pe_callB call_len_seq (by rfl) T.len PySem.boot_len (pa_cons (pv 1) pa_nil)) pa_nil)) (blkOk_by (N := nCo) (sc := defScope sCopy) (by decide +kernel)) (fun _ _ _ _ _ => (pg_name (i := 10) scCo.nd rfl (.inl rfl) (hf := Or.inr rfl))) (fun _ _ _ _ _ => pts_one (pt_cmpR op_ne (pe_ix ix_tup (pe_ix ix_seq (pv 1) (pv 10) (fun _ _ => rfl)) pe_int (fun _ _ => rfl)) pe_str (nomark _))) (fun _ _ _ _ _ => (pv 10)))
      (pss_cons (ps_if (pt_cmpR op_eq (pe_callB call_len_seq (by rfl) T.len PySem.boot_len (pa_cons (pv 3) pa_nil)) pe_int (nomark _)) (pss_one (ps_ret pe_non)) pss_nil)
      (pss_cons (ps_set (i := 5) scCo.nd rfl (.inl rfl) (pe_ix ix_list (pv 3) (pe_call GT hr1 (by rfl) gT kT bT .nil pass0 (pa_cons (pv 0) (pa_cons (pe_callB call_len_seq (by rfl) T.len PySem.boot_len (pa_cons (pv 3) pa_nil)) pa_nil))) (fun _ _ => rfl)))
      (pss_cons (ps_set (i := 6) scCo.nd rfl (.inl rfl) (pe_ix ix_list (pv 4) (pe_call GT hr1 (by rfl) gT kT bT .nil pass0 (pa_cons (pv 0) (pa_cons (pe_callB call_len_seq (by rfl) T.len PySem.boot_len (pa_cons (pv 4) pa_nil)) pa_nil))) (fun _ _ => rfl)))
      (pss_cons (ps_set (i := 7) scCo.nd rfl (.inl rfl) (pe_op op_add pe_int (pe_call GT hr1 (by rfl) gT kT bT .nil pass0 (pa_cons (pv 0) (pa_cons (pe_callB (call_min2 rfl) (by rfl) T.min (by decide +kernel) (pa_cons (pe_ix ix_tup (pe_ix ix_seq (pv 1) (pv 5) (fun _ _ => rfl)) pe_int (fun _ _ => rfl)) (pa_cons (pe_ix ix_tup (pe_ix ix_seq (pv 1) (pv 6) (fun _ _ => rfl)) pe_int (fun _ _ => rfl)) pa_nil))) pa_nil)))))
      (pss_cons (ps_set (i := 8) scCo.nd rfl (.inl rfl) (pe_call GF hr2 (by rfl) gF kF bF .nil pass0 (pa_cons (pv 0) (pa_cons (pv 2) (pa_cons (pe_op op_add (pe_op op_sub (pe_ix ix_tup (pe_ix ix_seq (pv 1) (pv 5) (fun _ _ => rfl)) pe_int (fun _ _ => rfl)) (pv 7)) pe_int) pa_nil)))))
      (pss_cons (ps_set (i := 9) scCo.nd rfl (.inl rfl) (pe_call GF hr2 (by rfl) gF kF bF .nil pass0 (pa_cons (pv 0) (pa_cons (pv 2) (pa_cons (pe_op op_add (pe_op op_sub (pe_ix ix_tup (pe_ix ix_seq (pv 1) (pv 6) (fun _ _ => rfl)) pe_int (fun _ _ => rfl)) (pv 7)) pe_int) pa_nil)))))
      (pss_cons (ps_if (PW.pt (pw_and (pt_cmpR op_eq (pe_ix ix_tup (pe_ix ix_seq (pv 1) (pv 6) (fun _ _ => rfl)) pe_int (fun _ _ => rfl)) pe_str (nomark _)) (pw_and1 (pt_cmpR op_eq (pe_call GT hr1 (by rfl) gT kT bT .nil pass0 (pa_cons (pv 0) (pa_cons pe_int pa_nil))) pe_int (nomark _))))) (pss_one (ps_ret (pe_tup (pa_cons pe_str (pa_cons (pv 6) (pa_cons (pv 9) (pa_cons (pv 5) (pa_cons (pv 8) (pa_cons (pv 7) pa_nil))))))))) pss_nil)
      (pss_one (ps_ret (pe_tup (pa_cons pe_str (pa_cons (pv 5) (pa_cons (pv 8) (pa_cons (pv 6) (pa_cons (pv 9) (pa_cons (pv 7) pa_nil)))))))))))))))))), ?_⟩
    have t6 : 6 ≤ sizeLine := by decide
    have g2 := gB.l2
    have g10 := gB.l10
    have big : 1000 < sizeLine := by decide
    obtain ⟨bv, hbv, hbl⟩ := hB.seq (K := K)
    refine ⟨_, rfl, bl, bv, rfl, hbv, bv.length, rfl, by omega, by omega, fun L nL => lc_range (lo := 0) (n := ((bv.length : Nat) : Int).toNat) (fun i H' => Same H H' ∧ H' L = some (.lst ((selB (fun z => decide (z = "near")) bfs i).map natV))) ⟨same_upd nL, upd_same⟩ ?_ ?_⟩
    · rintro i H1 hi ⟨sm, hL⟩
      obtain ⟨b, hb⟩ : ∃ b, bfs[i]? = some b := ⟨_, List.getElem?_eq_getElem (by omega)⟩
      have hs := selB_succ (fun z => decide (z = "near")) hb
      have hsl := selB_len (p := fun z => decide (z = "near")) (bfs := bfs) (i := i)
      rw [Int.zero_add]
      refine ⟨rfl, _, rfl, _, rfl, (hB.kp (same_kp sm)).ix hb fun p hp => ⟨p, _, _, _, rfl, rfl, hp, rfl, rfl, _, rfl, ite2 (fun e => ?_) (fun e => ?_)⟩⟩
      · rw [show decide (V.str b.1 = V.str "near") = decide (b.1 = "near") from decS] at e
        refine ⟨_, rfl, _, hL, by rw [List.length_map]; omega, same_updN sm nL, ?_⟩
        rw [upd_same, hs, if_pos e, List.map_append]
        rfl
      · rw [show decide (V.str b.1 = V.str "near") = decide (b.1 = "near") from decS] at e
        refine ⟨sm, ?_⟩
        rw [hs, if_neg e, List.append_nil]
        exact hL
    rintro H1 ⟨s1, hL⟩
    rw [Int.toNat_natCast] at hL
    have dr1 := dr.same s1
    have hB1 := hB.kp (same_kp s1)
    obtain ⟨bv1, hbv1, hbl1⟩ := hB1.seq (K := K)
    refine ⟨_, rfl, bl, bv1, rfl, hbv1, bv1.length, rfl, by omega, by omega, fun M nM => lc_range (lo := 0) (n := ((bv1.length : Nat) : Int).toNat) (fun i H' => Same H1 H' ∧ H' M = some (.lst ((selB (fun z => !decide (z = "near")) bfs i).map natV))) ⟨same_upd nM, upd_same⟩ ?_ ?_⟩
    · rintro i H2 hi ⟨sm, hM⟩
      obtain ⟨b, hb⟩ : ∃ b, bfs[i]? = some b := ⟨_, List.getElem?_eq_getElem (by omega)⟩
      have hs := selB_succ (fun z => !decide (z = "near")) hb
      have hsl := selB_len (p := fun z => !decide (z = "near")) (bfs := bfs) (i := i)
      rw [Int.zero_add]
      refine ⟨rfl, _, rfl, _, rfl, (hB1.kp (same_kp sm)).ix hb fun p hp => ⟨p, _, _, _, rfl, rfl, hp, rfl, rfl, _, rfl, ite2 (fun e => ?_) (fun e => ?_)⟩⟩
      · rw [show decide (V.str b.1 = V.str "near") = decide (b.1 = "near") from decS] at e
        refine ⟨_, rfl, _, hM, by rw [List.length_map]; omega, same_updN sm nM, ?_⟩
        rw [upd_same, hs, if_pos e, List.map_append]
        rfl
      · rw [show decide (V.str b.1 = V.str "near") = decide (b.1 = "near") from decS] at e
        refine ⟨sm, ?_⟩
        rw [hs, if_neg e, List.append_nil]
        exact hM
    rintro H2 ⟨s2, hM⟩
    rw [Int.toNat_natCast] at hM
    replace hL := s2 _ _ hL
    have dr2 := dr1.same s2
    obtain ⟨nLd, nLc⟩ := new_neD dr nL
    obtain ⟨nMd, nMc⟩ := new_neD dr1 nM
    have k02 : Kp d H H2 := (same_kp s1).trans (same_kp s2)
    have hl1 := selB_len (p := fun z => decide (z = "near")) (bfs := bfs) (i := bv.length)
    have hl2 := selB_len (p := fun z => !decide (z = "near")) (bfs := bfs) (i := bv1.length)
    have hm1 : ∀ k ∈ selB (fun z => decide (z = "near")) bfs bv.length, k < bfs.length := fun k h => by
      have := (selB_mem.mp h).1
      omega
    have hm2 : ∀ k ∈ selB (fun z => !decide (z = "near")) bfs bv1.length, k < bfs.length := fun k h => by
      have := (selB_mem.mp h).1
      omega
    have hpos : 0 < (selB (fun z => !decide (z = "near")) bfs bv1.length).length := by
      obtain ⟨z, hz⟩ := gB.b0
      refine List.length_pos_of_mem (a := 0) (selB_mem.mpr ⟨by omega, ?_⟩)
      rw [List.getD_eq_getElem?_getD, hz]
      show (!decide (("in" : Str) = "near")) = true
      decide +kernel
    generalize selB (fun z => decide (z = "near")) bfs bv.length = ls at *
    generalize selB (fun z => !decide (z = "near")) bfs bv1.length = ms at *
    refine ⟨_, rfl, L, _, rfl, .inl (SqL.of hL), rfl, _, rfl, ite2 (fun e => ?_) (fun e => ?_)⟩
    · exact q _ _ k02 dr2 (.inl rfl)
    have hlp : 0 < ls.length := by
      rcases Nat.eq_zero_or_pos ls.length with z | z
      · exfalso
        apply e
        rw [List.length_map, z]
        decide
      · exact z
    refine ⟨_, rfl, _, rfl, _, rfl, L, _, rfl, .inl (SqL.of hL), d, c, _, rfl, dr2, by rw [List.length_map]; omega, bnd_le (by rw [List.length_map]; omega), fun H3 x k3 dr3 x0 x1 => ?_⟩
    rw [List.length_map] at x1
    obtain ⟨xn, rfl⟩ : ∃ xn : Nat, x = (xn : Int) := ⟨x.toNat, by omega⟩
    obtain ⟨one, hone⟩ : ∃ k, ls[xn]? = some k := ⟨_, List.getElem?_eq_getElem (by omega)⟩
    refine ⟨L, _, _, _, rfl, rfl, SqL.of (k3.kp _ _ nLd hL), natV_at hone, ?_⟩
    have hM3 := k3.kp _ _ nMd hM
    refine ⟨_, rfl, _, rfl, _, rfl, M, _, rfl, .inl (SqL.of hM3), d, c, _, rfl, dr3, by rw [List.length_map]; omega, bnd_le (by rw [List.length_map]; omega), fun H4 y k4 dr4 y0 y1 => ?_⟩
    rw [List.length_map] at y1
    obtain ⟨yn, rfl⟩ : ∃ yn : Nat, y = (yn : Int) := ⟨y.toNat, by omega⟩
    obtain ⟨two, htwo⟩ : ∃ k, ms[yn]? = some k := ⟨_, List.getElem?_eq_getElem (by omega)⟩
    refine ⟨M, _, _, _, rfl, rfl, SqL.of (k4.kp _ _ nMd hM3), natV_at htwo, ?_⟩
    have k04 : Kp d H H4 := (k02.trans k3.kp).trans k4.kp
    obtain ⟨b1, hb1⟩ : ∃ b, bfs[one]? = some b := ⟨_, List.getElem?_eq_getElem (hm1 _ (List.mem_of_getElem? hone))⟩
    obtain ⟨b2, hb2⟩ : ∃ b, bfs[two]? = some b := ⟨_, List.getElem?_eq_getElem (hm2 _ (List.mem_of_getElem? htwo))⟩
    obtain ⟨z1, z2⟩ := gB.sz _ _ hb1
    obtain ⟨z3, z4⟩ := gB.sz _ _ hb2
    have hmn : 1 ≤ (if b2.2 < b1.2 then b2.2 else b1.2) ∧ (if b2.2 < b1.2 then b2.2 else b1.2) ≤ b1.2 ∧ (if b2.2 < b1.2 then b2.2 else b1.2) ≤ b2.2 := by split <;> omega
    refine ⟨_, rfl, _, rfl, _, rfl, (hB.kp k04).ix hb1 fun p hp => ⟨p, _, _, _, rfl, rfl, hp, rfl, _, rfl, _, rfl, (hB.kp k04).ix hb2 fun p hp => ⟨p, _, _, _, rfl, rfl, hp, rfl, _, _, rfl, ?_⟩⟩⟩
    generalize (if b2.2 < b1.2 then b2.2 else b1.2) = mn at hmn
    refine ⟨d, c, mn, rfl, dr4, by omega, bnd_le (by omega), fun H5 cv k5 dr5 c0 c1 => ⟨_, _, rfl, rfl, ?_⟩⟩
    have k05 := k04.trans k5.kp
    refine ⟨_, rfl, _, rfl, _, rfl, _, rfl, (hB.kp k05).ix hb1 fun p hp => ⟨p, _, _, _, rfl, rfl, hp, rfl, _, rfl, _, _, rfl, rfl, _, _, rfl, rfl, d, c, l, _, rfl, dr5, hE.kp k05, by omega, by omega, fun H6 v1 k6 dr6 => ?_⟩⟩
    have k06 := k05.trans k6
    refine ⟨_, rfl, _, rfl, _, rfl, _, rfl, (hB.kp k06).ix hb2 fun p hp => ⟨p, _, _, _, rfl, rfl, hp, rfl, _, rfl, _, _, rfl, rfl, _, _, rfl, rfl, d, c, l, _, rfl, dr6, hE.kp k06, by omega, by omega, fun H7 v2 k7 dr7 => ?_⟩⟩
    have k07 := k06.trans k7
    have fin : ∀ (H8 : Hp) (p : Addr), Kp d H7 H8 → DrAt H8 d c → H8 p = none → Q (.ref p) (upd H8 p (.tup [.str "copy", .int one, v1, .int two, v2, .int (1 + cv)])) := fun H8 p k8 dr8 np =>
      q _ _ ((k07.trans k8).trans (same_kp (same_upd np))) (dr8.same (same_upd np)) (.inr ⟨p, [one, two], rfl, fun n => ⟨p, _, _, [one, two], [], [], rfl, upd_same, .copy one _ two _ _, True.intro, rfl⟩⟩)
    refine ⟨_, rfl, _, rfl, (hB.kp k07).ix hb2 fun p hp => ⟨p, _, _, _, rfl, rfl, hp, rfl, rfl, _, rfl, ite2 (fun e => ?_) (fun e => ?_)⟩⟩
    · refine ⟨_, rfl, d, c, 2, rfl, dr7, by decide, bnd_le (by decide), fun H8 x k8 dr8 x0 x1 => ⟨rfl, _, rfl, ite2 (fun e => ?_) (fun e => ?_)⟩⟩
      · refine ⟨_, rfl, _, rfl, _, rfl, _, rfl, _, rfl, t6, fun p np => ?_⟩
        exact q _ _ ((k07.trans k8.kp).trans (same_kp (same_upd np))) (dr8.same (same_upd np)) (.inr ⟨p, [two, one], rfl, fun n => ⟨p, _, _, [two, one], [], [], rfl, upd_same, .copy two _ one _ _, True.intro, rfl⟩⟩)
      · exact ⟨_, rfl, _, rfl, _, rfl, _, rfl, _, rfl, t6, fun p np => fin H8 p k8.kp dr8 np⟩
    · exact iteF ⟨_, rfl, _, rfl, _, rfl, _, rfl, _, rfl, t6, fun p np => fin H7 p (Kp.refl d H7) dr7 np⟩
end
section
variable {P : Program} {w : World} {K : PySem.W.Frag} {mg : Str → Option Value} {base : Heap}
theorem EnvAt.mono {H : Hp} {d l : Addr} {m m' : Nat} (h : m ≤ m') : EnvAt H d l m → EnvAt H d l m'
  | ⟨vs, h1, h2, h3, h4⟩ => ⟨vs, h1, h2, Nat.le_trans h3 h, h4⟩
def spStm : Nat → Sp := fun n vs H Q _ => ∃ (d c bl l : Addr) (bfs : List (Str × Int)), vs = [.ref d, .ref bl, .ref l, .int (4 - (n : Int))] ∧ 1 ≤ n ∧ DrAt H d c ∧ BufsAt H d bl bfs ∧ GoodB bfs ∧ EnvAt H d l (4 - n) ∧
  ∀ H' v bs, Kp d H H' → DrAt H' d c → StH H' n v bs → Q v H'
def spBody : Nat → Sp := fun n vs H Q _ => ∃ (d c bl l : Addr) (bfs : List (Str × Int)) (m : Int), vs = [.ref d, .ref bl, .ref l, .int (4 - (n : Int)), .int m] ∧ 1 ≤ n ∧ 0 ≤ m ∧ m ≤ 3 ∧ DrAt H d c ∧ BufsAt H d bl bfs ∧ GoodB bfs ∧ EnvAt H d l (4 - n) ∧
  ∀ H' t ss bss, Kp d H H' → DrAt H' d c → H' t = some (.tup ss) → t ≠ d → ss.length = m.toNat → Each (StH H' n) ss bss → Q (.ref t) H'
abbrev nBy : List Str := ["d", "buffers", "env", "depth", "many", "k"]
theorem scBy : FnScope nBy ["d", "buffers", "env", "depth", "many"] (defScope sBody) := ⟨rfl, rfl, rfl, by decide +kernel, rfl, by decide +kernel, by decide +kernel⟩
theorem ok_body {f : Addr} {fd : FuncData} (F : Fun K "_law_body" "_law_body" sBody f fd) (T : Txt42 mg) {n : Nat} (hn : n ≤ 4) (cSm : Calls P w K mg base CX0 (2 * n + 8) "_law_statement" ["d", "buffers", "env", "depth"] (spStm n)) : FnOk P w K mg base CX0 (2 * n + 9) f fd ["d", "buffers", "env", "depth", "many"] (spBody n) := by
  obtain ⟨fSm, dSm, GSm, kSm, bSm, gSm⟩ := cSm.ex
  refine F.ok scBy (fun vs H Q E h => ?_) (fun cdv A outer s H vs Q E hrn h => ?_)
  · obtain ⟨d, c, bl, l, bfs, m, rfl, _⟩ := h
    rfl
  · obtain ⟨d, c, bl, l, bfs, m, rfl, n1, m0, m3, dr, hB, gB, hE, q⟩ := h
    refine ⟨_, (pss_one (ps_ret (pe_callTy call_tuple_of (by rfl) T.tuple (by decide +kernel) (pa_cons (pe_lc (own := [("k", 5)]) (g := (gName 5)) (tt := tYes) (te := (tCall (spStm n) [] E0 (tCons (tVar 0) (tCons (tVar 1) (tCons (tVar 2) (tCons (tVar 3) tNil)))))) rfl scBy.nd (pi_range1 rfl T.range (pa_cons (pv 4) pa_nil)) (blkOk_by (N := nBy) (sc := defScope sBody) (by decide +kernel)) (fun _ _ _ _ _ => (pg_name (i := 5) scBy.nd rfl (.inl rfl) (hf := Or.inr rfl))) (fun _ _ _ _ _ => pts_nil) (fun _ _ _ _ _ => (pe_call GSm hrn (by rfl) gSm kSm bSm .nil pass0 (pa_cons (pv 0) (pa_cons (pv 1) (pa_cons (pv 2) (pa_cons (pv 3) pa_nil))))))) pa_nil)))), ?_⟩
    refine ⟨_, rfl, m, rfl, by omega, by omega, fun L nL => lc_range (lo := 0) (n := m.toNat) (fun i H' => ∃ (ts : List V) (bss : List (List Nat)), Kp d H H' ∧ DrAt H' d c ∧ H' L = some (.lst ts) ∧ ts.length = i ∧ Each (StH H' n) ts bss)
      ⟨[], [], same_kp (same_upd nL), dr.same (same_upd nL), upd_same, rfl, True.intro⟩ ?_ ?_⟩
    · rintro i H5 hi ⟨ts, bss, k5, dr5, hL, htl, he⟩
      obtain ⟨nLd, nLc⟩ := new_neD dr nL
      refine ⟨rfl, ?_⟩
      unfold tYes
      dsimp only
      rw [if_pos rfl]
      refine ⟨_, rfl, _, rfl, _, rfl, _, rfl, d, c, bl, l, bfs, rfl, n1, dr5, hB.kp k5, gB, hE.kp k5, fun H6 w1 bs1 k6 dr6 x1 => ⟨_, k6 _ _ nLd hL, by rw [htl]; exact small1000 (by omega), ts ++ [w1], bss ++ [bs1], (k5.trans k6).upd nL, dr6.upd _ nLd nLc, upd_same, by rw [List.length_append, htl]; rfl, ?_⟩⟩
      have kk : TK H6 (upd H6 L (.lst (ts ++ [w1]))) := tk_lst (k6 _ _ nLd hL)
      exact (he.mono fun _ _ h => h.tk ((k6.tk dr5).trans kk)).append (Each.one (x1.tk kk))
    · rintro H5 ⟨ts, bss, k5, dr5, hL, htl, he⟩
      refine ⟨L, _, rfl, .inl ⟨SqL.of hL, fun t nt => ?_⟩⟩
      exact q _ t ts bss (k5.trans (same_kp (same_upd nt))) (dr5.same (same_upd nt)) upd_same (new_neD dr5 nt).1 htl (he.mono fun _ _ h => h.tk (same_tk (same_upd nt)))
abbrev nSm : List Str := ["d", "buffers", "env", "depth", "menu", "var", "count", "start", "step", "k", "inner", "copy", "sets"]
theorem scSm : FnScope nSm ["d", "buffers", "env", "depth"] (defScope sStmt) := ⟨rfl, rfl, rfl, by decide +kernel, rfl, by decide +kernel, by decide +kernel⟩
theorem ok_stm {f : Addr} {fd : FuncData} (F : Fun K "_law_statement" "_law_statement" sStmt f fd) (T : Txt42 mg) {n : Nat} (hn : n ≤ 3) (cT : Calls P w K mg base CX0 1 "_law_take" ["d", "many"] spTake) (cS : Calls P w K mg base CX0 2 "_law_signed" ["d", "most"] spSigned)
    (cF : Calls P w K mg base CX0 2 "_law_form" ["d", "env", "size"] spForm) (cTe : Calls P w K mg base CX0 3 "_law_test" ["d", "env"] spTest) (cCo : Calls P w K mg base CX0 3 "_law_copy" ["d", "buffers", "env"] spCopy) (cEx : Calls P w K mg base CX0 7 "_law_expr" ["d", "buffers", "env", "level"] (spExpr 3))
    (cBy : Calls P w K mg base CX0 (2 * n + 9) "_law_body" ["d", "buffers", "env", "depth", "many"] (spBody n)) : FnOk P w K mg base CX0 (2 * (n + 1) + 8) f fd ["d", "buffers", "env", "depth"] (spStm (n + 1)) := by
  obtain ⟨fT, dT, GT, kT, bT, gT⟩ := cT.ex
  obtain ⟨fS, dS, GS, kS, bS, gS⟩ := cS.ex
  obtain ⟨fF, dF, GF, kF, bF, gF⟩ := cF.ex
  obtain ⟨fTe, dTe, GTe, kTe, bTe, gTe⟩ := cTe.ex
  obtain ⟨fCo, dCo, GCo, kCo, bCo, gCo⟩ := cCo.ex
  obtain ⟨fEx, dEx, GEx, kEx, bEx, gEx⟩ := cEx.ex
  obtain ⟨fBy, dBy, GBy, kBy, bBy, gBy⟩ := cBy.ex
  refine F.ok scSm (fun vs H Q E h => ?_) (fun cdv A outer s H vs Q E hr h => ?_)
  · obtain ⟨d, c, bl, l, bfs, rfl, _⟩ := h
    rfl
  · obtain ⟨d, c, bl, l, bfs, rfl, _, dr, hB, gB, hE, q⟩ := h
    have hrn : Room (2 * n + 9) _ := hr.mono (by omega)
    have hr1 : Room 1 _ := hr.mono (by omega)
    have hr2 : Room 2 _ := hr.mono (by omega)
    have hr3 : Room 3 _ := hr.mono (by omega)
    have hr7 : Room 7 _ := hr.mono (by omega)
    refine ⟨_, (pss_cons (ps_set (i := 4) scSm.nd rfl (.inl rfl) (pe_call GT hr1 (by rfl) gT kT bT .nil pass0 (pa_cons (pv 0) (pa_cons pe_int pa_nil))))
      (Evl.pss_cut (ps_if (PW.pt (pw_and (pt_cmpR op_lt (pv 4) pe_int (nomark _)) (pw_and1 (pt_cmpR op_lt (pv 3) pe_int (nomark _))))) (pss_cons (ps_set (i := 5) scSm.nd rfl (.inl rfl) (pe_op op_add (pe_op op_mul pe_int (pv 3)) (pe_call GT hr1 (by rfl) gT kT bT .nil pass0 (pa_cons (pv 0) (pa_cons pe_int pa_nil)))))
      (pss_cons (ps_set (i := 6) scSm.nd rfl (.inl rfl) (pe_op op_add pe_int (pe_call GT hr1 (by rfl) gT kT bT .nil pass0 (pa_cons (pv 0) (pa_cons pe_int pa_nil)))))
      (pss_cons (ps_set (i := 7) scSm.nd rfl (.inr rfl) (pe_call GS hr2 (by rfl) gS kS bS .nil pass0 (pa_cons (pv 0) (pa_cons pe_int pa_nil))))
      (pss_cons (ps_set (i := 8) scSm.nd rfl (.inr rfl) (pe_ix ix_tup (pe_tup (pa_cons pe_int (pa_cons pe_int (pa_cons pe_int (pa_cons (pe_op op_sub pe_int pe_int) pa_nil))))) (pe_call GT hr1 (by rfl) gT kT bT .nil pass0 (pa_cons (pv 0) (pa_cons pe_int pa_nil))) (fun _ _ => rfl)))
      (pss_cons (ps_set (i := 10) scSm.nd rfl (.inl rfl) (pe_op op_cat (pv 2) (pe_lst (pa_cons (pe_tup (pa_cons (pv 5) (pa_cons (pe_lc (own := [("k", 9)]) (g := (gName 9)) (tt := tYes) (te := (tOp (rI0 fun i j => .int (i + j)) (tVar 7) (tOp (rI CMul fun i j => .int (i * j)) (tVar 8) (tVar 9)))) rfl scSm.nd (pi_range1 rfl T.range (pa_cons (pv 6) pa_nil)) (blkOk_by (N := nSm) (sc := defScope sStmt) (by decide +kernel)) (fun _ _ _ _ _ => (pg_name (i := 9) scSm.nd rfl (.inl rfl))) (fun _ _ _ _ _ => pts_nil) (fun _ _ _ _ _ => (pe_op op_add (pv 7) (pe_op op_mul (pv 8) (pv 9))))) pa_nil))) pa_nil))))
      (pss_one (ps_ret (pe_tup (pa_cons pe_str (pa_cons (pv 5) (pa_cons (pv 7) (pa_cons (pv 8) (pa_cons (pv 6) (pa_cons (pe_call GBy hrn (by rfl) gBy kBy bBy .nil pass0 (pa_cons (pv 0) (pa_cons (pv 1) (pa_cons (pv 10) (pa_cons (pe_op op_add (pv 3) pe_int) (pa_cons (pe_op op_add pe_int (pe_call GT hr1 (by rfl) gT kT bT .nil pass0 (pa_cons (pv 0) (pa_cons pe_int pa_nil)))) pa_nil)))))) pa_nil)))))))))))))) pss_nil)
      (Evl.pss_cut (ps_if (PW.pt (pw_and (pt_cmpR op_eq (pv 4) pe_int (nomark _)) (pw_and1 (pt_cmpR op_lt (pv 3) pe_int (nomark _))))) (pss_one (ps_ret (pe_tup (pa_cons pe_str (pa_cons (pe_call GTe hr3 (by rfl) gTe kTe bTe .nil pass0 (pa_cons (pv 0) (pa_cons (pv 2) pa_nil))) (pa_cons (pe_call GBy hrn (by rfl) gBy kBy bBy .nil pass0 (pa_cons (pv 0) (pa_cons (pv 1) (pa_cons (pv 2) (pa_cons (pe_op op_add (pv 3) pe_int) (pa_cons (pe_op op_add pe_int (pe_call GT hr1 (by rfl) gT kT bT .nil pass0 (pa_cons (pv 0) (pa_cons pe_int pa_nil)))) pa_nil)))))) pa_nil)))))) pss_nil)
      (Evl.pss_cut (ps_if (pt_cmpR op_eq (pv 4) pe_int (nomark _)) (pss_cons (ps_set (i := 11) scSm.nd rfl (.inl rfl) (pe_call GCo hr3 (by rfl) gCo kCo bCo .nil pass0 (pa_cons (pv 0) (pa_cons (pv 1) (pa_cons (pv 2) pa_nil)))))
      (pss_one (ps_if (pt_cmpR op_notN (pv 11) pe_non (nomark _)) (pss_one (ps_ret (pv 11))) pss_nil))) pss_nil)
      (pss_cons (ps_setLc (i := 12) (own := [("k", 9)]) (g := (gName 9)) (tt := (tTest (tOp rNe (tOp (rIxT K) (tOp (rIx K) (tVar 1) (tVar 9)) (tC (.int 0))) (tC (.str "in"))))) (te := (tVar 9)) (by rfl) scSm.nd rfl rfl (sw_true rfl rfl rfl (by decide +kernel)) (pi_range1 rfl T.range (pa_cons (pe_callB call_len_seq (by rfl) T.len PySem.boot_len (pa_cons (pv 1) pa_nil)) pa_nil)) (blkOk_by (N := nSm) (sc := defScope sStmt) (by decide +kernel)) (fun _ _ _ _ _ => (pg_name (i := 9) scSm.nd rfl (.inl rfl))) (fun _ _ _ _ _ => pts_one (pt_cmpR op_ne (pe_ix ix_tup (pe_ix ix_seq (pv 1) (pv 9) (fun _ _ => rfl)) pe_int (fun _ _ => rfl)) pe_str (nomark _))) (fun _ _ _ _ _ => (pv 9)))
      (pss_cons (ps_set (i := 9) scSm.nd rfl (.inl rfl) (pe_ix ix_list (pv 12) (pe_call GT hr1 (by rfl) gT kT bT .nil pass0 (pa_cons (pv 0) (pa_cons (pe_callB call_len_seq (by rfl) T.len PySem.boot_len (pa_cons (pv 12) pa_nil)) pa_nil))) (fun _ _ => rfl)))
      (pss_one (ps_ret (pe_tup (pa_cons pe_str (pa_cons (pv 9) (pa_cons (pe_call GF hr2 (by rfl) gF kF bF .nil pass0 (pa_cons (pv 0) (pa_cons (pv 2) (pa_cons (pe_ix ix_tup (pe_ix ix_seq (pv 1) (pv 9) (fun _ _ => rfl)) pe_int (fun _ _ => rfl)) pa_nil)))) (pa_cons (pe_call GEx hr7 (by rfl) gEx kEx bEx .nil pass0 (pa_cons (pv 0) (pa_cons (pv 1) (pa_cons (pv 2) (pa_cons pe_int pa_nil))))) pa_nil))))))))))))), ?_⟩
    have t1 : 1 ≤ sizeLine := by decide
    have t2 : 2 ≤ sizeLine := by decide
    have t3 : 3 ≤ sizeLine := by decide
    have t4 : 4 ≤ sizeLine := by decide
    have t6 : 6 ≤ sizeLine := by decide
    have big : 1000 < sizeLine := by decide
    have lv : (4 - ((n + 1 : Nat) : Int)) + 1 = 4 - (n : Int) := by omega
    have hE4 := hE.mono (show 4 - (n + 1) ≤ 4 by omega)
    refine ⟨_, rfl, d, c, 6, rfl, dr, by decide, bnd_le (by decide), fun H1 u k1 dr1 u0 u6 => ?_⟩
    replace hB := hB.kp k1.kp
    replace hE := hE.kp k1.kp
    replace hE4 := hE4.kp k1.kp
    replace q : ∀ H' v bs, Kp d H1 H' → DrAt H' d c → StH H' (n + 1) v bs → Q v H' := fun H' v bs k => q H' v bs (k1.kp.trans k)
    clear dr k1
    refine ⟨fun σ' H' => σ' = [some (.ref d), some (.ref bl), some (.ref l), some (.int (4 - ((n + 1 : Nat) : Int))), some (.int u), none, none, none, none, none, none, none, none] ∧ H' = H1, ?_, ?_⟩
    · refine ⟨_, rfl, _, _, rfl, rfl, _, rfl, ite2 (fun e => ⟨_, rfl, _, _, rfl, rfl, _, rfl, ite2 (fun e' => ?_) (fun e' => ⟨rfl, rfl⟩)⟩) (fun e => iteF ⟨rfl, rfl⟩)⟩
      have e' : 4 - ((n + 1 : Nat) : Int) < 3 := of_decide_eq_true e'
      have n1 : 1 ≤ n := by omega
      refine ⟨_, rfl, _, _, rfl, rfl, .inl ⟨by omega, by omega⟩, _, rfl, d, c, 3, rfl, dr1, by decide, bnd_le (by decide), fun H2 x k2 dr2 x0 x1 => ⟨_, _, rfl, rfl, ?_⟩⟩
      refine ⟨_, rfl, d, c, 3, rfl, dr2, by decide, bnd_le (by decide), fun H3 cn k3 dr3 cn0 cn1 => ⟨_, _, rfl, rfl, ?_⟩⟩
      refine ⟨_, rfl, d, c, 2, rfl, dr3, by decide, bnd_le (by decide), fun H4 st k4 dr4 st0 st1 => ?_⟩
      refine ⟨_, _, rfl, rfl, t4, fun tp ntp => ⟨_, rfl, d, c, 4, rfl, dr4.same (same_upd ntp), by decide, bnd_le (by decide), fun H5 y k5 dr5 y0 y1 => ?_⟩⟩
      obtain ⟨yn, rfl⟩ : ∃ yn : Nat, y = (yn : Int) := ⟨y.toNat, by omega⟩
      have htp := k5.tup (dr4.same (same_upd ntp)) (upd_same (H := H4) (a := tp) (o := .tup [.int 1, .int 1, .int 2, .int (0 - 1)]))
      obtain ⟨sp, hsp, hs0, hs1⟩ : ∃ sp : Int, atI [V.int 1, .int 1, .int 2, .int (0 - 1)] (yn : Int) = some (.int sp) ∧ -2 ≤ sp ∧ sp ≤ 2 := by
        match yn, y1 with
        | 0, _ => exact ⟨1, rfl, by decide, by decide⟩
        | 1, _ => exact ⟨1, rfl, by decide, by decide⟩
        | 2, _ => exact ⟨2, rfl, by decide, by decide⟩
        | 3, _ => exact ⟨0 - 1, rfl, by decide, by decide⟩
        | n + 4, h => exact absurd h (by omega)
      have k15 : Kp d H1 H5 := ((k2.kp.trans k3.kp).trans k4.kp).trans ((same_kp (same_upd ntp)).trans k5.kp)
      refine ⟨tp, _, _, _, rfl, rfl, SqT.of htp, hsp, ?_⟩
      obtain ⟨vs, hl, nl, hvl, hv⟩ := hE.kp k15
      refine ⟨_, rfl, _, rfl, _, rfl, 1 + cn, rfl, by omega, by omega, fun L nL => lc_range (lo := 0) (n := (1 + cn).toNat) (fun i H' => ∃ ns : List Int, Same H5 H' ∧ H' L = some (.lst (ns.map V.int)) ∧ ns.length = i) ⟨[], same_upd nL, upd_same, rfl⟩ ?_ ?_⟩
      · rintro i H6 hi ⟨ns, s6, hL, hnl⟩
        refine ⟨rfl, ?_⟩
        unfold tYes
        dsimp only
        rw [if_pos rfl]
        refine ⟨_, rfl, _, rfl, _, rfl, _, _, rfl, rfl, .inl ⟨by omega, by omega⟩, _, _, rfl, rfl, _, hL, by rw [List.length_map, hnl]; exact small1000 (by omega), ns ++ [st + sp * (0 + (i : Int))], same_updN s6 nL, ?_, by rw [List.length_append, hnl]; rfl⟩
        rw [upd_same, List.map_append]
        rfl
      · rintro H6 ⟨ns, s6, hL, hnl⟩
        obtain ⟨nLd, nLc⟩ := new_neD dr5 nL
        refine ⟨t2, fun p np => ⟨t1, fun M nM => ⟨l, M, vs, _, rfl, rfl, ?_, upd_same, by show vs.length + 1 ≤ sizeLine; omega, fun N nN => ?_⟩⟩⟩
        · exact same_upd nM _ _ (same_upd np _ _ (s6 _ _ hl))
        have s7 : Same H6 (upd (upd (upd H6 p (.tup [.int (3 * (4 - ((n + 1 : Nat) : Int)) + x), .ref L])) M (.lst [.ref p])) N (.lst (vs ++ [.ref p]))) := ((same_upd np).trans (same_upd nM)).trans (same_upd nN)
        have dr6 := dr5.same s6
        have npd := (new_neD dr6 np).1
        have nNd := (new_neD ((dr6.same (same_upd np)).same (same_upd nM)) nN).1
        have hp7 : (upd (upd (upd H6 p (.tup [.int (3 * (4 - ((n + 1 : Nat) : Int)) + x), .ref L])) M (.lst [.ref p])) N (.lst (vs ++ [.ref p]))) p = some (.tup [.int (3 * (4 - ((n + 1 : Nat) : Int)) + x), .ref L]) := same_upd nN _ _ (same_upd nM _ _ upd_same)
        have hN7 : (upd (upd (upd H6 p (.tup [.int (3 * (4 - ((n + 1 : Nat) : Int)) + x), .ref L])) M (.lst [.ref p])) N (.lst (vs ++ [.ref p]))) N = some (.lst (vs ++ [.ref p])) := upd_same
        generalize (upd (upd (upd H6 p (.tup [.int (3 * (4 - ((n + 1 : Nat) : Int)) + x), .ref L])) M (.lst [.ref p])) N (.lst (vs ++ [.ref p]))) = H7 at *
        have k57 : Kp d H5 H7 := (same_kp s6).trans (same_kp s7)
        have k17 := k15.trans k57
        have dr7 := dr6.same s7
        have hE7 : EnvAt H7 d N (4 - n) := by
          refine ⟨_, hN7, nNd, by rw [List.length_append]; show vs.length + 1 ≤ 4 - n; omega, fun v hv' => ?_⟩
          rcases List.mem_append.mp hv' with h | h
          · obtain ⟨p', q', x', ns', e1, e2, e3, e4, e5, e6⟩ := hv v h
            exact ⟨p', q', x', ns', e1, e2, k57 _ _ e2 e3, e4, k57 _ _ e4 e5, e6⟩
          · rw [List.mem_singleton.mp h]
            exact ⟨p, L, _, ns, rfl, npd, hp7, nLd, s7 _ _ hL, by omega, by omega⟩
        refine ⟨_, rfl, _, rfl, _, rfl, _, rfl, _, rfl, _, rfl, _, rfl, _, rfl, _, _, rfl, rfl, _, rfl, d, c, 2, rfl, dr7, by decide, bnd_le (by decide), fun H8 b k8 dr8 b0 b1 => ⟨_, _, rfl, rfl, ?_⟩⟩
        refine ⟨d, c, bl, N, bfs, 1 + b, (show [V.ref d, V.ref bl, V.ref N, V.int (4 - ((n + 1 : Nat) : Int) + 1), V.int (1 + b)] = _ from by rw [lv]), n1, by omega, by omega, dr8, (hB.kp k17).kp k8.kp, gB, hE7.kp k8.kp, fun H9 t ss bss k9 dr9 ht nt hsl he => ⟨t6, fun r nr => ?_⟩⟩
        have kr := same_kp (d := d) (same_upd (o := .tup [.str "loop", .int (3 * (4 - ((n + 1 : Nat) : Int)) + x), .int st, .int sp, .int (1 + cn), .ref t]) nr)
        exact q _ _ bss.flatten (((k17.trans k8.kp).trans k9).trans kr) (dr9.same (same_upd nr)) ⟨r, _, _, [], ss, bss, rfl, upd_same, .loop _ _ _ _ t ss (same_upd nr _ _ ht) (by omega), he.mono fun _ _ h => h.tk (same_tk (same_upd nr)), by simp⟩
    rintro _ H' ⟨rfl, e⟩
    rw [e]
    clear e H'
    refine ⟨fun σ' H' => σ' = [some (.ref d), some (.ref bl), some (.ref l), some (.int (4 - ((n + 1 : Nat) : Int))), some (.int u), none, none, none, none, none, none, none, none] ∧ H' = H1, ?_, ?_⟩
    · refine ⟨_, rfl, rfl, _, rfl, ite2 (fun e => ⟨_, rfl, _, _, rfl, rfl, _, rfl, ite2 (fun e' => ?_) (fun e' => ⟨rfl, rfl⟩)⟩) (fun e => iteF ⟨rfl, rfl⟩)⟩
      have e' : 4 - ((n + 1 : Nat) : Int) < 3 := of_decide_eq_true e'
      have n1 : 1 ≤ n := by omega
      refine ⟨_, rfl, _, rfl, d, c, l, rfl, dr1, hE4, fun H2 v k2 dr2 => ?_⟩
      refine ⟨_, rfl, _, rfl, _, rfl, _, rfl, _, _, rfl, rfl, _, rfl, d, c, 2, rfl, dr2, by decide, bnd_le (by decide), fun H8 b k8 dr8 b0 b1 => ⟨_, _, rfl, rfl, ?_⟩⟩
      refine ⟨d, c, bl, l, bfs, 1 + b, (show [V.ref d, V.ref bl, V.ref l, V.int (4 - ((n + 1 : Nat) : Int) + 1), V.int (1 + b)] = _ from by rw [lv]), n1, by omega, by omega, dr8, (hB.kp k2).kp k8.kp, gB, ((hE.mono (show 4 - (n + 1) ≤ 4 - n by omega)).kp k2).kp k8.kp, fun H9 t ss bss k9 dr9 ht nt hsl he => ⟨t3, fun r nr => ?_⟩⟩
      have kr := same_kp (d := d) (same_upd (o := .tup [.str "when", v, .ref t]) nr)
      exact q _ _ bss.flatten (((k2.trans k8.kp).trans k9).trans kr) (dr9.same (same_upd nr)) ⟨r, _, _, [], ss, bss, rfl, upd_same, .when _ t ss (same_upd nr _ _ ht) (by omega), he.mono fun _ _ h => h.tk (same_tk (same_upd nr)), by simp⟩
    rintro _ H' ⟨rfl, e⟩
    rw [e]
    clear e H'
    refine ⟨fun σ' H' => ∃ v11 : Option V, σ' = [some (.ref d), some (.ref bl), some (.ref l), some (.int (4 - ((n + 1 : Nat) : Int))), some (.int u), none, none, none, none, none, none, v11, none] ∧ Kp d H1 H' ∧ DrAt H' d c, ?_, ?_⟩
    · refine ⟨_, rfl, rfl, _, rfl, ite2 (fun e => ?_) (fun e => ⟨none, rfl, Kp.refl d H1, dr1⟩)⟩
      refine ⟨_, rfl, _, rfl, _, rfl, d, c, bl, l, bfs, rfl, dr1, hB, gB, hE4, fun H2 v k2 dr2 hv => ?_⟩
      rcases hv with rfl | ⟨a, bs, rfl, hs⟩
      · exact ⟨_, rfl, rfl, _, rfl, iteF ⟨_, rfl, k2, dr2⟩⟩
      · exact ⟨_, rfl, rfl, _, rfl, iteT ⟨_, rfl, q _ _ bs k2 dr2 (hs n)⟩⟩
    rintro σ' H2 ⟨v11, rfl, k2, dr2⟩
    replace hB := hB.kp k2
    replace hE4 := hE4.kp k2
    replace q : ∀ H' v bs, Kp d H2 H' → DrAt H' d c → StH H' (n + 1) v bs → Q v H' := fun H' v bs k => q H' v bs (k2.trans k)
    clear dr1 k2 hE
    have g2 := gB.l2
    have g10 := gB.l10
    obtain ⟨bv, hbv, hbl⟩ := hB.seq (K := K)
    refine ⟨_, rfl, bl, bv, rfl, hbv, bv.length, rfl, by omega, by omega, fun M nM => lc_range (lo := 0) (n := ((bv.length : Nat) : Int).toNat) (fun i H' => Same H2 H' ∧ H' M = some (.lst ((selB (fun z => !decide (z = "in")) bfs i).map natV))) ⟨same_upd nM, upd_same⟩ ?_ ?_⟩
    · rintro i H3 hi ⟨sm, hM⟩
      obtain ⟨b, hb⟩ : ∃ b, bfs[i]? = some b := ⟨_, List.getElem?_eq_getElem (by omega)⟩
      have hs := selB_succ (fun z => !decide (z = "in")) hb
      have hsl := selB_len (p := fun z => !decide (z = "in")) (bfs := bfs) (i := i)
      rw [Int.zero_add]
      refine ⟨rfl, _, rfl, _, rfl, (hB.kp (same_kp sm)).ix hb fun p hp => ⟨p, _, _, _, rfl, rfl, hp, rfl, rfl, _, rfl, ite2 (fun e => ?_) (fun e => ?_)⟩⟩
      · rw [show decide (V.str b.1 = V.str "in") = decide (b.1 = "in") from decS] at e
        refine ⟨_, rfl, _, hM, by rw [List.length_map]; omega, same_updN sm nM, ?_⟩
        rw [upd_same, hs, if_pos e, List.map_append]
        rfl
      · rw [show decide (V.str b.1 = V.str "in") = decide (b.1 = "in") from decS] at e
        refine ⟨sm, ?_⟩
        rw [hs, if_neg e, List.append_nil]
        exact hM
    rintro H3 ⟨s3, hM⟩
    rw [Int.toNat_natCast] at hM
    have dr3 := dr2.same s3
    obtain ⟨nMd, nMc⟩ := new_neD dr2 nM
    have hl2 := selB_len (p := fun z => !decide (z = "in")) (bfs := bfs) (i := bv.length)
    have hm2 : ∀ k ∈ selB (fun z => !decide (z = "in")) bfs bv.length, k < bfs.length := fun k h => by
      have := (selB_mem.mp h).1
      omega
    have hpos : 0 < (selB (fun z => !decide (z = "in")) bfs bv.length).length := by
      obtain ⟨z, hz⟩ := gB.b1
      refine List.length_pos_of_mem (a := 1) (selB_mem.mpr ⟨by omega, ?_⟩)
      rw [List.getD_eq_getElem?_getD, hz]
      show (!decide (("main" : Str) = "in")) = true
      decide +kernel
    generalize selB (fun z => !decide (z = "in")) bfs bv.length = ms at *
    refine ⟨_, rfl, _, rfl, _, rfl, M, _, rfl, .inl (SqL.of hM), d, c, _, rfl, dr3, by rw [List.length_map]; omega, bnd_le (by rw [List.length_map]; omega), fun H4 y k4 dr4 y0 y1 => ?_⟩
    rw [List.length_map] at y1
    obtain ⟨yn, rfl⟩ : ∃ yn : Nat, y = (yn : Int) := ⟨y.toNat, by omega⟩
    obtain ⟨k, hk⟩ : ∃ k, ms[yn]? = some k := ⟨_, List.getElem?_eq_getElem (by omega)⟩
    refine ⟨M, _, _, _, rfl, rfl, SqL.of (k4.kp _ _ nMd hM), natV_at hk, ?_⟩
    obtain ⟨b, hb⟩ : ∃ b, bfs[k]? = some b := ⟨_, List.getElem?_eq_getElem (hm2 _ (List.mem_of_getElem? hk))⟩
    obtain ⟨z1, z2⟩ := gB.sz _ _ hb
    have k24 : Kp d H2 H4 := (same_kp s3).trans k4.kp
    refine ⟨_, rfl, _, rfl, _, rfl, _, rfl, _, rfl, (hB.kp k24).ix hb fun p hp => ⟨p, _, _, _, rfl, rfl, hp, rfl, d, c, l, _, rfl, dr4, hE4.kp k24, by omega, by omega, fun H5 v1 k5 dr5 => ?_⟩⟩
    have k25 := k24.trans k5
    refine ⟨_, rfl, _, rfl, _, rfl, d, c, bl, l, bfs, rfl, by decide, dr5, hB.kp k25, gB, hE4.kp k25, fun H6 v2 bs k6 dr6 hx => ⟨t4, fun p np => ?_⟩⟩
    have kp := same_kp (d := d) (same_upd (o := .tup [.str "put", .int k, v1, v2]) np)
    exact q _ _ (k :: bs) ((k25.trans k6).trans kp) (dr6.same (same_upd np)) ⟨p, _, _, k :: bs, [], [], rfl, upd_same, .put k _ v2 bs (hx.tk (kp.tk dr6)), True.intro, by simp⟩
end
section
variable {P : Program} {w : World} {K : PySem.W.Frag} {mg : Str → Option Value} {base : Heap}
theorem any_mem (k : Nat) : ∀ bss : List (List Nat), (bss.map fun b => decide (k ∈ b)).any id = decide (k ∈ bss.flatten)
  | [] => by simp
  | b :: bss => by
    rw [List.map_cons, List.any_cons, any_mem k bss, List.flatten_cons]
    show (decide (k ∈ b) || _) = _
    rw [← Bool.decide_or]
    exact decide_eq_decide.mpr List.mem_append.symm
def spInE : Nat → Sp := fun n vs H Q _ => ∃ (v : V) (k : Nat) (bs : List Nat), vs = [v, .int k] ∧ ExH H n v bs ∧ ∀ H', Same H H' → Q (.bl (decide (k ∈ bs))) H'
theorem intEq {q k : Nat} : decide (V.int (q : Int) = V.int (k : Int)) = decide (k = q) := decide_eq_decide.mpr ⟨fun e => by injection e with e; omega, fun e => by rw [e]⟩
theorem or_t {b : Bool} {P : Prop} [Decidable P] (h : b = true) : (b || decide P) = true := by rw [h, Bool.true_or]
abbrev nIe : List Str := ["expr", "k", "kid"]
theorem scIe : FnScope nIe ["expr", "k"] (defScope sInE) := ⟨rfl, rfl, rfl, by decide +kernel, rfl, by decide +kernel, by decide +kernel⟩
theorem ok_ine {f : Addr} {fd : FuncData} (F : Fun K "_law_in_expr" "_law_in_expr" sInE f fd) (T : Txt42 mg)
    (kIe : PySem.W.keepIn K (.ref f) = true) (bIe : Binds K fd ["expr", "k"] []) (gIe : mg "_law_in_expr" = some (.ref f)) : ∀ n : Nat, n ≤ 3 → FnOk P w K mg base CX0 (n + 1) f fd ["expr", "k"] (spInE n) := by
  intro n
  induction n with
  | zero => exact fun _ => ⟨fun vs H Q E h => (by obtain ⟨_, _, _, _, h, _⟩ := h; exact h.elim), fun A o s H args us vs Q E _ _ _ _ h => (by obtain ⟨_, _, _, _, h, _⟩ := h; exact h.elim)⟩
  | succ n ih =>
  intro hn
  have GIe := ih (by omega)
  refine F.ok scIe (fun vs H Q E h => ?_) (fun cdv A outer s H vs Q E hrn h => ?_)
  · obtain ⟨v, k, bs, rfl, _⟩ := h
    rfl
  · obtain ⟨v, k, bs, rfl, ⟨a, nm, rest, ow, es, bss, rfl, ha, sh, ee, rfl⟩, q⟩ := h
    refine ⟨_, (pss_cons (ps_if (pt_cmpR op_eq (pe_ix ix_tup (pv 0) pe_int (fun _ _ => rfl)) pe_str (nomark _)) (pss_one (ps_ret (pe_cmpR op_eq (pe_ix ix_tup (pv 0) pe_int (fun _ _ => rfl)) (pv 1) (nomark _)))) pss_nil)
      (pss_cons (ps_if (pt_cmpR op_eq (pe_ix ix_tup (pv 0) pe_int (fun _ _ => rfl)) pe_str (nomark _)) (pss_one (ps_ret (pe_or (pe_cmpR op_eq (pe_ix ix_tup (pv 0) pe_int (fun _ _ => rfl)) (pv 1) (nomark _)) (pe_one (pe_call GIe hrn (by rfl) gIe kIe bIe .nil pass0 (pa_cons (pe_ix ix_tup (pv 0) pe_int (fun _ _ => rfl)) (pa_cons (pv 1) pa_nil))))))) pss_nil)
      (pss_cons (ps_if (pt_cmpR op_eq (pe_ix ix_tup (pv 0) pe_int (fun _ _ => rfl)) pe_str (nomark _)) (pss_one (ps_ret (pe_or (pe_call GIe hrn (by rfl) gIe kIe bIe .nil pass0 (pa_cons (pe_ix ix_tup (pv 0) pe_int (fun _ _ => rfl)) (pa_cons (pv 1) pa_nil))) (pe_one (pe_call GIe hrn (by rfl) gIe kIe bIe .nil pass0 (pa_cons (pe_ix ix_tup (pv 0) pe_int (fun _ _ => rfl)) (pa_cons (pv 1) pa_nil))))))) pss_nil)
      (pss_one (ps_ret (pe_ifExp (pt_cmpR op_eq (pe_ix ix_tup (pv 0) pe_int (fun _ _ => rfl)) pe_str (nomark _)) (pe_callB (cr_any rfl) (by rfl) T.any (by decide +kernel) (pa_cons (pe_lc (own := [("kid", 2)]) (g := (gName 2)) (tt := tYes) (te := (tCall (spInE n) [] E0 (tCons (tVar 2) (tCons (tVar 1) tNil)))) rfl scIe.nd (pi_tup (pe_ix ix_tup (pv 0) pe_int (fun _ _ => rfl))) (blkOk_by (N := nIe) (sc := defScope sInE) (by decide +kernel)) (fun _ _ _ _ _ => (pg_name (i := 2) scIe.nd rfl (.inl rfl) (hf := Or.inr rfl))) (fun _ _ _ _ _ => pts_nil) (fun _ _ _ _ _ => (pe_call GIe hrn (by rfl) gIe kIe bIe .nil pass0 (pa_cons (pv 2) (pa_cons (pv 1) pa_nil))))) pa_nil)) pe_bl)))))), ?_⟩
    have e0 : ∀ {xs : List V}, atI (V.str nm :: xs) 0 = some (V.str nm) := atI_zero
    refine ⟨_, rfl, a, _, _, _, rfl, rfl, SqT.of ha, e0, rfl, _, rfl, ite2 (fun e => ?_) (fun e => ⟨_, rfl, a, _, _, _, rfl, rfl, SqT.of ha, e0, rfl, _, rfl, ite2 (fun e' => ?_) (fun e' => ⟨_, rfl, a, _, _, _, rfl, rfl, SqT.of ha, e0, rfl, _, rfl, ite2 (fun e'' => ?_) (fun e'' => ⟨_, rfl, a, _, _, _, rfl, rfl, SqT.of ha, e0, rfl, _, rfl, ite2 (fun e3 => ?_) (fun e3 => ?_)⟩)⟩)⟩)⟩
    · cases sh with
      | load q' x =>
        have q1 := q H (Same.refl H)
        refine ⟨_, rfl, a, _, _, _, rfl, rfl, SqT.of ha, rfl, _, rfl, rfl, ?_⟩
        have : decide (V.int (q' : Int) = V.int (k : Int)) = decide (k ∈ [q'] ++ bss.flatten) := by
          have hb : bss = [] := List.eq_nil_of_length_eq_zero ee.len.symm
          rw [hb, intEq]
          simp
        show Q (.bl (decide (V.int (q' : Int) = V.int (k : Int)))) H
        rw [this]
        exact q1
      | _ => exact absurd e (by decide +kernel)
    · cases sh with
      | pick q' x y z e1 =>
        match bss, ee with
        | [b], ⟨h1, _⟩ =>
        have hm : decide (k ∈ [q'] ++ [b].flatten) = (decide (V.int (q' : Int) = V.int (k : Int)) || decide (k ∈ b)) := by
          rw [intEq, ← Bool.decide_or]
          exact decide_eq_decide.mpr (by simp)
        rw [hm] at q
        refine ⟨_, rfl, a, _, _, _, rfl, rfl, SqT.of ha, rfl, _, rfl, rfl, _, rfl, ite2 (fun e1 => ?_) (fun e1 => ?_)⟩
        · have q1 := q H (Same.refl H)
          rw [e1, Bool.true_or] at q1
          exact q1
        · refine ⟨_, rfl, a, _, _, _, rfl, rfl, SqT.of ha, rfl, _, rfl, _, k, b, rfl, h1, fun H' sm => ?_⟩
          have q1 := q H' sm
          rw [Bool.eq_false_iff.mpr e1, Bool.false_or] at q1
          exact q1
        | [], h => exact h.elim
        | _ :: _ :: _, h => exact h.2.elim
      | _ => exact absurd e' (by decide +kernel)
    · cases sh with
      | guard x e1 e2 =>
        match bss, ee with
        | [b1, b2], ⟨h1, h2, _⟩ =>
        have hm : decide (k ∈ [] ++ [b1, b2].flatten) = (decide (k ∈ b1) || decide (k ∈ b2)) := by
          rw [← Bool.decide_or]
          exact decide_eq_decide.mpr (by simp)
        rw [hm] at q
        refine ⟨_, rfl, a, _, _, _, rfl, rfl, SqT.of ha, rfl, _, rfl, _, k, b1, rfl, h1, fun H1 s1 => ⟨_, rfl, ite2 (fun e1 => ?_) (fun e1 => ?_)⟩⟩
        · have q1 := q H1 s1
          rw [e1, Bool.true_or] at q1
          exact q1
        · refine ⟨_, rfl, a, _, _, _, rfl, rfl, SqT.of (s1 _ _ ha), rfl, _, rfl, _, k, b2, rfl, h2.tk (same_tk s1), fun H' sm => ?_⟩
          have q1 := q H' (s1.trans sm)
          rw [Bool.eq_false_iff.mpr e1, Bool.false_or] at q1
          exact q1
        | [], h => exact h.elim
        | [_], h => exact h.2.elim
        | _ :: _ :: _ :: _, h => exact h.2.2.elim
      | _ => exact absurd e'' (by decide +kernel)
    · cases sh with
      | apply x t y es h l =>
        refine ⟨_, rfl, a, _, _, _, rfl, rfl, SqT.of ha, rfl, t, rfl, ⟨_, SqT.of h⟩, fun D nD => lc_tup (K := K) (a := t) (xs := es) (fun i H' => Same H H' ∧ H' D = some (.lst (((bss.take i).map fun b => decide (k ∈ b)).map V.bl))) ⟨same_upd nD, upd_same⟩ (fun i H' _ ⟨sm, _⟩ => SqT.of (sm _ _ h)) ?_ ?_⟩
        · rintro i x' H' hi ⟨sm, hD⟩
          obtain ⟨b, hb, hx⟩ := ee.at hi
          have hil := (List.getElem?_eq_some_iff.mp hi).1
          refine ⟨rfl, ?_⟩
          unfold tYes
          dsimp only
          rw [if_pos rfl]
          refine ⟨_, rfl, _, rfl, x', k, b, rfl, hx.tk (same_tk sm), fun H2 s2 => ⟨_, s2 _ _ hD, ?_, same_updN (sm.trans s2) nD, ?_⟩⟩
          · rw [List.length_map, List.length_map, List.length_take]
            exact small1000 (by omega)
          · rw [upd_same, take_snoc hb, List.map_append, List.map_append]
            rfl
        · rintro H' ⟨sm, hD⟩
          rw [ee.len, List.take_length] at hD
          refine ⟨D, _, rfl, SqL.of hD, ?_⟩
          rw [any_mem]
          exact q H' sm
      | _ => exact absurd e3 (by decide +kernel)
    · have q1 := q H (Same.refl H)
      cases sh with
      | apply x t y es h l => exact absurd (by decide +kernel) e3
      | load q' x => exact absurd (by decide +kernel) e
      | pick q' x y z e1 => exact absurd (by decide +kernel) e'
      | guard x e1 e2 => exact absurd (by decide +kernel) e''
      | _ =>
        have hb : bss = [] := List.eq_nil_of_length_eq_zero ee.len.symm
        rw [hb] at q1
        exact q1
def spIn : Nat → Sp := fun n vs H Q _ => ∃ (v : V) (k : Nat) (bs : List Nat), vs = [v, .int k] ∧ StH H n v bs ∧ ∀ H', Same H H' → Q (.bl (decide (k ∈ bs))) H'
abbrev nIi : List Str := ["s", "k", "one"]
theorem scIi : FnScope nIi ["s", "k"] (defScope sIn) := ⟨rfl, rfl, rfl, by decide +kernel, rfl, by decide +kernel, by decide +kernel⟩
theorem ok_in {f : Addr} {fd : FuncData} (F : Fun K "_law_in" "_law_in" sIn f fd) (T : Txt42 mg) (cIe : Calls P w K mg base CX0 4 "_law_in_expr" ["expr", "k"] (spInE 3))
    (kIi : PySem.W.keepIn K (.ref f) = true) (bIi : Binds K fd ["s", "k"] []) (gIi : mg "_law_in" = some (.ref f)) : ∀ n : Nat, n ≤ 4 → FnOk P w K mg base CX0 (n + 5) f fd ["s", "k"] (spIn n) := by
  obtain ⟨fIe, dIe, GIe, kIe, bIe, gIe⟩ := cIe.ex
  intro n
  induction n with
  | zero => exact fun _ => ⟨fun vs H Q E h => (by obtain ⟨_, _, _, _, h, _⟩ := h; exact h.elim), fun A o s H args us vs Q E _ _ _ _ h => (by obtain ⟨_, _, _, _, h, _⟩ := h; exact h.elim)⟩
  | succ n ih =>
  intro hn
  have GIi := ih (by omega)
  refine F.ok scIi (fun vs H Q E h => ?_) (fun cdv A outer s H vs Q E hrn h => ?_)
  · obtain ⟨v, k, bs, rfl, _⟩ := h
    rfl
  · obtain ⟨v, k, bs, rfl, ⟨a, nm, rest, ow, es, bss, rfl, ha, sh, ee, rfl⟩, q⟩ := h
    have hr5 : Room 4 _ := hrn.mono (by omega)
    refine ⟨_, (pss_cons (ps_if (pt_cmpR op_in_seq (pe_ix ix_tup (pv 0) pe_int (fun _ _ => rfl)) (pe_tup (pa_cons pe_str (pa_cons pe_str pa_nil))) rfl) (pss_one (ps_ret (pe_callB (cr_any rfl) (by rfl) T.any (by decide +kernel) (pa_cons (pe_lc (own := [("one", 2)]) (g := (gName 2)) (tt := tYes) (te := (tCall (spIn n) [] E0 (tCons (tVar 2) (tCons (tVar 1) tNil)))) rfl scIi.nd (pi_tup (pe_ix ix_tup (pv 0) (pe_un un_neg pe_int) (fun _ _ => rfl))) (blkOk_by (N := nIi) (sc := defScope sIn) (by decide +kernel)) (fun _ _ _ _ _ => (pg_name (i := 2) scIi.nd rfl (.inl rfl) (hf := Or.inr rfl))) (fun _ _ _ _ _ => pts_nil) (fun _ _ _ _ _ => (pe_call GIi hrn (by rfl) gIi kIi bIi .nil pass0 (pa_cons (pv 2) (pa_cons (pv 1) pa_nil))))) pa_nil)))) pss_nil)
      (pss_cons (ps_if (pt_cmpR op_eq (pe_ix ix_tup (pv 0) pe_int (fun _ _ => rfl)) pe_str (nomark _)) (pss_one (ps_ret (pe_or (pe_cmpR op_eq (pe_ix ix_tup (pv 0) pe_int (fun _ _ => rfl)) (pv 1) (nomark _)) (pe_one (pe_cmpR op_eq (pe_ix ix_tup (pv 0) pe_int (fun _ _ => rfl)) (pv 1) (nomark _)))))) pss_nil)
      (pss_one (ps_ret (pe_or (pe_cmpR op_eq (pe_ix ix_tup (pv 0) pe_int (fun _ _ => rfl)) (pv 1) (nomark _)) (pe_one (pe_call GIe hr5 (by rfl) gIe kIe bIe .nil pass0 (pa_cons (pe_ix ix_tup (pv 0) pe_int (fun _ _ => rfl)) (pa_cons (pv 1) pa_nil))))))))), ?_⟩
    have e0 : ∀ {xs : List V}, atI (V.str nm :: xs) 0 = some (V.str nm) := atI_zero
    have t2 : 2 ≤ sizeLine := by decide
    refine ⟨_, rfl, a, _, _, _, rfl, rfl, SqT.of ha, e0, t2, fun p np => ⟨p, _, rfl, .inr (SqT.of upd_same), rfl, rfl, _, rfl, ?_⟩⟩
    have s1 := same_upd (o := .tup [.str "loop", .str "when"]) np
    have ha1 := s1 _ _ ha
    have sh1 := sh.tk (same_tk s1)
    replace ee := eachSt_tk (same_tk s1) ee
    replace q : ∀ H', Same (upd H p (.tup [.str "loop", .str "when"])) H' → Q (.bl (decide (k ∈ ow ++ bss.flatten))) H' := fun H' s => q H' (s1.trans s)
    generalize upd H p (.tup [.str "loop", .str "when"]) = H1 at *
    refine ite2 (fun e => ?_) (fun e => ⟨_, rfl, a, _, _, _, rfl, rfl, SqT.of ha1, e0, rfl, _, rfl, ite2 (fun e' => ?_) (fun e' => ?_)⟩)
    · obtain ⟨t, hat, h, hl, rfl⟩ : ∃ t : Addr, atI (V.str nm :: rest) (-1) = some (.ref t) ∧ H1 t = some (.tup es) ∧ es.length ≤ 2 ∧ ow = [] := by
        cases sh1 with
        | loop x y z w t es h l => exact ⟨t, rfl, h, l, rfl⟩
        | when x t es h l => exact ⟨t, rfl, h, l, rfl⟩
        | _ => exact absurd e (by decide +kernel)
      refine ⟨_, rfl, _, rfl, a, _, _, _, rfl, rfl, SqT.of ha1, hat, t, rfl, ⟨_, SqT.of h⟩, fun D nD => lc_tup (K := K) (a := t) (xs := es) (fun i H' => Same H1 H' ∧ H' D = some (.lst (((bss.take i).map fun b => decide (k ∈ b)).map V.bl))) ⟨same_upd nD, upd_same⟩ (fun i H' _ ⟨sm, _⟩ => SqT.of (sm _ _ h)) ?_ ?_⟩
      · rintro i x' H' hi ⟨sm, hD⟩
        obtain ⟨b, hb, hx⟩ := ee.at hi
        have hil := (List.getElem?_eq_some_iff.mp hi).1
        refine ⟨rfl, ?_⟩
        unfold tYes
        dsimp only
        rw [if_pos rfl]
        refine ⟨_, rfl, _, rfl, x', k, b, rfl, hx.tk (same_tk sm), fun H2 s2 => ⟨_, s2 _ _ hD, ?_, same_updN (sm.trans s2) nD, ?_⟩⟩
        · rw [List.length_map, List.length_map, List.length_take]
          exact small1000 (by omega)
        · rw [upd_same, take_snoc hb, List.map_append, List.map_append]
          rfl
      · rintro H' ⟨sm, hD⟩
        rw [ee.len, List.take_length] at hD
        refine ⟨D, _, rfl, SqL.of hD, ?_⟩
        rw [any_mem]
        exact q H' sm
    · cases sh1 with
      | copy q' x j y z =>
        have hb : bss = [] := List.eq_nil_of_length_eq_zero ee.len.symm
        have hm : decide (k ∈ [q', j] ++ bss.flatten) = (decide (V.int (q' : Int) = V.int (k : Int)) || decide (V.int (j : Int) = V.int (k : Int))) := by
          rw [hb, intEq, intEq, ← Bool.decide_or]
          exact decide_eq_decide.mpr (by simp)
        have q1 := q H1 (Same.refl H1)
        rw [hm] at q1
        refine ⟨_, rfl, a, _, _, _, rfl, rfl, SqT.of ha1, rfl, _, rfl, rfl, _, rfl, ite2 (fun e1 => ?_) (fun e1 => ?_)⟩
        · rw [e1, Bool.true_or] at q1
          exact q1
        · refine ⟨_, rfl, a, _, _, _, rfl, rfl, SqT.of ha1, rfl, _, rfl, rfl, ?_⟩
          rw [Bool.eq_false_iff.mpr e1, Bool.false_or] at q1
          exact q1
      | _ => exact absurd e' (by decide +kernel)
    · cases sh1 with
      | put q' x ev b h =>
        have hb : bss = [] := List.eq_nil_of_length_eq_zero ee.len.symm
        have hm : decide (k ∈ (q' :: b) ++ bss.flatten) = (decide (V.int (q' : Int) = V.int (k : Int)) || decide (k ∈ b)) := by
          rw [hb, intEq, ← Bool.decide_or]
          exact decide_eq_decide.mpr (by simp)
        rw [hm] at q
        refine ⟨_, rfl, a, _, _, _, rfl, rfl, SqT.of ha1, rfl, _, rfl, rfl, _, rfl, ite2 (fun e1 => ?_) (fun e1 => ?_)⟩
        · have q1 := q H1 (Same.refl H1)
          rw [e1, Bool.true_or] at q1
          exact q1
        · refine ⟨_, rfl, a, _, _, _, rfl, rfl, SqT.of ha1, rfl, _, rfl, ev, k, b, rfl, h, fun H' sm => ?_⟩
          have q1 := q H' sm
          rw [Bool.eq_false_iff.mpr e1, Bool.false_or] at q1
          exact q1
      | copy q' x j y z => exact absurd (by decide +kernel) e'
      | loop x y z w t es h l => exact absurd (by decide +kernel) e
      | when x t es h l => exact absurd (by decide +kernel) e
end
section
variable {P : Program} {w : World} {K : PySem.W.Frag} {mg : Str → Option Value} {base : Heap}
def Bufs (H : Hp) (d : Addr) (bv : List V) (bfs : List (Str × Int)) : Prop := Each (BufN H d) bv bfs
theorem bufN_kp {d : Addr} {H H' : Hp} (k : Kp d H H') {bv : List V} {bfs : List (Str × Int)} (h : Each (BufN H d) bv bfs) : Each (BufN H' d) bv bfs := h.mono fun v b ⟨p, e1, e2, e3⟩ => ⟨p, e1, e2, k _ _ e2 e3⟩
theorem GoodB.snoc {bfs : List (Str × Int)} {b : Str × Int} (g : GoodB bfs) (h : bfs.length < 10) (h1 : 1 ≤ b.2) (h2 : b.2 ≤ 5) : GoodB (bfs ++ [b]) := by
  have g2 := g.l2
  refine ⟨by rw [List.length_append]; omega, by rw [List.length_append]; show bfs.length + 1 ≤ 10; omega, fun k b' e => ?_, ?_, ?_⟩
  · by_cases hk : k < bfs.length
    · rw [List.getElem?_append_left hk] at e
      exact g.sz k b' e
    · have hlt := (List.getElem?_eq_some_iff.mp e).1
      rw [List.length_append] at hlt
      have ek : k = bfs.length := by
        have : ([b] : List (Str × Int)).length = 1 := rfl
        omega
      subst ek
      rw [List.getElem?_append_right (Nat.le_refl _), Nat.sub_self] at e
      cases e
      exact ⟨h1, h2⟩
  · obtain ⟨z, hz⟩ := g.b0
    exact ⟨z, by rw [List.getElem?_append_left (by omega)]; exact hz⟩
  · obtain ⟨z, hz⟩ := g.b1
    exact ⟨z, by rw [List.getElem?_append_left (by omega)]; exact hz⟩
theorem tkd_lst {H : Hp} {d p : Addr} {o : HO} {ys : List V} (h : H p = some (.lst ys)) {bv : List V} {bfs : List (Str × Int)} (hb : Each (BufN H d) bv bfs) : Each (BufN (upd H p o) d) bv bfs := hb.mono fun v b ⟨q, e1, e2, e3⟩ => ⟨q, e1, e2, tk_lst h _ _ e3⟩
def spProg : Sp := fun vs H Q _ => ∃ (d c : Addr) (b : Bool), vs = [.ref d, .bl b] ∧ DrAt H d c ∧
  ∀ H' p pb py bv bfs ss bss, Kp d H H' → DrAt H' d c → H' p = some (.tup [.ref pb, .ref py]) → pb ≠ d → H' pb = some (.tup bv) → Each (BufN H' d) bv bfs → GoodB bfs → H' py = some (.tup ss) → 0 < ss.length → ss.length ≤ 13 → Each (StH H' 4) ss bss → Q (.ref p) H'
def roleL : List Str := ["near", "main", "in", "near"]
abbrev nPg : List Str := ["d", "set_first", "buffers", "k", "body", "put"]
theorem scPg : FnScope nPg ["d", "set_first"] (defScope sProg) := ⟨rfl, rfl, rfl, by decide +kernel, rfl, by decide +kernel, by decide +kernel⟩
theorem ok_prog {f : Addr} {fd : FuncData} (F : Fun K "_law_program" "_law_program" sProg f fd) (T : Txt42 mg) (cT : Calls P w K mg base CX0 1 "_law_take" ["d", "many"] spTake) (cS : Calls P w K mg base CX0 2 "_law_signed" ["d", "most"] spSigned)
    (cBy : Calls P w K mg base CX0 17 "_law_body" ["d", "buffers", "env", "depth", "many"] (spBody 4)) : FnOk P w K mg base CX0 18 f fd ["d", "set_first"] spProg := by
  obtain ⟨fT, dT, GT, kT, bT, gT⟩ := cT.ex
  obtain ⟨fS, dS, GS, kS, bS, gS⟩ := cS.ex
  obtain ⟨fBy, dBy, GBy, kBy, bBy, gBy⟩ := cBy.ex
  refine F.ok scPg (fun vs H Q E h => ?_) (fun cdv A outer s H vs Q E hr17 h => ?_)
  · obtain ⟨d, c, b, rfl, _⟩ := h
    rfl
  · obtain ⟨d, c, sf, rfl, dr, q⟩ := h
    have hr1 : Room 1 _ := hr17.mono (by omega)
    have hr2 : Room 2 _ := hr17.mono (by omega)
    refine ⟨_, (pss_cons (ps_set (i := 2) scPg.nd rfl (.inl rfl) (pe_lst (pa_cons (pe_tup (pa_cons pe_str (pa_cons (pe_op op_add pe_int (pe_call GT hr1 (by rfl) gT kT bT .nil pass0 (pa_cons (pv 0) (pa_cons pe_int pa_nil)))) pa_nil))) (pa_cons (pe_tup (pa_cons pe_str (pa_cons (pe_op op_add pe_int (pe_call GT hr1 (by rfl) gT kT bT .nil pass0 (pa_cons (pv 0) (pa_cons pe_int pa_nil)))) pa_nil))) pa_nil))))
      (pss_cons (ps_for PassesOwn.never rfl (pi_range1 rfl T.range (pa_cons (pe_call GT hr1 (by rfl) gT kT bT .nil pass0 (pa_cons (pv 0) (pa_cons pe_int pa_nil))) pa_nil)) (pg_name (i := 3) scPg.nd rfl (.inl rfl)) (pss_one (ps_expr (pe_bm PySem.F.plainAttrs_list PySem.F.slot_list_append PySem.F.type_list_append mt_append (pv 2) (pa_cons (pe_tup (pa_cons (pe_ix ix_tup (pe_tup (pa_cons pe_str (pa_cons pe_str (pa_cons pe_str (pa_cons pe_str pa_nil))))) (pe_call GT hr1 (by rfl) gT kT bT .nil pass0 (pa_cons (pv 0) (pa_cons pe_int pa_nil))) (fun _ _ => rfl)) (pa_cons (pe_op op_add pe_int (pe_call GT hr1 (by rfl) gT kT bT .nil pass0 (pa_cons (pv 0) (pa_cons pe_int pa_nil)))) pa_nil))) pa_nil)))))
      (pss_cons (ps_set (i := 4) scPg.nd rfl (.inl rfl) (pe_lst pa_nil))
      (pss_cons (ps_for PassesOwn.never rfl (pi_range1 rfl T.range (pa_cons (pe_callB call_len_seq (by rfl) T.len PySem.boot_len (pa_cons (pv 2) pa_nil)) pa_nil)) (pg_name (i := 3) scPg.nd rfl (.inl rfl)) (pss_one (ps_if (PW.pt (pw_and (pt_cmpR op_ne (pe_ix ix_tup (pe_ix ix_list (pv 2) (pv 3) (fun _ _ => rfl)) pe_int (fun _ _ => rfl)) pe_str (nomark _)) (pw_and1 (pt_val (pv 1))))) (pss_cons (ps_set (i := 5) scPg.nd rfl (.inl rfl) (pe_tup (pa_cons pe_str (pa_cons (pv 3) (pa_cons (pe_tup (pa_cons pe_int (pa_cons (pe_tup (pa_cons (pe_tup (pa_cons pe_int (pa_cons pe_int pa_nil))) pa_nil)) pa_nil))) (pa_cons (pe_tup (pa_cons pe_str (pa_cons (pe_tup (pa_cons (pe_call GS hr2 (by rfl) gS kS bS .nil pass0 (pa_cons (pv 0) (pa_cons pe_int pa_nil))) (pa_cons (pe_tup (pa_cons (pe_tup (pa_cons pe_int (pa_cons pe_int pa_nil))) pa_nil)) pa_nil))) pa_nil))) pa_nil))))))
      (pss_one (ps_expr (pe_bm PySem.F.plainAttrs_list PySem.F.slot_list_append PySem.F.type_list_append mt_append (pv 4) (pa_cons (pe_tup (pa_cons pe_str (pa_cons pe_int (pa_cons pe_int (pa_cons pe_int (pa_cons (pe_ix ix_tup (pe_ix ix_list (pv 2) (pv 3) (fun _ _ => rfl)) pe_int (fun _ _ => rfl)) (pa_cons (pe_tup (pa_cons (pv 5) pa_nil)) pa_nil))))))) pa_nil))))) pss_nil)))
      (pss_cons (ps_set (i := 4) scPg.nd rfl (.inl rfl) (pe_op op_cat (pv 4) (pe_callTy call_list_of (by rfl) T.list (by decide +kernel) (pa_cons (pe_call GBy hr17 (by rfl) gBy kBy bBy .nil pass0 (pa_cons (pv 0) (pa_cons (pv 2) (pa_cons (pe_lst pa_nil) (pa_cons pe_int (pa_cons (pe_op op_add pe_int (pe_call GT hr1 (by rfl) gT kT bT .nil pass0 (pa_cons (pv 0) (pa_cons pe_int pa_nil)))) pa_nil)))))) pa_nil))))
      (pss_one (ps_ret (pe_tup (pa_cons (pe_callTy call_tuple_of (by rfl) T.tuple (by decide +kernel) (pa_cons (pv 2) pa_nil)) (pa_cons (pe_callTy call_tuple_of (by rfl) T.tuple (by decide +kernel) (pa_cons (pv 4) pa_nil)) pa_nil)))))))))), ?_⟩
    have t0 : 0 ≤ sizeLine := by decide
    have t1 : 1 ≤ sizeLine := by decide
    have t2 : 2 ≤ sizeLine := by decide
    have t4 : 4 ≤ sizeLine := by decide
    have t6 : 6 ≤ sizeLine := by decide
    have big : 1000 < sizeLine := by decide
    refine ⟨_, rfl, d, c, 5, rfl, dr, by decide, bnd_le (by decide), fun H1 x1 k1 dr1 x10 x11 => ⟨_, _, rfl, rfl, t2, fun p1 n1 => ?_⟩⟩
    refine ⟨_, rfl, d, c, 5, rfl, dr1.same (same_upd n1), by decide, bnd_le (by decide), fun H2 x2 k2 dr2 x20 x21 => ⟨_, _, rfl, rfl, t2, fun p2 n2 => ⟨t2, fun B nB => ?_⟩⟩⟩
    have np1 := (new_neD dr1 n1).1
    have np2 := (new_neD dr2 n2).1
    have k03 : Kp d H (upd (upd H2 p2 (.tup [.str "main", .int (1 + x2)])) B (.lst [.ref p1, .ref p2])) := ((k1.kp.trans (same_kp (same_upd n1))).trans k2.kp).trans ((same_kp (same_upd n2)).trans (same_kp (same_upd nB)))
    have dr3 : DrAt (upd (upd H2 p2 (.tup [.str "main", .int (1 + x2)])) B (.lst [.ref p1, .ref p2])) d c := (dr2.same (same_upd n2)).same (same_upd nB)
    have hp1 : (upd (upd H2 p2 (.tup [.str "main", .int (1 + x2)])) B (.lst [.ref p1, .ref p2])) p1 = some (.tup [.str "in", .int (1 + x1)]) := same_upd nB _ _ (same_upd n2 _ _ (k2.kp _ _ np1 upd_same))
    have hp2 : (upd (upd H2 p2 (.tup [.str "main", .int (1 + x2)])) B (.lst [.ref p1, .ref p2])) p2 = some (.tup [.str "main", .int (1 + x2)]) := same_upd nB _ _ upd_same
    have hB3 : (upd (upd H2 p2 (.tup [.str "main", .int (1 + x2)])) B (.lst [.ref p1, .ref p2])) B = some (.lst [.ref p1, .ref p2]) := upd_same
    have nBd := (new_neD (dr2.same (same_upd n2)) nB).1
    have nBc := (new_neD (dr2.same (same_upd n2)) nB).2
    have nB0 : H B = none := nonew (((k1.kp.trans (same_kp (same_upd n1))).trans k2.kp).trans (same_kp (same_upd n2))) nBd nB
    generalize (upd (upd H2 p2 (.tup [.str "main", .int (1 + x2)])) B (.lst [.ref p1, .ref p2])) = H3 at *
    have gB : GoodB [(("in" : Str), 1 + x1), (("main" : Str), 1 + x2)] := by
      refine ⟨by simp, by simp, fun k b e => ?_, ⟨_, rfl⟩, ⟨_, rfl⟩⟩
      match k, e with
      | 0, e => cases e; exact ⟨by show 1 ≤ 1 + x1; omega, by show 1 + x1 ≤ 5; omega⟩
      | 1, e => cases e; exact ⟨by show 1 ≤ 1 + x2; omega, by show 1 + x2 ≤ 5; omega⟩
      | k + 2, e => cases e
    clear k1 k2 dr dr1 dr2 n1 n2 nB
    refine ⟨_, rfl, d, c, 3, rfl, dr3, by decide, bnd_le (by decide), fun H4 m k4 dr4 m0 m1 => ⟨m, rfl, by omega, by omega, for_range (lo := 0) (n := m.toNat) (fun i σ H' => ∃ (v3 : Option V) (bv : List V) (bfs : List (Str × Int)), σ = [some (.ref d), some (.bl sf), some (.ref B), v3, none, none] ∧ Kp d H H' ∧ DrAt H' d c ∧ H' B = some (.lst bv) ∧ Each (BufN H' d) bv bfs ∧ GoodB bfs ∧ bfs.length ≤ 2 + i)
      ⟨none, [.ref p1, .ref p2], [(("in" : Str), 1 + x1), (("main" : Str), 1 + x2)], rfl, k03.trans k4.kp, dr4, k4.kp _ _ nBd hB3, ⟨⟨p1, rfl, np1, k4.kp _ _ np1 hp1⟩, ⟨p2, rfl, np2, k4.kp _ _ np2 hp2⟩, True.intro⟩, gB, by simp⟩ ?_ ?_⟩⟩
    · clear k4 dr4 k03 dr3 hB3 hp1 hp2 gB
      rintro i σ H5 hi ⟨v3, bv, bfs, rfl, k5, dr5, hB, hE, gB, hbl⟩
      refine ⟨_, rfl, tyL hB, t4, fun tp ntp => ⟨_, rfl, d, c, 4, rfl, dr5.same (same_upd ntp), by decide, bnd_le (by decide), fun H6 x k6 dr6 x0 x1' => ?_⟩⟩
      obtain ⟨xn, rfl⟩ : ∃ xn : Nat, x = (xn : Int) := ⟨x.toNat, by omega⟩
      have htp := k6.tup (dr5.same (same_upd ntp)) (upd_same (H := H5) (a := tp) (o := .tup (roleL.map V.str)))
      obtain ⟨rl, hrl⟩ : ∃ rl, roleL[xn]? = some rl := ⟨_, List.getElem?_eq_getElem (show xn < 4 by omega)⟩
      refine ⟨tp, _, _, _, rfl, rfl, SqT.of htp, atI_nat (j := xn) (by rw [List.getElem?_map, hrl]; rfl), ?_⟩
      refine ⟨_, rfl, d, c, 5, rfl, dr6, by decide, bnd_le (by decide), fun H7 y k7 dr7 y0 y1 => ⟨_, _, rfl, rfl, t2, fun p np => ?_⟩⟩
      have k57 : Kp d H5 H7 := ((same_kp (same_upd ntp)).trans k6.kp).trans k7.kp
      have npd := (new_neD dr7 np).1
      have k58 : Kp d H5 (upd H7 p (.tup [.str rl, .int (1 + y)])) := k57.trans (same_kp (same_upd np))
      have hB8 := k58 _ _ nBd hB
      have hbl2 := hE.len
      refine ⟨B, _, _, rfl, rfl, hB8, by omega, ?_⟩
      refine ⟨_, bv ++ [.ref p], bfs ++ [(rl, 1 + y)], rfl, (k5.trans k58).upd nB0, (dr7.same (same_upd np)).upd _ nBd nBc, upd_same, tkd_lst hB8 ((bufN_kp k58 hE).append (Each.one ⟨p, rfl, npd, upd_same⟩)), gB.snoc (by omega) (by show 1 ≤ 1 + y; omega) (by show 1 + y ≤ 5; omega), by rw [List.length_append]; show bfs.length + 1 ≤ _; omega⟩
    clear k4 dr4 k03 dr3 hB3 hp1 hp2 gB
    rintro σ H5 ⟨v3, bv, bfs, rfl, k5, dr5, hB, hE, gB, hbl⟩
    refine ⟨t0, fun Y nY => ?_⟩
    obtain ⟨nYd, nYc⟩ := new_neD dr5 nY
    have nYB : Y ≠ B := (ne_of_none hB nY).symm
    have nY0 : H Y = none := nonew k5 nYd nY
    have hbl2 := hE.len
    have s5 := same_upd (o := .lst []) nY
    refine ⟨_, rfl, B, bv, rfl, .inl (SqL.of (s5 _ _ hB)), bv.length, rfl, by omega, by omega, for_range (lo := 0) (n := ((bv.length : Nat) : Int).toNat) (fun i σ H' => ∃ (v3 v5 : Option V) (ss : List V) (bss : List (List Nat)), σ = [some (.ref d), some (.bl sf), some (.ref B), v3, some (.ref Y), v5] ∧ Kp d H H' ∧ DrAt H' d c ∧ H' B = some (.lst bv) ∧ Each (BufN H' d) bv bfs ∧ H' Y = some (.lst ss) ∧ ss.length ≤ i ∧ Each (StH H' 4) ss bss)
      ⟨v3, none, [], [], rfl, k5.trans (same_kp s5), dr5.same s5, s5 _ _ hB, bufN_kp (same_kp s5) hE, upd_same, Nat.le_refl _, True.intro⟩ ?_ ?_⟩
    · clear k5 dr5 hB hE s5 nY
      rintro i σ H6 hi ⟨v3, v5, ss, bss, rfl, k6, dr6, hB, hE, hY, hsl, hS⟩
      obtain ⟨b, hb⟩ : ∃ b, bfs[i]? = some b := ⟨_, List.getElem?_eq_getElem (by omega)⟩
      obtain ⟨v, hv⟩ : ∃ v, bv[i]? = some v := ⟨_, List.getElem?_eq_getElem (by omega)⟩
      obtain ⟨b', hb', pe, rfl, npe, hpe⟩ := hE.at hv
      rw [hb] at hb'
      cases hb'
      rw [Int.zero_add]
      refine ⟨_, rfl, _, rfl, B, _, _, _, rfl, rfl, SqL.of hB, atI_nat hv, pe, _, _, _, rfl, rfl, SqT.of hpe, rfl, rfl, _, rfl, ite2 (fun e => ?_) (fun e => ?_)⟩
      · refine ⟨_, rfl, _, rfl, ?_⟩
        cases sf with
        | false => exact iteF ⟨_, _, ss, bss, rfl, k6, dr6, hB, hE, hY, by omega, hS⟩
        | true =>
        refine iteT ?_
        refine ⟨_, rfl, t2, fun p1 n1 => ⟨t1, fun p2 n2 => ⟨t2, fun p3 n3 => ?_⟩⟩⟩
        refine ⟨_, rfl, d, c, 9, rfl, ((dr6.same (same_upd n1)).same (same_upd n2)).same (same_upd n3), by decide, bnd_le (by decide), fun H7 x k7 dr7 x0 x1 => ⟨t2, fun p4 n4 => ⟨t1, fun p5 n5 => ⟨t2, fun p6 n6 => ⟨t2, fun p7 n7 => ⟨t4, fun p8 n8 => ?_⟩⟩⟩⟩⟩⟩
        have k67 : Kp d H6 H7 := (((same_kp (same_upd n1)).trans (same_kp (same_upd n2))).trans (same_kp (same_upd n3))).trans k7.kp
        have sA := ((same_upd (o := .tup [.int 0, .int 2]) n4).trans (same_upd (o := .tup [.ref p4]) n5)).trans (same_upd (o := .tup [.int x, .ref p5]) n6)
        have sB := same_upd (o := .tup [.str "index", .ref p6]) n7
        have sC := same_upd (o := .tup [.str "put", .int (i : Int), .ref p3, .ref p7]) n8
        have h7 := sC _ _ (upd_same (H := upd (upd (upd H7 p4 (.tup [.int 0, .int 2])) p5 (.tup [.ref p4])) p6 (.tup [.int x, .ref p5])) (a := p7) (o := .tup [.str "index", .ref p6]))
        have h8 := upd_same (H := upd (upd (upd (upd H7 p4 (.tup [.int 0, .int 2])) p5 (.tup [.ref p4])) p6 (.tup [.int x, .ref p5])) p7 (.tup [.str "index", .ref p6])) (a := p8) (o := .tup [.str "put", .int (i : Int), .ref p3, .ref p7])
        have k68 : Kp d H6 (upd (upd (upd (upd (upd H7 p4 (.tup [.int 0, .int 2])) p5 (.tup [.ref p4])) p6 (.tup [.int x, .ref p5])) p7 (.tup [.str "index", .ref p6])) p8 (.tup [.str "put", .int (i : Int), .ref p3, .ref p7])) := k67.trans (same_kp ((sA.trans sB).trans sC))
        have dr8 := ((dr7.same sA).same sB).same sC
        generalize (upd (upd (upd (upd (upd H7 p4 (.tup [.int 0, .int 2])) p5 (.tup [.ref p4])) p6 (.tup [.int x, .ref p5])) p7 (.tup [.str "index", .ref p6])) p8 (.tup [.str "put", .int (i : Int), .ref p3, .ref p7])) = H8 at *
        clear sA sB sC n1 n2 n3 n4 n5 n6 n7 n8
        have hput : ∀ (H9 : Hp) (n : Nat), TK H8 H9 → StH H9 (n + 1) (.ref p8) [i] := fun H9 n k => ⟨p8, _, _, [i], [], [], rfl, k _ _ h8, .put i _ (.ref p7) [] ⟨p7, _, _, [], [], [], rfl, k _ _ h7, .index _, True.intro, rfl⟩, True.intro, rfl⟩
        refine ⟨_, rfl, tyL (k68 _ _ nYd hY), ?_⟩
        refine ⟨_, rfl, _, rfl, B, _, _, _, rfl, rfl, SqL.of (k68 _ _ nBd hB), atI_nat hv, pe, _, _, _, rfl, rfl, SqT.of (k68 _ _ npe hpe), rfl, _, rfl, t1, fun p9 n9 => ⟨t6, fun p10 n10 => ?_⟩⟩
        have s9 := (same_upd (o := .tup [.ref p8]) n9).trans (same_upd (o := .tup [.str "loop", .int 0, .int 0, .int 1, .int b.2, .ref p9]) n10)
        have h9 := same_upd (o := .tup [.str "loop", .int 0, .int 0, .int 1, .int b.2, .ref p9]) n10 _ _ (upd_same (H := H8) (a := p9) (o := .tup [.ref p8]))
        have h10 := upd_same (H := upd H8 p9 (.tup [.ref p8])) (a := p10) (o := .tup [.str "loop", .int 0, .int 0, .int 1, .int b.2, .ref p9])
        have k610 := k68.trans (same_kp s9)
        have dr10 := dr8.same s9
        generalize upd (upd H8 p9 (.tup [.ref p8])) p10 (.tup [.str "loop", .int 0, .int 0, .int 1, .int b.2, .ref p9]) = H10 at *
        have hY10 := k610 _ _ nYd hY
        have kk : TK H10 (upd H10 Y (.lst (ss ++ [.ref p10]))) := tk_lst hY10
        refine ⟨Y, _, _, rfl, rfl, hY10, by omega, ?_⟩
        refine ⟨_, _, ss ++ [.ref p10], bss ++ [[i]], rfl, (k6.trans k610).upd nY0, dr10.upd _ nYd nYc, by rw [upd_ne nYB.symm]; exact k610 _ _ nBd hB, tkd_lst hY10 (bufN_kp k610 hE), upd_same, by rw [List.length_append]; show ss.length + 1 ≤ i + 1; omega, ?_⟩
        refine (eachSt_tk ((k610.tk dr6).trans kk) hS).append (Each.one ⟨p10, _, _, [], [.ref p8], [[i]], rfl, kk _ _ h10, .loop _ _ _ _ p9 [.ref p8] (kk _ _ h9) (by simp), Each.one (hput _ _ ((same_tk s9).trans kk)), by simp⟩)
      · exact iteF ⟨_, _, ss, bss, rfl, k6, dr6, hB, hE, hY, by omega, hS⟩
    · clear k5 dr5 hB hE s5
      rintro σ H6 ⟨v3, v5, ss, bss, rfl, k6, dr6, hB, hE, hY, hsl, hS⟩
      have g10 := gB.l10
      refine ⟨_, rfl, _, rfl, _, rfl, t0, fun l nl => ?_⟩
      have s7 := same_upd (o := .lst []) nl
      have nld := (new_neD dr6 nl).1
      have dr7 := dr6.same s7
      have hl7 : upd H6 l (.lst []) l = some (.lst []) := upd_same
      generalize upd H6 l (.lst []) = H7 at *
      refine ⟨_, rfl, d, c, 3, rfl, dr7, by decide, bnd_le (by decide), fun H8 m k8 dr8 m0 m1 => ⟨_, _, rfl, rfl, ?_⟩⟩
      have k68 : Kp d H6 H8 := (same_kp s7).trans k8.kp
      have hB8 := k68 _ _ nBd hB
      refine ⟨d, c, B, l, bfs, 1 + m, rfl, by decide, by omega, by omega, dr8, ⟨bv, nBd, .inl hB8, bufN_kp k68 hE⟩, gB, ⟨[], k8.kp _ _ nld hl7, nld, Nat.zero_le _, fun v hv => absurd hv (List.not_mem_nil)⟩, fun H9 t s2 b2 k9 dr9 ht nt hsl2 he2 => ?_⟩
      have k69 := k68.trans k9
      refine ⟨t, s2, rfl, .inr (SqT.of ht), fun l2 nl2 => ?_⟩
      have s10 := same_upd (o := .lst s2) nl2
      have hY10 := s10 _ _ (k69 _ _ nYd hY)
      refine ⟨Y, l2, _, _, rfl, rfl, hY10, upd_same, by omega, fun Y2 nY2 => ?_⟩
      have s11 := s10.trans (same_upd (o := .lst (ss ++ s2)) nY2)
      have hB11 := s11 _ _ (k69 _ _ nBd hB)
      have hY11 : upd (upd H9 l2 (.lst s2)) Y2 (.lst (ss ++ s2)) Y2 = some (.lst (ss ++ s2)) := upd_same
      have dr11 := dr9.same s11
      have k611 := k69.trans (same_kp s11)
      have e11 : Each (StH (upd (upd H9 l2 (.lst s2)) Y2 (.lst (ss ++ s2))) 4) (ss ++ s2) (bss ++ b2) := (eachSt_tk (k611.tk dr6) hS).append (eachSt_tk (same_tk s11) he2)
      generalize upd (upd H9 l2 (.lst s2)) Y2 (.lst (ss ++ s2)) = H11 at *
      refine ⟨_, rfl, B, _, rfl, .inl ⟨SqL.of hB11, fun pb npb => ?_⟩⟩
      have sb := same_upd (o := .tup bv) npb
      refine ⟨_, rfl, Y2, _, rfl, .inl ⟨SqL.of (sb _ _ hY11), fun py npy => ⟨t2, fun p np => ?_⟩⟩⟩
      have sy := same_upd (o := .tup (ss ++ s2)) npy
      have sp := same_upd (o := .tup [.ref pb, .ref py]) np
      have s13 := (sb.trans sy).trans sp
      exact q _ p pb py bv bfs (ss ++ s2) (bss ++ b2) ((k6.trans k611).trans (same_kp s13)) (dr11.same s13) upd_same (new_neD dr11 npb).1 (sp _ _ (sy _ _ upd_same)) (bufN_kp (k611.trans (same_kp s13)) hE) gB (sp _ _ upd_same) (by rw [List.length_append]; omega) (by rw [List.length_append]; omega) (eachSt_tk (same_tk s13) e11)
end
section
variable {P : Program} {w : World} {K : PySem.W.Frag} {mg : Str → Option Value} {base : Heap}
theorem eqv_self {d : PyData} (h : SeqAt.shaped d = true) : PyData.eqv d d = true := by
  unfold SeqAt.shaped at h
  rw [Bool.and_eq_true] at h
  exact PySem.SeqAt.eqv_refl d h.1
abbrev rLenS (K : PySem.W.Frag) : List V → Hp → VK → Prop := fun xs H Q => ∃ p ys, xs = [.ref p] ∧ (SqL K H p ys ∨ SqT K H p ys) ∧ Q (.int ys.length) H
def pairD (p : Nat × Nat) : PyData := .tuple [.int p.1, .int p.2]
theorem pairs_lay : ∀ ps : List (Nat × Nat), PyData.canLayAll0 (ps.map pairD) = true
  | [] => by simp [PyData.canLayAll0]
  | p :: ps => by simp [PyData.canLayAll0, PyData.canLay0, pairD, pairs_lay ps]
theorem pairs_depth : ∀ ps : List (Nat × Nat), PyData.depthAll (ps.map pairD) ≤ 5
  | [] => by simp [PyData.depthAll]
  | p :: ps => by
    have := pairs_depth ps
    simp only [List.map_cons, PyData.depthAll, PyData.depth, pairD]
    omega
theorem due_shaped (ps : List (Nat × Nat)) : SeqAt.shaped (.tuple (ps.map pairD)) = true := by
  have h1 := pairs_depth ps
  have h3 : PyData.depth (.tuple (ps.map pairD)) ≤ 64 := by
    simp only [PyData.depth]
    omega
  show (PyData.canLay0 (.tuple (ps.map pairD)) && decide (PyData.depth (.tuple (ps.map pairD)) ≤ 64)) = true
  rw [Bool.and_eq_true]
  exact ⟨by simp [PyData.canLay0, pairs_lay], decide_eq_true h3⟩
theorem dp_lives {H : Hp} : ∀ {ls : List V} {ps : List (Nat × Nat)}, Each (LifeE H) ls ps → DpAll K H ls (ps.map pairD)
  | [], [], _ => .nil
  | v :: vs, p :: ps, h => by
    obtain ⟨⟨q, rfl, hq⟩, h2⟩ := h
    exact .cons (.tup (SqT.of hq) (.cons (.int _) (.cons (.int _) .nil))) (dp_lives h2)
  | [], _ :: _, h => h.elim
  | _ :: _, [], h => h.elim
theorem at_last {xs : List Nat} {x : Nat} : atI ((x :: xs).map natV) (-1) = some (.int ((x :: xs).getLast (List.cons_ne_nil _ _) : Nat)) := by
  have hl : ((x :: xs).map natV).length = xs.length + 1 := by simp
  unfold atI ixN
  rw [if_neg (by decide), hl, if_pos (by omega)]
  have : ((-1 : Int) + ((xs.length + 1 : Nat) : Int)).toNat = xs.length := by omega
  rw [this]
  show ((x :: xs).map natV)[xs.length]? = _
  rw [List.getElem?_map, List.getLast_eq_getElem, List.getElem?_eq_getElem (by simp)]
  rfl
theorem meets_pure {x y z u : Int} (x0 : 0 ≤ x) (x1 : x < 5) (y0 : 0 ≤ y) (z1 : z < 9) (u0 : 0 ≤ u) : (∃ j : Nat, j < (4 + y + 1 - x).toNat ∧ z ≤ x + j ∧ x + j ≤ 8 + u) ↔ (x ≤ 8 + u ∧ z ≤ 4 + y) := by
  constructor
  · rintro ⟨j, h1, h2, h3⟩
    omega
  · rintro ⟨h1, h2⟩
    by_cases hz : x ≤ z
    · exact ⟨(z - x).toNat, by omega, by omega, by omega⟩
    · exact ⟨0, by omega, by omega, by omega⟩
theorem bufE_of {H : Hp} {d : Addr} {bv : List V} {bfs : List (Str × Int)} (h : Each (BufN H d) bv bfs) : Each (BufE H) bv bfs := h.mono fun v b ⟨p, e1, _, e3⟩ => ⟨p, e1, e3⟩
theorem lifeE_len {H : Hp} {ls : List V} {ps : List (Nat × Nat)} (h : Each (LifeE H) ls ps) : ls.length = ps.length := h.len
theorem due_len (bfs : List (Str × Int)) (bss : List (List Nat)) (os : List Nat) (i : Nat) : (due bfs bss os i).length ≤ i := by
  unfold due
  rw [List.length_map]
  exact Nat.le_trans (List.length_filter_le _ _) (by rw [List.length_range]; exact Nat.le_refl _)
theorem ixs_len (bss : List (List Nat)) (i k : Nat) : (ixs bss i k).length ≤ i := by
  unfold ixs
  exact Nat.le_trans (List.length_filter_le _ _) (by rw [List.length_range]; exact Nat.le_refl _)
def spLaw (K : PySem.W.Frag) : Sp := fun vs H Q _ => ∃ (a : Addr) (ns : List Int), vs = [.ref a] ∧ SqL K H a (ns.map V.int) ∧ ns.length ≤ 63 ∧ ∀ H', Q (.bl true) H'
abbrev nLa : List Str := ["script", "d", "buffers", "body", "k", "outs", "due", "found", "first", "last", "actual", "turn", "one", "two", "told", "t"]
theorem scLa : FnScope nLa ["script"] (defScope sLaw) := ⟨rfl, rfl, rfl, by decide +kernel, rfl, by decide +kernel, by decide +kernel⟩
theorem ok_law {f : Addr} {fd : FuncData} (F : Fun K "law" "law" sLaw f fd) (T : Txt42 mg) (cB : Calls P w K mg base CX0 1 "_law_begin" ["script"] (spBegin K)) (cT : Calls P w K mg base CX0 1 "_law_take" ["d", "many"] spTake)
    (cPg : Calls P w K mg base CX0 18 "_law_program" ["d", "set_first"] spProg) (cBy : Calls P w K mg base CX0 17 "_law_body" ["d", "buffers", "env", "depth", "many"] (spBody 4)) (cIi : Calls P w K mg base CX0 9 "_law_in" ["s", "k"] (spIn 4))
    (cLv : Calls P w K mg base CX0 8 "lives" ["program", "outs"] (spLives K)) (cMe : Calls P w K mg base CX0 1 "meet" ["one", "other"] (spMeet K)) : FnOk P w K mg base CX0 19 f fd ["script"] (spLaw K) := by
  obtain ⟨fB, dB, GB, kB, bB, gB⟩ := cB.ex
  obtain ⟨fT, dT, GT, kT, bT, gT⟩ := cT.ex
  obtain ⟨fPg, dPg, GPg, kPg, bPg, gPg⟩ := cPg.ex
  obtain ⟨fBy, dBy, GBy, kBy, bBy, gBy⟩ := cBy.ex
  obtain ⟨fIi, dIi, GIi, kIi, bIi, gIi⟩ := cIi.ex
  obtain ⟨fLv, dLv, GLv, kLv, bLv, gLv⟩ := cLv.ex
  obtain ⟨fMe, dMe, GMe, kMe, bMe, gMe⟩ := cMe.ex
  refine F.ok scLa (fun vs H Q E h => ?_) (fun cdv A outer s H vs Q E hr h => ?_)
  · obtain ⟨a, ns, rfl, _⟩ := h
    rfl
  · obtain ⟨a, ns, rfl, hS, hlen, q⟩ := h
    have hr1 : Room 1 _ := hr.mono (by decide)
    have hr8 : Room 8 _ := hr.mono (by decide)
    have hr9 : Room 9 _ := hr.mono (by decide)
    have hr17 : Room 17 _ := hr.mono (by decide)
    have hr18 : Room 18 _ := hr.mono (by decide)
    refine ⟨_, (pss_cons (ps_set (i := 1) scLa.nd rfl (.inr rfl) (pe_call GB hr1 (by rfl) gB kB bB .nil pass0 (pa_cons (pv 0) pa_nil)))
      (pss_cons (ps_asg (pe_call GPg hr18 (by rfl) gPg kPg bPg .nil pass0 (pa_cons (pv 1) (pa_cons (pe_cmpR op_eq (pe_call GT hr1 (by rfl) gT kT bT .nil pass0 (pa_cons (pv 1) (pa_cons pe_int pa_nil))) pe_int (nomark _)) pa_nil))) (pg_tup rfl (pgs_cons (pg_name (i := 2) scLa.nd rfl (.inr rfl)) (pgs_cons (pg_name (i := 3) scLa.nd rfl (.inr rfl)) pgs_nil))))
      (pss_cons (ps_set (i := 3) scLa.nd rfl (.inr rfl) (pe_op op_catT (pv 3) (pe_call GBy hr17 (by rfl) gBy kBy bBy .nil pass0 (pa_cons (pv 1) (pa_cons (pv 2) (pa_cons (pe_lst pa_nil) (pa_cons pe_int (pa_cons (pe_op op_add pe_int (pe_call GT hr1 (by rfl) gT kT bT .nil pass0 (pa_cons (pv 1) (pa_cons pe_int pa_nil)))) pa_nil))))))))
      (Evl.pss_cut (ps_set (i := 5) scLa.nd rfl (.inl rfl) (pe_callTy call_tuple_of (by rfl) T.tuple (by decide +kernel) (pa_cons (pe_lc (own := [("k", 4)]) (g := (gName 4)) (tt := tYes) (te := (tCall spTake [] E0 (tCons (tVar 1) (tCons (tCB (rLenS K) (tCons (tVar 2) tNil)) tNil)))) rfl scLa.nd (pi_range1 rfl T.range (pa_cons (pe_call GT hr1 (by rfl) gT kT bT .nil pass0 (pa_cons (pv 1) (pa_cons pe_int pa_nil))) pa_nil)) (blkOk_by (N := nLa) (sc := defScope sLaw) (by decide +kernel)) (fun _ _ _ _ _ => (pg_name (i := 4) scLa.nd rfl (.inl rfl))) (fun _ _ _ _ _ => pts_nil) (fun _ _ _ _ _ => (pe_call GT hr1 (by rfl) gT kT bT .nil pass0 (pa_cons (pv 1) (pa_cons (pe_callB call_len_seq (by rfl) T.len PySem.boot_len (pa_cons (pv 2) pa_nil)) pa_nil))))) pa_nil)))
      (pss_cons (ps_set (i := 6) scLa.nd rfl (.inl rfl) (pe_lst pa_nil))
      (pss_cons (ps_for PassesOwn.never rfl (pi_range1 rfl T.range (pa_cons (pe_callB call_len_seq (by rfl) T.len PySem.boot_len (pa_cons (pv 2) pa_nil)) pa_nil)) (pg_name (i := 4) scLa.nd rfl (.inr rfl)) (pss_one (ps_if (pt_cmpR op_eq (pe_ix ix_tup (pe_ix ix_tup (pv 2) (pv 4) (fun _ _ => rfl)) pe_int (fun _ _ => rfl)) pe_str (nomark _)) (pss_cons (ps_setLc (i := 7) (own := [("t", 15)]) (g := (gName 15)) (tt := (tB (tCall (spIn 4) [] E0 (tCons (tOp (rIxT K) (tVar 3) (tVar 15)) (tCons (tVar 4) tNil))))) (te := (tVar 15)) (by rfl) scLa.nd rfl rfl (sw_true rfl rfl rfl (by decide +kernel)) (pi_range1 rfl T.range (pa_cons (pe_callB call_len_seq (by rfl) T.len PySem.boot_len (pa_cons (pv 3) pa_nil)) pa_nil)) (blkOk_by (N := nLa) (sc := defScope sLaw) (by decide +kernel)) (fun _ _ _ _ _ => (pg_name (i := 15) scLa.nd rfl (.inl rfl) (hf := Or.inr rfl))) (fun _ _ _ _ _ => pts_one (pt_val (pe_call GIi hr9 (by rfl) gIi kIi bIi .nil pass0 (pa_cons (pe_ix ix_tup (pv 3) (pv 15) (fun _ _ => rfl)) (pa_cons (pv 4) pa_nil))))) (fun _ _ _ _ _ => (pv 15)))
      (Evl.pss_cut (ps_set (i := 8) scLa.nd rfl (.inl rfl) (pe_ifExp (pt_cmpR op_gt (pe_callB call_len_seq (by rfl) T.len PySem.boot_len (pa_cons (pv 7) pa_nil)) pe_int (nomark _)) (pe_ix ix_list (pv 7) pe_int (fun _ _ => rfl)) pe_int))
      (Evl.pss_cut (ps_set (i := 9) scLa.nd rfl (.inl rfl) (pe_ifExp (pt_cmpR op_in_seq (pv 4) (pv 5) rfl) (pe_callB call_len_seq (by rfl) T.len PySem.boot_len (pa_cons (pv 3) pa_nil)) (pe_ifExp (pt_cmpR op_gt (pe_callB call_len_seq (by rfl) T.len PySem.boot_len (pa_cons (pv 7) pa_nil)) pe_int (nomark _)) (pe_ix ix_list (pv 7) (pe_un un_neg pe_int) (fun _ _ => rfl)) pe_int)))
      (pss_one (ps_expr (pe_bm PySem.F.plainAttrs_list PySem.F.slot_list_append PySem.F.type_list_append mt_append (pv 6) (pa_cons (pe_tup (pa_cons (pv 8) (pa_cons (pv 9) pa_nil))) pa_nil))))))) pss_nil)))
      (pss_cons (ps_set (i := 10) scLa.nd rfl (.inl rfl) (pe_call GLv hr8 (by rfl) gLv kLv bLv .nil pass0 (pa_cons (pe_tup (pa_cons (pv 2) (pa_cons (pv 3) pa_nil))) (pa_cons (pv 5) pa_nil))))
      (Evl.pss_cut (ps_if (PW.pt (pw_or (pt_not (pt_val (pe_callB call_isi (by rfl) T.isi (by decide +kernel) (pa_cons (pv 10) (pa_cons (pe_bltn (v := .ty "tuple") (by rfl) T.tuple (by decide +kernel) rfl) pa_nil))))) (pw_or1 (pt_cmpR (op_neD hr.units) (pv 10) (pe_callTy call_tuple_of (by rfl) T.tuple (by decide +kernel) (pa_cons (pv 6) pa_nil)) (nomark _))))) (pss_one (ps_ret pe_bl)) pss_nil)
      (pss_cons (ps_for PassesOwn.never rfl (pi_range1 rfl T.range (pa_cons pe_int pa_nil)) (pg_name (i := 11) scLa.nd rfl (.inl rfl)) (pss_cons (ps_set (i := 12) scLa.nd rfl (.inl rfl) (pe_tup (pa_cons (pe_call GT hr1 (by rfl) gT kT bT .nil pass0 (pa_cons (pv 1) (pa_cons pe_int pa_nil))) (pa_cons (pe_op op_add pe_int (pe_call GT hr1 (by rfl) gT kT bT .nil pass0 (pa_cons (pv 1) (pa_cons pe_int pa_nil)))) pa_nil))))
      (pss_cons (ps_set (i := 13) scLa.nd rfl (.inr rfl) (pe_tup (pa_cons (pe_call GT hr1 (by rfl) gT kT bT .nil pass0 (pa_cons (pv 1) (pa_cons pe_int pa_nil))) (pa_cons (pe_op op_add pe_int (pe_call GT hr1 (by rfl) gT kT bT .nil pass0 (pa_cons (pv 1) (pa_cons pe_int pa_nil)))) pa_nil))))
      (pss_cons (ps_set (i := 14) scLa.nd rfl (.inl rfl) (pe_call GMe hr1 (by rfl) gMe kMe bMe .nil pass0 (pa_cons (pv 12) (pa_cons (pv 13) pa_nil))))
      (pss_cons (ps_if (PW.pt (pw_or (pt_not (pt_val (pe_callB call_isi (by rfl) T.isi (by decide +kernel) (pa_cons (pv 14) (pa_cons (pe_bltn (v := .ty "bool") (by rfl) T.bool (by decide +kernel) rfl) pa_nil))))) (pw_or1 (pt_cmpR op_ne (pv 14) (pe_cmpR op_gt (pe_callB call_len_seq (by rfl) T.len PySem.boot_len (pa_cons (pe_lc (own := [("t", 15)]) (g := (gName 15)) (tt := (tTest (tChain (rI0 fun i j => .bl (decide (i ≤ j))) (rI0 fun i j => .bl (decide (i ≤ j))) (tOp (rIxT K) (tVar 13) (tC (.int 0))) (tVar 15) (tOp (rIxT K) (tVar 13) (tC (.int 1)))))) (te := (tVar 15)) rfl scLa.nd (pi_range2 rfl T.range (pa_cons (pe_ix ix_tup (pv 12) pe_int (fun _ _ => rfl)) (pa_cons (pe_op op_add (pe_ix ix_tup (pv 12) pe_int (fun _ _ => rfl)) pe_int) pa_nil))) (blkOk_by (N := nLa) (sc := defScope sLaw) (by decide +kernel)) (fun _ _ _ _ _ => (pg_name (i := 15) scLa.nd rfl (.inl rfl) (hf := Or.inr rfl))) (fun _ _ _ _ _ => pts_one (pt_chain op_le op_le (pe_ix ix_tup (pv 13) pe_int (fun _ _ => rfl)) (pv 15) (pe_ix ix_tup (pv 13) pe_int (fun _ _ => rfl)))) (fun _ _ _ _ _ => (pv 15))) pa_nil)) pe_int (nomark _)) (nomark _))))) (pss_one (ps_ret pe_bl)) pss_nil)
      (pss_one (ps_if (PW.pt (pw_or (pt_cmpR op_ne (pe_call GMe hr1 (by rfl) gMe kMe bMe .nil pass0 (pa_cons (pv 13) (pa_cons (pv 12) pa_nil))) (pv 14) (nomark _)) (pw_or1 (pt_not (pt_val (pe_call GMe hr1 (by rfl) gMe kMe bMe .nil pass0 (pa_cons (pv 12) (pa_cons (pv 12) pa_nil)))))))) (pss_one (ps_ret pe_bl)) pss_nil)))))))
      (pss_one (ps_ret pe_bl))))))))))), ?_⟩
    have t0 : 0 ≤ sizeLine := by decide
    have t2 : 2 ≤ sizeLine := by decide
    have big : 1000 < sizeLine := by decide
    refine ⟨_, rfl, a, ns, rfl, hS, hlen, fun H1 d c sm1 nd nc dr => ?_⟩
    refine ⟨_, rfl, _, rfl, d, c, 2, rfl, dr, by decide, bnd_le (by decide), fun H2 sf k2 dr2 _ _ => ⟨rfl, d, c, _, rfl, dr2, fun H3 p pb py bv bfs ss bss k3 dr3 hp npb hpb hE gB hpy hs0 hs1 hSt => ?_⟩⟩
    refine ⟨p, _, rfl, SqT.of hp, rfl, _, _, rfl, _, _, rfl, rfl, ?_⟩
    clear dr dr2 k2 k3 sm1 hp
    refine ⟨_, rfl, _, rfl, _, rfl, t0, fun l nl => ?_⟩
    have s4 := same_upd (o := .lst []) nl
    have nld := (new_neD dr3 nl).1
    have dr4 := dr3.same s4
    have hl4 : upd H3 l (.lst []) l = some (.lst []) := upd_same
    generalize upd H3 l (.lst []) = H4 at *
    have g10 := gB.l10
    have g2 := gB.l2
    refine ⟨_, rfl, d, c, 2, rfl, dr4, by decide, bnd_le (by decide), fun H5 m k5 dr5 m0 m1 => ⟨_, _, rfl, rfl, ?_⟩⟩
    have k35 : Kp d H3 H5 := (same_kp s4).trans k5.kp
    refine ⟨d, c, pb, l, bfs, 1 + m, rfl, by decide, by omega, by omega, dr5, ⟨bv, npb, .inr (k35 _ _ npb hpb), bufN_kp k35 hE⟩, gB, ⟨[], k5.kp _ _ nld hl4, nld, Nat.zero_le _, fun v hv => absurd hv (List.not_mem_nil)⟩, fun H6 t s2 b2 k6 dr6 ht nt hsl2 he2 => ?_⟩
    have k36 := k35.trans k6
    have tk36 := k36.tk dr3
    refine ⟨py, t, ss, s2, rfl, rfl, SqT.of (tk36 _ _ hpy), SqT.of ht, fun e => (by rw [e] at hs0; exact absurd hs0 (by decide)), by omega, fun e => (by rw [e] at hsl2; exact absurd hsl2.symm (by show ¬ (1 + m).toNat = 0; omega)), fun _ Y nY => ?_⟩
    have s7 := same_upd (o := .tup (ss ++ s2)) nY
    have hY : upd H6 Y (.tup (ss ++ s2)) Y = some (.tup (ss ++ s2)) := upd_same
    have dr7 := dr6.same s7
    have hS7 : Each (StH (upd H6 Y (.tup (ss ++ s2))) 4) (ss ++ s2) (bss ++ b2) := (eachSt_tk (tk36.trans (same_tk s7)) hSt).append (eachSt_tk (same_tk s7) he2)
    have hpb7 := s7 _ _ (tk36 _ _ hpb)
    have hE7 := bufE_of (bufN_kp (k36.trans (same_kp s7)) hE)
    have hsl7 : (ss ++ s2).length ≤ 20 := by rw [List.length_append]; omega
    generalize upd H6 Y (.tup (ss ++ s2)) = H7 at *
    generalize ss ++ s2 = st at *
    generalize bss ++ b2 = bst at *
    clear hE hSt he2 tk36 k36 k35 k6 k5 dr6 dr5 dr4 dr3 hl4 ht hpy hpb s4 s7 nl nY
    have hbl := hE7.len
    have hsl := hS7.len
    -- the outputs
    refine ⟨fun σ' H' => ∃ (po : Addr) (os : List Nat), σ' = [some (.ref a), some (.ref d), some (.ref pb), some (.ref Y), none, some (.ref po), none, none, none, none, none, none, none, none, none, none] ∧ Kp d H7 H' ∧ DrAt H' d c ∧ H' po = some (.tup (os.map natV)), ?_, ?_⟩
    · refine ⟨_, rfl, d, c, 3, rfl, dr7, by decide, bnd_le (by decide), fun H8 n k8 dr8 n0 n1 => ⟨n, rfl, by omega, by omega, fun L nL => lc_range (lo := 0) (n := n.toNat) (fun i H' => ∃ os : List Nat, Kp d H8 H' ∧ DrAt H' d c ∧ H' L = some (.lst (os.map natV)) ∧ os.length = i) ⟨[], same_kp (same_upd nL), dr8.same (same_upd nL), upd_same, rfl⟩ ?_ ?_⟩⟩
      · rintro i H9 hi ⟨os, k9, dr9, hL, hol⟩
        obtain ⟨nLd, nLc⟩ := new_neD dr8 nL
        refine ⟨rfl, ?_⟩
        unfold tYes
        dsimp only
        rw [if_pos rfl]
        refine ⟨_, rfl, _, rfl, pb, bv, rfl, .inr (SqT.of ((k8.kp.trans k9).tk dr7 _ _ hpb7)), d, c, _, rfl, dr9, by omega, bnd_le (by omega), fun H10 v k10 dr10 v0 v1 => ⟨_, k10.kp _ _ nLd hL, ?_, os ++ [v.toNat], (k9.trans k10.kp).upd nL, dr10.upd _ nLd nLc, ?_, by rw [List.length_append, hol]; rfl⟩⟩
        · rw [List.length_map, hol]
          exact small1000 (by omega)
        · rw [upd_same, List.map_append]
          show some (HO.lst (_ ++ [V.int v])) = some (HO.lst (_ ++ [V.int (v.toNat : Nat)]))
          rw [Int.toNat_of_nonneg v0]
      · rintro H9 ⟨os, k9, dr9, hL, hol⟩
        refine ⟨L, _, rfl, .inl ⟨SqL.of hL, fun po npo => ?_⟩⟩
        exact ⟨po, os, rfl, (k8.kp.trans k9).trans (same_kp (same_upd npo)), dr9.same (same_upd npo), upd_same⟩
    rintro σ' H8 ⟨po, os, rfl, k8, dr8, hpo⟩
    have tk8 := k8.tk dr7
    replace hpb7 := tk8 _ _ hpb7
    replace hE7 := bufE_tk tk8 hE7
    replace hY := tk8 _ _ hY
    replace hS7 := eachSt_tk tk8 hS7
    clear tk8 k8 dr7
    refine ⟨t0, fun D nD => ?_⟩
    have nD0 := nD
    have s9 := same_upd (o := .lst []) nD
    obtain ⟨nDd, nDc⟩ := new_neD dr8 nD
    refine ⟨_, rfl, pb, bv, rfl, .inr (SqT.of (s9 _ _ hpb7)), bv.length, rfl, by omega, by omega, for_range (lo := 0) (n := ((bv.length : Nat) : Int).toNat) (fun i σ H' => ∃ (v4 v7 v8 v9 v15 : Option V) (ls : List V), σ = [some (.ref a), some (.ref d), some (.ref pb), some (.ref Y), v4, some (.ref po), some (.ref D), v7, v8, v9, none, none, none, none, none, v15] ∧ Same H8 H' ∧ H' D = some (.lst ls) ∧ Each (LifeE H') ls (due bfs bst os i))
      ⟨none, none, none, none, none, [], rfl, s9, upd_same, True.intro⟩ ?_ ?_⟩
    · rintro i σ H9 hi ⟨v4, v7, v8, v9, v15, ls, rfl, sm, hD, hL⟩
      obtain ⟨v, hv⟩ : ∃ v, bv[i]? = some v := ⟨_, List.getElem?_eq_getElem (by omega)⟩
      obtain ⟨b, hb, pe, rfl, hpe⟩ := hE7.at hv
      have hmb : mainB bfs i = decide (b.1 = "main") := by unfold mainB; rw [List.getD_eq_getElem?_getD, hb]; rfl
      have hds := due_succ bfs bst os i
      rw [hmb] at hds
      have hll := hL.len
      have hdl := due_len bfs bst os i
      rw [Int.zero_add]
      refine ⟨_, rfl, _, rfl, pb, _, _, _, rfl, rfl, SqT.of (sm _ _ hpb7), atI_nat hv, pe, _, _, _, rfl, rfl, SqT.of (sm _ _ hpe), rfl, rfl, _, rfl, ite2 (fun e => ?_) (fun e => ?_)⟩
      · rw [show decide (V.str b.1 = V.str "main") = decide (b.1 = "main") from decS] at e
        rw [if_pos e] at hds
        refine ⟨_, rfl, Y, st, rfl, .inr (SqT.of (sm _ _ hY)), st.length, rfl, by omega, by omega, fun L nL => lc_range (lo := 0) (n := ((st.length : Nat) : Int).toNat) (fun j H' => Same H9 H' ∧ H' L = some (.lst ((ixs bst j i).map natV))) ⟨same_upd nL, upd_same⟩ ?_ ?_⟩
        · rintro j H10 hj ⟨s10, hL10⟩
          obtain ⟨x, hx⟩ : ∃ x, st[j]? = some x := ⟨_, List.getElem?_eq_getElem (by omega)⟩
          obtain ⟨bj, hbj, hxj⟩ := hS7.at hx
          have hgd : bst.getD j [] = bj := by rw [List.getD_eq_getElem?_getD, hbj]; rfl
          have hxs := ixs_succ bst j i
          rw [hgd] at hxs
          have hil := ixs_len bst j i
          rw [Int.zero_add]
          refine ⟨rfl, _, rfl, _, rfl, Y, _, _, _, rfl, rfl, SqT.of ((sm.trans s10) _ _ hY), atI_nat hx, _, rfl, x, i, bj, rfl, hxj.tk (same_tk (sm.trans s10)), fun H11 s11 => ⟨_, rfl, ite2 (fun e => ?_) (fun e => ?_)⟩⟩
          · refine ⟨_, rfl, _, s11 _ _ hL10, by rw [List.length_map]; omega, same_updN (s10.trans s11) nL, ?_⟩
            rw [upd_same, hxs, if_pos (of_decide_eq_true e), List.map_append]
            rfl
          · refine ⟨s10.trans s11, ?_⟩
            rw [hxs, if_neg (fun z => e (decide_eq_true z)), List.append_nil]
            exact s11 _ _ hL10
        rintro H10 ⟨s10, hL10⟩
        rw [Int.toNat_natCast, hsl] at hL10
        have hD10 := s10 _ _ hD
        have sm10 := sm.trans s10
        have lf : life bst os i = (((fl (ixs bst bst.length i)).getD (0, 0)).1, if i ∈ os then bst.length else ((fl (ixs bst bst.length i)).getD (0, 0)).2) := rfl
        generalize hxx : ixs bst bst.length i = xs at hL10 lf
        refine ⟨fun σ' H' => σ' = [some (.ref a), some (.ref d), some (.ref pb), some (.ref Y), some (.int (i : Nat)), some (.ref po), some (.ref D), some (.ref L), some (.int (((fl xs).getD (0, 0)).1 : Nat)), v9, none, none, none, none, none, v15] ∧ H' = H10, ?_, ?_⟩
        · cases xs with
          | nil => exact ⟨_, rfl, L, _, rfl, .inl (SqL.of hL10), _, _, rfl, rfl, _, rfl, iteF ⟨rfl, rfl⟩⟩
          | cons x xs =>
            refine ⟨_, rfl, L, _, rfl, .inl (SqL.of hL10), _, _, rfl, rfl, _, rfl, ?_⟩
            rw [decide_eq_true (show (0 : Int) < ((((x :: xs).map natV).length : Nat) : Int) by rw [List.length_map, List.length_cons]; omega)]
            exact iteT ⟨_, rfl, L, _, _, _, rfl, rfl, SqL.of hL10, atI_zero, rfl, rfl⟩
        rintro σ' H' ⟨rfl, eH⟩
        rw [eH]
        clear eH H'
        refine ⟨fun σ' H' => σ' = [some (.ref a), some (.ref d), some (.ref pb), some (.ref Y), some (.int (i : Nat)), some (.ref po), some (.ref D), some (.ref L), some (.int (((fl xs).getD (0, 0)).1 : Nat)), some (.int ((if i ∈ os then bst.length else ((fl xs).getD (0, 0)).2 : Nat))), none, none, none, none, none, v15] ∧ H' = H10, ?_, ?_⟩
        · refine ⟨_, rfl, _, rfl, po, _, rfl, .inr (SqT.of (sm10 _ _ hpo)), rfl, flat_natV os, _, rfl, ?_⟩
          show (if (if false = true then !inV _ _ else inV (.int (i : Int)) (os.map natV)) = true then _ else _)
          rw [if_neg Bool.false_ne_true, inV_natV]
          by_cases ho : i ∈ os
          · rw [if_pos (decide_eq_true ho)]
            refine ⟨_, rfl, Y, _, rfl, .inr (SqT.of (sm10 _ _ hY)), ?_, rfl⟩
            rw [if_pos ho, hsl]
            rfl
          · rw [if_neg (fun z => ho (of_decide_eq_true z))]
            rw [if_neg ho]
            cases xs with
            | nil => exact ⟨_, rfl, L, _, rfl, .inl (SqL.of hL10), _, _, rfl, rfl, _, rfl, iteF ⟨rfl, rfl⟩⟩
            | cons x xs =>
              refine ⟨_, rfl, L, _, rfl, .inl (SqL.of hL10), _, _, rfl, rfl, _, rfl, ?_⟩
              rw [decide_eq_true (show (0 : Int) < ((((x :: xs).map natV).length : Nat) : Int) by rw [List.length_map, List.length_cons]; omega)]
              exact iteT ⟨_, rfl, _, rfl, L, _, _, _, rfl, rfl, SqL.of hL10, at_last, rfl, rfl⟩
        rintro σ' H' ⟨rfl, eH⟩
        rw [eH]
        clear eH H'
        refine ⟨_, rfl, tyL hD10, _, rfl, _, rfl, t2, fun p3 np3 => ?_⟩
        have s3 := same_upd (o := .tup [.int (((fl xs).getD (0, 0)).1 : Nat), .int ((if i ∈ os then bst.length else ((fl xs).getD (0, 0)).2 : Nat))]) np3
        have kk := (same_tk s3).trans (tk_lst (s3 _ _ hD10) (o := .lst (ls ++ [.ref p3])))
        refine ⟨D, _, _, rfl, rfl, s3 _ _ hD10, by omega, ?_⟩
        refine ⟨_, _, _, _, _, ls ++ [.ref p3], rfl, same_updN (sm10.trans s3) nD0, upd_same, ?_⟩
        rw [hds]
        refine (lifeE_tk ((same_tk s10).trans kk) hL).append (Each.one ⟨p3, rfl, ?_⟩)
        rw [lf]
        exact tk_lst (s3 _ _ hD10) _ _ upd_same
      · rw [show decide (V.str b.1 = V.str "main") = decide (b.1 = "main") from decS] at e
        rw [if_neg e, List.append_nil] at hds
        exact ⟨_, _, _, _, _, ls, rfl, sm, hD, by rw [hds]; exact hL⟩
    · rintro σ H9 ⟨v4, v7, v8, v9, v15, ls, rfl, sm, hD, hL⟩
      rw [Int.toNat_natCast, hbl] at hL
      refine ⟨_, rfl, _, rfl, t2, fun pg npg => ⟨_, rfl, ?_⟩⟩
      have s10 := same_upd (o := .tup [.ref pb, .ref Y]) npg
      have sm10 := sm.trans s10
      refine ⟨pg, po, pb, Y, bv, st, bfs, bst, os, rfl, upd_same, sm10 _ _ hpb7, bufE_tk (same_tk sm10) hE7, g10, sm10 _ _ hY, eachSt_tk (same_tk sm10) hS7, hsl7, sm10 _ _ hpo, fun H11 qa l2 s11 hqa hL2 => ?_⟩
      have hD11 := s11 _ _ (s10 _ _ hD)
      have hL11 := lifeE_tk (same_tk (s10.trans s11)) hL
      have dr11 := dr8.same (sm10.trans s11)
      refine ⟨fun σ' H' => ∃ (v4 v7 v8 v9 v15 : Option V), σ' = [some (.ref a), some (.ref d), some (.ref pb), some (.ref Y), v4, some (.ref po), some (.ref D), v7, v8, v9, some (.ref qa), none, none, none, none, v15] ∧ DrAt H' d c, ?_, ?_⟩
      · refine ⟨_, rfl, _, _, _, _, true, rfl, ClsV.ty "tuple", TyX.base (TyOf.tup hqa), kit_ty (by decide +kernel), _, rfl, iteF ?_⟩
        refine ⟨_, rfl, _, rfl, D, _, rfl, .inl ⟨SqL.of hD11, fun pd npd => ?_⟩⟩
        have s12 := same_upd (o := .tup ls) npd
        refine ⟨_, _, .tup (SqT.of (s12 _ _ hqa)) (dp_lives (lifeE_tk (same_tk s12) hL2)), .tup (SqT.of upd_same) (dp_lives (lifeE_tk (same_tk s12) hL11)), due_shaped _, due_shaped _, ?_⟩
        rw [eqv_self (due_shaped _)]
        exact ⟨_, rfl, iteF ⟨_, _, _, _, _, rfl, dr11.same s12⟩⟩
      clear hD hL hD11 hL11 dr11 hqa hL2
      rintro σ' H12 ⟨v4, v7, v8, v9, v15, rfl, dr12⟩
      refine ⟨3, rfl, by decide, by decide, for_range (lo := 0) (n := 3) (fun i σ H' => ∃ (v11 v12 v13 v14 v15 : Option V), σ = [some (.ref a), some (.ref d), some (.ref pb), some (.ref Y), v4, some (.ref po), some (.ref D), v7, v8, v9, some (.ref qa), v11, v12, v13, v14, v15] ∧ DrAt H' d c) ⟨none, none, none, none, v15, rfl, dr12⟩ ?_ ?_⟩
      · clear dr12 v15
        rintro i σ H1 hi ⟨v11, v12, v13, v14, v15, rfl, dr⟩
        refine ⟨_, rfl, d, c, 5, rfl, dr, by decide, bnd_le (by decide), fun H2 x k2 dr2 x0 x1 => ⟨_, rfl, d, c, 5, rfl, dr2, by decide, bnd_le (by decide), fun H3 y k3 dr3 y0 y1 => ⟨_, _, rfl, rfl, t2, fun p1 n1 => ?_⟩⟩⟩
        have dr4 := dr3.same (same_upd (o := .tup [.int x, .int (4 + y)]) n1)
        have n1d := (new_neD dr3 n1).1
        have h1 := upd_same (H := H3) (a := p1) (o := .tup [.int x, .int (4 + y)])
        generalize upd H3 p1 (.tup [.int x, .int (4 + y)]) = H4 at *
        refine ⟨_, rfl, d, c, 9, rfl, dr4, by decide, bnd_le (by decide), fun H5 z k5 dr5 z0 z1 => ⟨_, rfl, d, c, 5, rfl, dr5, by decide, bnd_le (by decide), fun H6 u k6 dr6 u0 u1 => ⟨_, _, rfl, rfl, t2, fun p2 n2 => ?_⟩⟩⟩
        have dr7 := dr6.same (same_upd (o := .tup [.int z, .int (8 + u)]) n2)
        have h17 := same_upd (o := .tup [.int z, .int (8 + u)]) n2 _ _ (k6.tup dr5 (k5.tup dr4 h1))
        have h27 := upd_same (H := H6) (a := p2) (o := .tup [.int z, .int (8 + u)])
        generalize upd H6 p2 (.tup [.int z, .int (8 + u)]) = H7 at *
        clear k2 k3 k5 k6 dr dr2 dr3 dr4 dr5 dr6 n1 n2 h1
        refine ⟨_, rfl, _, rfl, p1, p2, x, 4 + y, z, 8 + u, rfl, SqT.of h17, SqT.of h27, ?_⟩
        refine ⟨_, rfl, _, _, _, _, true, rfl, ClsV.ty "bool", TyX.base (TyOf.bl _), kit_ty (by decide +kernel), _, rfl, iteF ?_⟩
        refine ⟨_, rfl, _, rfl, p1, _, _, _, rfl, rfl, SqT.of h17, rfl, _, rfl, p1, _, _, _, rfl, rfl, SqT.of h17, rfl, _, _, rfl, rfl, _, _, rfl, ⟨by omega, by omega, by omega, by omega⟩, fun L nL => lc_range (lo := x) (n := (4 + y + 1 - x).toNat) (fun i H' => ∃ ts : List Int, Same H7 H' ∧ H' L = some (.lst (ts.map V.int)) ∧ ts.length ≤ i ∧ (0 < ts.length ↔ ∃ j : Nat, j < i ∧ z ≤ x + j ∧ x + j ≤ 8 + u)) ⟨[], same_upd nL, upd_same, Nat.le_refl _, ⟨fun h => absurd h (by decide), fun ⟨j, h, _⟩ => absurd h (Nat.not_lt_zero _)⟩⟩ ?_ ?_⟩
        · rintro j H8 hj ⟨ts, s8, hL, htl, hti⟩
          refine ⟨rfl, ?_⟩
          have h28 := s8 _ _ h27
          have yes : z ≤ x + j → x + j ≤ 8 + u → ∃ acc, H8 L = some (HO.lst acc) ∧ acc.length < sizeLine ∧ ∃ ts : List Int, Same H7 (upd H8 L (.lst (acc ++ [.int (x + j)]))) ∧ (upd H8 L (.lst (acc ++ [.int (x + j)]))) L = some (.lst (ts.map V.int)) ∧ ts.length ≤ j + 1 ∧ (0 < ts.length ↔ ∃ j' : Nat, j' < j + 1 ∧ z ≤ x + j' ∧ x + j' ≤ 8 + u) := fun e1 e2 => by
            refine ⟨_, hL, by rw [List.length_map]; exact small1000 (by omega), ts ++ [x + j], same_updN s8 nL, by rw [upd_same, List.map_append]; rfl, by rw [List.length_append]; show ts.length + 1 ≤ j + 1; omega, ?_⟩
            exact ⟨fun _ => ⟨j, by omega, e1, e2⟩, fun _ => by rw [List.length_append]; show 0 < ts.length + 1; omega⟩
          have no : ¬ (z ≤ x + j ∧ x + j ≤ 8 + u) → ∃ ts : List Int, Same H7 H8 ∧ H8 L = some (.lst (ts.map V.int)) ∧ ts.length ≤ j + 1 ∧ (0 < ts.length ↔ ∃ j' : Nat, j' < j + 1 ∧ z ≤ x + j' ∧ x + j' ≤ 8 + u) := fun e => by
            refine ⟨ts, s8, hL, by omega, hti.trans ⟨fun ⟨j', h, h'⟩ => ⟨j', by omega, h'⟩, fun ⟨j', h, h'⟩ => ⟨j', ?_, h'⟩⟩⟩
            rcases Nat.lt_or_ge j' j with hl | hl
            · exact hl
            · have ej : j' = j := by omega
              subst ej
              exact absurd h' e
          refine ⟨_, rfl, p2, _, _, _, rfl, rfl, SqT.of h28, rfl, _, rfl, _, _, rfl, rfl, _, rfl, ite2 (fun e1 => ?_) (fun e1 => ?_)⟩
          · have e1 : z ≤ x + j := of_decide_eq_true e1
            refine ⟨_, rfl, p2, _, _, _, rfl, rfl, SqT.of h28, rfl, _, _, rfl, rfl, _, rfl, ite2 (fun e2 => ?_) (fun e2 => ?_)⟩
            · exact ⟨_, rfl, yes e1 (of_decide_eq_true e2)⟩
            · exact no fun h => e2 (decide_eq_true h.2)
          · exact ⟨_, rfl, iteF (no fun h => e1 (decide_eq_true h.1))⟩
        · rintro H8 ⟨ts, s8, hL, htl, hti⟩
          have key : decide ((0 : Int) < (ts.length : Int)) = (decide (x ≤ 8 + u) && decide (z ≤ 4 + y)) := by
            rw [← Bool.decide_and]
            have hp := hti.trans (meets_pure x0 x1 y0 z1 u0)
            exact decide_eq_decide.mpr ⟨fun h => hp.mp (by omega), fun h => Int.ofNat_lt.mpr (hp.mpr h)⟩
          have h18 := s8 _ _ h17
          have h28 := s8 _ _ h27
          have dr8 := dr7.same s8
          have e1 : (!decide (V.bl (decide (x ≤ 8 + u) && decide (z ≤ 4 + y)) = V.bl (decide ((0 : Int) < (((ts.map V.int).length : Nat) : Int))))) = false := by
            rw [List.length_map, key, decide_eq_true rfl]
            rfl
          refine ⟨L, _, rfl, .inl (SqL.of hL), _, _, rfl, rfl, rfl, _, rfl, ?_⟩
          show (if (!decide (V.bl (decide (x ≤ 8 + u) && decide (z ≤ 4 + y)) = V.bl (decide ((0 : Int) < (((ts.map V.int).length : Nat) : Int))))) = true then _ else _)
          rw [e1]
          refine iteF ?_
          have e2 : (!decide (V.bl (decide (z ≤ 4 + y) && decide (x ≤ 8 + u)) = V.bl (decide (x ≤ 8 + u) && decide (z ≤ 4 + y)))) = false := by
            rw [Bool.and_comm, decide_eq_true rfl]
            rfl
          refine ⟨_, rfl, _, rfl, p2, p1, z, 8 + u, x, 4 + y, rfl, SqT.of h28, SqT.of h18, _, rfl, rfl, _, rfl, ?_⟩
          show (if (!decide (V.bl (decide (z ≤ 4 + y) && decide (x ≤ 8 + u)) = V.bl (decide (x ≤ 8 + u) && decide (z ≤ 4 + y)))) = true then _ else _)
          rw [e2]
          refine iteF ⟨_, rfl, _, rfl, p1, p1, x, 4 + y, x, 4 + y, rfl, SqT.of h18, SqT.of h18, _, rfl, ?_⟩
          rw [decide_eq_true (show x ≤ 4 + y by omega)]
          exact iteF ⟨_, _, _, _, _, rfl, dr8⟩
      · rintro σ H13 ⟨v11, v12, v13, v14, v15, rfl, _⟩
        exact q _
end
section
variable {P : Program} {w : World} {K : PySem.W.Frag} {mg : Str → Option Value} {base : Heap}
theorem all_bodies {fb fs : Addr} {db ds : FuncData} (FB : Fun K "_law_body" "_law_body" sBody fb db) (FS : Fun K "_law_statement" "_law_statement" sStmt fs ds) (T : Txt42 mg) (cT : Calls P w K mg base CX0 1 "_law_take" ["d", "many"] spTake) (cS : Calls P w K mg base CX0 2 "_law_signed" ["d", "most"] spSigned)
    (cF : Calls P w K mg base CX0 2 "_law_form" ["d", "env", "size"] spForm) (cTe : Calls P w K mg base CX0 3 "_law_test" ["d", "env"] spTest) (cCo : Calls P w K mg base CX0 3 "_law_copy" ["d", "buffers", "env"] spCopy) (cEx : Calls P w K mg base CX0 7 "_law_expr" ["d", "buffers", "env", "level"] (spExpr 3))
    (kB : PySem.W.keepIn K (.ref fb) = true) (bB : Binds K db ["d", "buffers", "env", "depth", "many"] []) (gB : mg "_law_body" = some (.ref fb)) (kS : PySem.W.keepIn K (.ref fs) = true) (bS : Binds K ds ["d", "buffers", "env", "depth"] []) (gS : mg "_law_statement" = some (.ref fs)) :
    ∀ n : Nat, n ≤ 4 → Calls P w K mg base CX0 (2 * n + 9) "_law_body" ["d", "buffers", "env", "depth", "many"] (spBody n)
  | 0, _ => ⟨fb, db, ⟨fun vs H Q E h => (by obtain ⟨_, _, _, _, _, _, _, h, _⟩ := h; exact absurd h (by decide)), fun A o s H args us vs Q E _ _ _ _ h => (by obtain ⟨_, _, _, _, _, _, _, h, _⟩ := h; exact absurd h (by decide))⟩, kB, bB, gB⟩
  | n + 1, h => ⟨fb, db, ok_body FB T h ⟨fs, ds, ok_stm FS T (by omega) cT cS cF cTe cCo cEx (all_bodies FB FS T cT cS cF cTe cCo cEx kB bB gB kS bS gS n (by omega)), kS, bS, gS⟩, kB, bB, gB⟩
end
/-! ### what the top has written, the head -/
theorem all_mk {l : PySem.W.OpenLaw} {w : World} {K : PySem.W.Frag} {h : Heap} {mg : Str → Option Value} {fa f1 f2 f3 f4 f5 f6 f7 f8 f9 f10 f11 f12 f13 f14 f15 f16 f17 f18 f19 f20 f21 f22 f23 f24 cE cS : Addr} (X : K.In h) (G : h.Ns mainGlobals mg) (hfa : mg "law" = some (.ref fa))
    {od1 an1 od2 an2 od3 an3 od4 an4 od5 an5 od6 an6 od7 an7 od8 an8 od9 an9 od10 an10 od11 an11 od12 an12 od13 an13 od14 an14 od15 an15 od16 an16 od17 an17 od18 an18 od19 an19 od20 an20 od21 an21 od22 an22 od23 an23 od24 an24 : Option Addr} {sl1 sl2 sl3 sl4 sl5 sl6 sl7 sl8 sl9 sl10 sl11 sl12 sl13 sl14 sl15 sl16 sl17 sl18 sl19 sl20 sl21 sl22 sl23 sl24 : Array (Option Value)} {oc1 kV1 dc1 pm1 cd1 ct1 oc2 kV2 dc2 pm2 cd2 ct2 oc3 kV3 dc3 pm3 cd3 ct3 oc4 kV4 dc4 pm4 cd4 ct4 oc5 kV5 dc5 pm5 cd5 ct5 oc6 kV6 dc6 pm6 cd6 ct6 oc7 kV7 dc7 pm7 cd7 ct7 oc8 kV8 dc8 pm8 cd8 ct8 oc9 kV9 dc9 pm9 cd9 ct9 oc10 kV10 dc10 pm10 cd10 ct10 oc11 kV11 dc11 pm11 cd11 ct11 oc12 kV12 dc12 pm12 cd12 ct12 oc13 kV13 dc13 pm13 cd13 ct13 oc14 kV14 dc14 pm14 cd14 ct14 oc15 kV15 dc15 pm15 cd15 ct15 oc16 kV16 dc16 pm16 cd16 ct16 oc17 kV17 dc17 pm17 cd17 ct17 oc18 kV18 dc18 pm18 cd18 ct18 oc19 kV19 dc19 pm19 cd19 ct19 oc20 kV20 dc20 pm20 cd20 ct20 oc21 kV21 dc21 pm21 cd21 ct21 oc22 kV22 dc22 pm22 cd22 ct22 oc23 kV23 dc23 pm23 cd23 ct23 oc24 kV24 dc24 pm24 cd24 ct24 : Value}
    {escE : Array DictEntry} {ncE : Nat} {escS : Array DictEntry} {ncS : Nat} {kcE_number : Tok} {kcE_index : Tok} {kcE_load : Tok} {kcE_pick : Tok} {kcE_apply : Tok} {kcE_guard : Tok} {kcS_loop : Tok} {kcS_when : Tok} {kcS_put : Tok} {kcS_copy : Tok}
    (a1 : PySem.W.nsIn K mainGlobals "body_of" = some (some (.ref f1))) (l1 : K.lookup f1 = some ⟨oc1, od1, .func (PySem.W.fnOf "body_of" "body_of" (defArgs sBodyOf) (defBody sBodyOf) (defScope sBodyOf) .none kV1 dc1 pm1 an1 cd1 ct1), sl1⟩) (c1 : PySem.W.codeIn K cd1 "body_of" = true) (k1 : PySem.W.keepIn K (.ref f1) = true)
    (a2 : PySem.W.nsIn K mainGlobals "inner_of" = some (some (.ref f2))) (l2 : K.lookup f2 = some ⟨oc2, od2, .func (PySem.W.fnOf "inner_of" "inner_of" (defArgs sInner) (defBody sInner) (defScope sInner) .none kV2 dc2 pm2 an2 cd2 ct2), sl2⟩) (c2 : PySem.W.codeIn K cd2 "inner_of" = true) (k2 : PySem.W.keepIn K (.ref f2) = true)
    (a3 : PySem.W.nsIn K mainGlobals "all_statements" = some (some (.ref f3))) (l3 : K.lookup f3 = some ⟨oc3, od3, .func (PySem.W.fnOf "all_statements" "all_statements" (defArgs sAllS) (defBody sAllS) (defScope sAllS) .none kV3 dc3 pm3 an3 cd3 ct3), sl3⟩) (c3 : PySem.W.codeIn K cd3 "all_statements" = true) (k3 : PySem.W.keepIn K (.ref f3) = true)
    (a4 : PySem.W.nsIn K mainGlobals "all_parts" = some (some (.ref f4))) (l4 : K.lookup f4 = some ⟨oc4, od4, .func (PySem.W.fnOf "all_parts" "all_parts" (defArgs sAllP) (defBody sAllP) (defScope sAllP) .none kV4 dc4 pm4 an4 cd4 ct4), sl4⟩) (c4 : PySem.W.codeIn K cd4 "all_parts" = true) (k4 : PySem.W.keepIn K (.ref f4) = true)
    (a5 : PySem.W.nsIn K mainGlobals "parts_of_statement" = some (some (.ref f5))) (l5 : K.lookup f5 = some ⟨oc5, od5, .func (PySem.W.fnOf "parts_of_statement" "parts_of_statement" (defArgs sParts) (defBody sParts) (defScope sParts) .none kV5 dc5 pm5 an5 cd5 ct5), sl5⟩) (c5 : PySem.W.codeIn K cd5 "parts_of_statement" = true) (k5 : PySem.W.keepIn K (.ref f5) = true)
    (a6 : PySem.W.nsIn K mainGlobals "_name_of" = some (some (.ref f6))) (l6 : K.lookup f6 = some ⟨oc6, od6, .func (PySem.W.fnOf "_name_of" "_name_of" (defArgs sName) (defBody sName) (defScope sName) .none kV6 dc6 pm6 an6 cd6 ct6), sl6⟩) (c6 : PySem.W.codeIn K cd6 "_name_of" = true) (k6 : PySem.W.keepIn K (.ref f6) = true)
    (a7 : PySem.W.nsIn K mainGlobals "_check_length" = some (some (.ref f7))) (l7 : K.lookup f7 = some ⟨oc7, od7, .func (PySem.W.fnOf "_check_length" "_check_length" (defArgs sCheckL) (defBody sCheckL) (defScope sCheckL) .none kV7 dc7 pm7 an7 cd7 ct7), sl7⟩) (c7 : PySem.W.codeIn K cd7 "_check_length" = true) (k7 : PySem.W.keepIn K (.ref f7) = true)
    (a8 : PySem.W.nsIn K mainGlobals "lives" = some (some (.ref f8))) (l8 : K.lookup f8 = some ⟨oc8, od8, .func (PySem.W.fnOf "lives" "lives" (defArgs sLives) (defBody sLives) (defScope sLives) .none kV8 dc8 pm8 an8 cd8 ct8), sl8⟩) (c8 : PySem.W.codeIn K cd8 "lives" = true) (k8 : PySem.W.keepIn K (.ref f8) = true)
    (a9 : PySem.W.nsIn K mainGlobals "meet" = some (some (.ref f9))) (l9 : K.lookup f9 = some ⟨oc9, od9, .func (PySem.W.fnOf "meet" "meet" (defArgs sMeet) (defBody sMeet) (defScope sMeet) .none kV9 dc9 pm9 an9 cd9 ct9), sl9⟩) (c9 : PySem.W.codeIn K cd9 "meet" = true) (k9 : PySem.W.keepIn K (.ref f9) = true)
    (a10 : PySem.W.nsIn K mainGlobals "_buffers_in" = some (some (.ref f10))) (l10 : K.lookup f10 = some ⟨oc10, od10, .func (PySem.W.fnOf "_buffers_in" "_buffers_in" (defArgs sBuf) (defBody sBuf) (defScope sBuf) .none kV10 dc10 pm10 an10 cd10 ct10), sl10⟩) (c10 : PySem.W.codeIn K cd10 "_buffers_in" = true) (k10 : PySem.W.keepIn K (.ref f10) = true)
    (a11 : PySem.W.nsIn K mainGlobals "_law_begin" = some (some (.ref f11))) (l11 : K.lookup f11 = some ⟨oc11, od11, .func (PySem.W.fnOf "_law_begin" "_law_begin" (defArgs sBegin) (defBody sBegin) (defScope sBegin) .none kV11 dc11 pm11 an11 cd11 ct11), sl11⟩) (c11 : PySem.W.codeIn K cd11 "_law_begin" = true) (k11 : PySem.W.keepIn K (.ref f11) = true)
    (a12 : PySem.W.nsIn K mainGlobals "_law_take" = some (some (.ref f12))) (l12 : K.lookup f12 = some ⟨oc12, od12, .func (PySem.W.fnOf "_law_take" "_law_take" (defArgs sTake) (defBody sTake) (defScope sTake) .none kV12 dc12 pm12 an12 cd12 ct12), sl12⟩) (c12 : PySem.W.codeIn K cd12 "_law_take" = true) (k12 : PySem.W.keepIn K (.ref f12) = true)
    (a13 : PySem.W.nsIn K mainGlobals "_law_signed" = some (some (.ref f13))) (l13 : K.lookup f13 = some ⟨oc13, od13, .func (PySem.W.fnOf "_law_signed" "_law_signed" (defArgs sSigned) (defBody sSigned) (defScope sSigned) .none kV13 dc13 pm13 an13 cd13 ct13), sl13⟩) (c13 : PySem.W.codeIn K cd13 "_law_signed" = true) (k13 : PySem.W.keepIn K (.ref f13) = true)
    (a14 : PySem.W.nsIn K mainGlobals "_law_form" = some (some (.ref f14))) (l14 : K.lookup f14 = some ⟨oc14, od14, .func (PySem.W.fnOf "_law_form" "_law_form" (defArgs sForm) (defBody sForm) (defScope sForm) .none kV14 dc14 pm14 an14 cd14 ct14), sl14⟩) (c14 : PySem.W.codeIn K cd14 "_law_form" = true) (k14 : PySem.W.keepIn K (.ref f14) = true)
    (a15 : PySem.W.nsIn K mainGlobals "_law_test" = some (some (.ref f15))) (l15 : K.lookup f15 = some ⟨oc15, od15, .func (PySem.W.fnOf "_law_test" "_law_test" (defArgs sTest) (defBody sTest) (defScope sTest) .none kV15 dc15 pm15 an15 cd15 ct15), sl15⟩) (c15 : PySem.W.codeIn K cd15 "_law_test" = true) (k15 : PySem.W.keepIn K (.ref f15) = true)
    (a16 : PySem.W.nsIn K mainGlobals "_law_point_info" = some (some (.ref f16))) (l16 : K.lookup f16 = some ⟨oc16, od16, .func (PySem.W.fnOf "_law_point_info" "_law_point_info" (defArgs sPInfo) (defBody sPInfo) (defScope sPInfo) .none kV16 dc16 pm16 an16 cd16 ct16), sl16⟩) (c16 : PySem.W.codeIn K cd16 "_law_point_info" = true) (k16 : PySem.W.keepIn K (.ref f16) = true)
    (a17 : PySem.W.nsIn K mainGlobals "_law_expr" = some (some (.ref f17))) (l17 : K.lookup f17 = some ⟨oc17, od17, .func (PySem.W.fnOf "_law_expr" "_law_expr" (defArgs sExpr) (defBody sExpr) (defScope sExpr) .none kV17 dc17 pm17 an17 cd17 ct17), sl17⟩) (c17 : PySem.W.codeIn K cd17 "_law_expr" = true) (k17 : PySem.W.keepIn K (.ref f17) = true)
    (a18 : PySem.W.nsIn K mainGlobals "_law_copy" = some (some (.ref f18))) (l18 : K.lookup f18 = some ⟨oc18, od18, .func (PySem.W.fnOf "_law_copy" "_law_copy" (defArgs sCopy) (defBody sCopy) (defScope sCopy) .none kV18 dc18 pm18 an18 cd18 ct18), sl18⟩) (c18 : PySem.W.codeIn K cd18 "_law_copy" = true) (k18 : PySem.W.keepIn K (.ref f18) = true)
    (a19 : PySem.W.nsIn K mainGlobals "_law_statement" = some (some (.ref f19))) (l19 : K.lookup f19 = some ⟨oc19, od19, .func (PySem.W.fnOf "_law_statement" "_law_statement" (defArgs sStmt) (defBody sStmt) (defScope sStmt) .none kV19 dc19 pm19 an19 cd19 ct19), sl19⟩) (c19 : PySem.W.codeIn K cd19 "_law_statement" = true) (k19 : PySem.W.keepIn K (.ref f19) = true)
    (a20 : PySem.W.nsIn K mainGlobals "_law_body" = some (some (.ref f20))) (l20 : K.lookup f20 = some ⟨oc20, od20, .func (PySem.W.fnOf "_law_body" "_law_body" (defArgs sBody) (defBody sBody) (defScope sBody) .none kV20 dc20 pm20 an20 cd20 ct20), sl20⟩) (c20 : PySem.W.codeIn K cd20 "_law_body" = true) (k20 : PySem.W.keepIn K (.ref f20) = true)
    (a21 : PySem.W.nsIn K mainGlobals "_law_program" = some (some (.ref f21))) (l21 : K.lookup f21 = some ⟨oc21, od21, .func (PySem.W.fnOf "_law_program" "_law_program" (defArgs sProg) (defBody sProg) (defScope sProg) .none kV21 dc21 pm21 an21 cd21 ct21), sl21⟩) (c21 : PySem.W.codeIn K cd21 "_law_program" = true) (k21 : PySem.W.keepIn K (.ref f21) = true)
    (a22 : PySem.W.nsIn K mainGlobals "_law_in_expr" = some (some (.ref f22))) (l22 : K.lookup f22 = some ⟨oc22, od22, .func (PySem.W.fnOf "_law_in_expr" "_law_in_expr" (defArgs sInE) (defBody sInE) (defScope sInE) .none kV22 dc22 pm22 an22 cd22 ct22), sl22⟩) (c22 : PySem.W.codeIn K cd22 "_law_in_expr" = true) (k22 : PySem.W.keepIn K (.ref f22) = true)
    (a23 : PySem.W.nsIn K mainGlobals "_law_in" = some (some (.ref f23))) (l23 : K.lookup f23 = some ⟨oc23, od23, .func (PySem.W.fnOf "_law_in" "_law_in" (defArgs sIn) (defBody sIn) (defScope sIn) .none kV23 dc23 pm23 an23 cd23 ct23), sl23⟩) (c23 : PySem.W.codeIn K cd23 "_law_in" = true) (k23 : PySem.W.keepIn K (.ref f23) = true)
    (a24 : PySem.W.nsIn K mainGlobals "law" = some (some (.ref f24))) (l24 : K.lookup f24 = some ⟨oc24, od24, .func (PySem.W.fnOf "law" "law" (defArgs sLaw) (defBody sLaw) (defScope sLaw) .none kV24 dc24 pm24 an24 cd24 ct24), sl24⟩) (c24 : PySem.W.codeIn K cd24 "law" = true) (k24 : PySem.W.keepIn K (.ref f24) = true)
    (acE : PySem.W.nsIn K mainGlobals "_EXPRESSION_LENGTHS" = some (some (.ref cE)))
    (lcE : K.lookup cE = some ⟨.type "dict", none, .dict escE ncE, #[]⟩)
    (qcE : PySem.W.KeysLit w.params escE.toList)
    (ycE : (cE == sysModules) = false)
    (acS : PySem.W.nsIn K mainGlobals "_STATEMENT_LENGTHS" = some (some (.ref cS)))
    (lcS : K.lookup cS = some ⟨.type "dict", none, .dict escS ncS, #[]⟩)
    (qcS : PySem.W.KeysLit w.params escS.toList)
    (ycS : (cS == sysModules) = false)
    (tcE_number : PySem.W.nsIn K cE "number" = some (some (.int 2 kcE_number)))
    (tcE_index : PySem.W.nsIn K cE "index" = some (some (.int 2 kcE_index)))
    (tcE_load : PySem.W.nsIn K cE "load" = some (some (.int 3 kcE_load)))
    (tcE_pick : PySem.W.nsIn K cE "pick" = some (some (.int 6 kcE_pick)))
    (tcE_apply : PySem.W.nsIn K cE "apply" = some (some (.int 4 kcE_apply)))
    (tcE_guard : PySem.W.nsIn K cE "guard" = some (some (.int 4 kcE_guard)))
    (tcS_loop : PySem.W.nsIn K cS "loop" = some (some (.int 6 kcS_loop)))
    (tcS_when : PySem.W.nsIn K cS "when" = some (some (.int 3 kcS_when)))
    (tcS_put : PySem.W.nsIn K cS "put" = some (some (.int 4 kcS_put)))
    (tcS_copy : PySem.W.nsIn K cS "copy" = some (some (.int 6 kcS_copy)))
    (z_int : PySem.W.nsIn K mainGlobals "int" = some none)
    (z_abs : PySem.W.nsIn K mainGlobals "abs" = some none)
    (z_len : PySem.W.nsIn K mainGlobals "len" = some none)
    (z_list : PySem.W.nsIn K mainGlobals "list" = some none)
    (z_range : PySem.W.nsIn K mainGlobals "range" = some none)
    (z_tuple : PySem.W.nsIn K mainGlobals "tuple" = some none)
    (z_isinstance : PySem.W.nsIn K mainGlobals "isinstance" = some none)
    (z_bool : PySem.W.nsIn K mainGlobals "bool" = some none)
    (z_enumerate : PySem.W.nsIn K mainGlobals "enumerate" = some none)
    (z_max : PySem.W.nsIn K mainGlobals "max" = some none)
    (z_min : PySem.W.nsIn K mainGlobals "min" = some none)
    (z_any : PySem.W.nsIn K mainGlobals "any" = some none)
    : ∃ fd : FuncData, (∀ (s : Shared) (v : Value), BindsTo s fd ⟨[v], []⟩ [("script", v)]) ∧ ∀ base : Heap, K.In base → base.Ns mainGlobals mg → FnOk l.prog w K mg base CX0 19 fa fd ["script"] (spLaw K) := by
  have e := hfa.symm.trans (PySem.W.mg_of X G a24)
  cases e
  have F1 := fun_mk (st := sBodyOf) l1 c1 k1
  have m1 := PySem.W.mg_of X G a1
  have b1 := F1.binds (ps := ["statement"]) fun _ _ _ _ _ _ us hl => match us, hl with | [_], _ => rfl
  have F2 := fun_mk (st := sInner) l2 c2 k2
  have m2 := PySem.W.mg_of X G a2
  have b2 := F2.binds (ps := ["expr"]) fun _ _ _ _ _ _ us hl => match us, hl with | [_], _ => rfl
  have F3 := fun_mk (st := sAllS) l3 c3 k3
  have m3 := PySem.W.mg_of X G a3
  have b3 := F3.binds (ps := ["body", "around"]) fun _ _ _ _ _ _ us hl => match us, hl with | [_, _], _ => rfl
  have F4 := fun_mk (st := sAllP) l4 c4 k4
  have m4 := PySem.W.mg_of X G a4
  have b4 := F4.binds (ps := ["expr", "level"]) fun _ _ _ _ _ _ us hl => match us, hl with | [_, _], _ => rfl
  have F5 := fun_mk (st := sParts) l5 c5 k5
  have m5 := PySem.W.mg_of X G a5
  have b5 := F5.binds (ps := ["statement"]) fun _ _ _ _ _ _ us hl => match us, hl with | [_], _ => rfl
  have F6 := fun_mk (st := sName) l6 c6 k6
  have m6 := PySem.W.mg_of X G a6
  have b6 := F6.binds (ps := ["thing"]) fun _ _ _ _ _ _ us hl => match us, hl with | [_], _ => rfl
  have F7 := fun_mk (st := sCheckL) l7 c7 k7
  have m7 := PySem.W.mg_of X G a7
  have b7 := F7.binds (ps := ["thing", "length"]) fun _ _ _ _ _ _ us hl => match us, hl with | [_, _], _ => rfl
  have F8 := fun_mk (st := sLives) l8 c8 k8
  have m8 := PySem.W.mg_of X G a8
  have b8 := F8.binds (ps := ["program", "outs"]) fun _ _ _ _ _ _ us hl => match us, hl with | [_, _], _ => rfl
  have F9 := fun_mk (st := sMeet) l9 c9 k9
  have m9 := PySem.W.mg_of X G a9
  have b9 := F9.binds (ps := ["one", "other"]) fun _ _ _ _ _ _ us hl => match us, hl with | [_, _], _ => rfl
  have F10 := fun_mk (st := sBuf) l10 c10 k10
  have m10 := PySem.W.mg_of X G a10
  have b10 := F10.binds (ps := ["statement"]) fun _ _ _ _ _ _ us hl => match us, hl with | [_], _ => rfl
  have F11 := fun_mk (st := sBegin) l11 c11 k11
  have m11 := PySem.W.mg_of X G a11
  have b11 := F11.binds (ps := ["script"]) fun _ _ _ _ _ _ us hl => match us, hl with | [_], _ => rfl
  have F12 := fun_mk (st := sTake) l12 c12 k12
  have m12 := PySem.W.mg_of X G a12
  have b12 := F12.binds (ps := ["d", "many"]) fun _ _ _ _ _ _ us hl => match us, hl with | [_, _], _ => rfl
  have F13 := fun_mk (st := sSigned) l13 c13 k13
  have m13 := PySem.W.mg_of X G a13
  have b13 := F13.binds (ps := ["d", "most"]) fun _ _ _ _ _ _ us hl => match us, hl with | [_, _], _ => rfl
  have F14 := fun_mk (st := sForm) l14 c14 k14
  have m14 := PySem.W.mg_of X G a14
  have b14 := F14.binds (ps := ["d", "env", "size"]) fun _ _ _ _ _ _ us hl => match us, hl with | [_, _, _], _ => rfl
  have F15 := fun_mk (st := sTest) l15 c15 k15
  have m15 := PySem.W.mg_of X G a15
  have b15 := F15.binds (ps := ["d", "env"]) fun _ _ _ _ _ _ us hl => match us, hl with | [_, _], _ => rfl
  have F16 := fun_mk (st := sPInfo) l16 c16 k16
  have m16 := PySem.W.mg_of X G a16
  have b16 := F16.binds (ps := ["d", "kind"]) fun _ _ _ _ _ _ us hl => match us, hl with | [_, _], _ => rfl
  have F17 := fun_mk (st := sExpr) l17 c17 k17
  have m17 := PySem.W.mg_of X G a17
  have b17 := F17.binds (ps := ["d", "buffers", "env", "level"]) fun _ _ _ _ _ _ us hl => match us, hl with | [_, _, _, _], _ => rfl
  have F18 := fun_mk (st := sCopy) l18 c18 k18
  have m18 := PySem.W.mg_of X G a18
  have b18 := F18.binds (ps := ["d", "buffers", "env"]) fun _ _ _ _ _ _ us hl => match us, hl with | [_, _, _], _ => rfl
  have F19 := fun_mk (st := sStmt) l19 c19 k19
  have m19 := PySem.W.mg_of X G a19
  have b19 := F19.binds (ps := ["d", "buffers", "env", "depth"]) fun _ _ _ _ _ _ us hl => match us, hl with | [_, _, _, _], _ => rfl
  have F20 := fun_mk (st := sBody) l20 c20 k20
  have m20 := PySem.W.mg_of X G a20
  have b20 := F20.binds (ps := ["d", "buffers", "env", "depth", "many"]) fun _ _ _ _ _ _ us hl => match us, hl with | [_, _, _, _, _], _ => rfl
  have F21 := fun_mk (st := sProg) l21 c21 k21
  have m21 := PySem.W.mg_of X G a21
  have b21 := F21.binds (ps := ["d", "set_first"]) fun _ _ _ _ _ _ us hl => match us, hl with | [_, _], _ => rfl
  have F22 := fun_mk (st := sInE) l22 c22 k22
  have m22 := PySem.W.mg_of X G a22
  have b22 := F22.binds (ps := ["expr", "k"]) fun _ _ _ _ _ _ us hl => match us, hl with | [_, _], _ => rfl
  have F23 := fun_mk (st := sIn) l23 c23 k23
  have m23 := PySem.W.mg_of X G a23
  have b23 := F23.binds (ps := ["s", "k"]) fun _ _ _ _ _ _ us hl => match us, hl with | [_, _], _ => rfl
  have F24 := fun_mk (st := sLaw) l24 c24 k24
  have m24 := PySem.W.mg_of X G a24
  have n_int := PySem.W.mg_none_of X G z_int
  have n_abs := PySem.W.mg_none_of X G z_abs
  have n_len := PySem.W.mg_none_of X G z_len
  have n_list := PySem.W.mg_none_of X G z_list
  have n_range := PySem.W.mg_none_of X G z_range
  have n_tuple := PySem.W.mg_none_of X G z_tuple
  have n_isinstance := PySem.W.mg_none_of X G z_isinstance
  have n_bool := PySem.W.mg_none_of X G z_bool
  have n_enumerate := PySem.W.mg_none_of X G z_enumerate
  have n_max := PySem.W.mg_none_of X G z_max
  have n_min := PySem.W.mg_none_of X G z_min
  have n_any := PySem.W.mg_none_of X G z_any
  have TD : TxtD mg := ⟨n_int, n_abs, n_len, n_list⟩
  have T : Txt42 mg := ⟨TD, n_range, n_tuple, n_isinstance, n_bool, n_enumerate, n_max, n_min, n_any⟩
  have R : TabR K w mg cE cS escE escS ncE ncS := ⟨PySem.W.mg_of X G acE, PySem.W.mg_of X G acS, ⟨lcE, qcE, ycE⟩, ⟨lcS, qcS, ycS⟩, fun nm L h => by
        simp only [tabE, List.mem_cons, List.not_mem_nil, or_false, Prod.mk.injEq] at h
        rcases h with ⟨rfl, rfl⟩ | ⟨rfl, rfl⟩ | ⟨rfl, rfl⟩ | ⟨rfl, rfl⟩ | ⟨rfl, rfl⟩ | ⟨rfl, rfl⟩
        · exact ⟨_, tcE_number, _, rfl⟩
        · exact ⟨_, tcE_index, _, rfl⟩
        · exact ⟨_, tcE_load, _, rfl⟩
        · exact ⟨_, tcE_pick, _, rfl⟩
        · exact ⟨_, tcE_apply, _, rfl⟩
        · exact ⟨_, tcE_guard, _, rfl⟩, fun nm L h => by
        simp only [tabS, List.mem_cons, List.not_mem_nil, or_false, Prod.mk.injEq] at h
        rcases h with ⟨rfl, rfl⟩ | ⟨rfl, rfl⟩ | ⟨rfl, rfl⟩ | ⟨rfl, rfl⟩
        · exact ⟨_, tcS_loop, _, rfl⟩
        · exact ⟨_, tcS_when, _, rfl⟩
        · exact ⟨_, tcS_put, _, rfl⟩
        · exact ⟨_, tcS_copy, _, rfl⟩⟩
  refine ⟨PySem.W.fnOf "law" "law" (defArgs sLaw) (defBody sLaw) (defScope sLaw) .none kV24 dc24 pm24 an24 cd24 ct24, fun s v => .of_eq rfl, fun base _ _ => ?_⟩
  have cN : Calls l.prog w K mg base CX0 1 "_name_of" ["thing"] spName := ⟨_, _, ok_name F6 T, k6, b6, m6⟩
  have cC : Calls l.prog w K mg base CX0 1 "_check_length" ["thing", "length"] spCheckL := ⟨_, _, ok_checkl F7 T, k7, b7, m7⟩
  have cIn : Calls l.prog w K mg base CX0 1 "inner_of" ["expr"] spInner := ⟨_, _, ok_inner F2, k2, b2, m2⟩
  have cBo : Calls l.prog w K mg base CX0 1 "body_of" ["statement"] spBodyOf := ⟨_, _, ok_bodyof F1, k1, b1, m1⟩
  have cAp : Calls l.prog w K mg base CX0 5 "all_parts" ["expr", "level"] (spParts 3) := ⟨_, _, ok_allp F4 R cN cC cIn k4 b4 m4 3 (by decide), k4, b4, m4⟩
  have cAs : Calls l.prog w K mg base CX0 6 "all_statements" ["body", "around"] (spStmts (K := K) 4) := ⟨_, _, ok_alls F3 R cN cC cBo k3 b3 m3 4 (by decide), k3, b3, m3⟩
  have cPs : Calls l.prog w K mg base CX0 6 "parts_of_statement" ["statement"] spPS := ⟨_, _, ok_parts F5 cAp, k5, b5, m5⟩
  have cBf : Calls l.prog w K mg base CX0 7 "_buffers_in" ["statement"] spBuf := ⟨_, _, ok_buf F10 cAs cPs, k10, b10, m10⟩
  have cLv : Calls l.prog w K mg base CX0 8 "lives" ["program", "outs"] (spLives K) := ⟨_, _, ok_lives F8 T cBf, k8, b8, m8⟩
  have cMe : Calls l.prog w K mg base CX0 1 "meet" ["one", "other"] (spMeet K) := ⟨_, _, ok_meet F9, k9, b9, m9⟩
  have cB : Calls l.prog w K mg base CX0 1 "_law_begin" ["script"] (spBegin K) := ⟨_, _, ok_begin F11 TD, k11, b11, m11⟩
  have gT0 := ok_take (P := l.prog) (w := w) (K := K) (mg := mg) (base := base) F12 TD
  have cT : Calls l.prog w K mg base CX0 1 "_law_take" ["d", "many"] spTake := ⟨_, _, gT0, k12, b12, m12⟩
  have cS : Calls l.prog w K mg base CX0 2 "_law_signed" ["d", "most"] spSigned := ⟨_, _, ok_signed F13 gT0 k12 b12 m12, k13, b13, m13⟩
  have cF : Calls l.prog w K mg base CX0 2 "_law_form" ["d", "env", "size"] spForm := ⟨_, _, ok_form F14 T cT, k14, b14, m14⟩
  have cTe : Calls l.prog w K mg base CX0 3 "_law_test" ["d", "env"] spTest := ⟨_, _, ok_test F15 T cT cS, k15, b15, m15⟩
  have cPi : Calls l.prog w K mg base CX0 3 "_law_point_info" ["d", "kind"] spPI := ⟨_, _, ok_pi F16 cT cS, k16, b16, m16⟩
  have cEx : Calls l.prog w K mg base CX0 7 "_law_expr" ["d", "buffers", "env", "level"] (spExpr 3) := ⟨_, _, ok_expr F17 T cT cS cF cTe cPi k17 b17 m17 3 (by decide), k17, b17, m17⟩
  have cCo : Calls l.prog w K mg base CX0 3 "_law_copy" ["d", "buffers", "env"] spCopy := ⟨_, _, ok_copy F18 T cT cF, k18, b18, m18⟩
  have cBy := all_bodies (P := l.prog) (w := w) (K := K) (mg := mg) (base := base) F20 F19 T cT cS cF cTe cCo cEx k20 b20 m20 k19 b19 m19 4 (by decide)
  have cPg : Calls l.prog w K mg base CX0 18 "_law_program" ["d", "set_first"] spProg := ⟨_, _, ok_prog F21 T cT cS cBy, k21, b21, m21⟩
  have cIe : Calls l.prog w K mg base CX0 4 "_law_in_expr" ["expr", "k"] (spInE 3) := ⟨_, _, ok_ine F22 T k22 b22 m22 3 (by decide), k22, b22, m22⟩
  have cIi : Calls l.prog w K mg base CX0 9 "_law_in" ["s", "k"] (spIn 4) := ⟨_, _, ok_in F23 T cIe k23 b23 m23 4 (by decide), k23, b23, m23⟩
  exact ok_law F24 T cB cT cPg cBy cIi cLv cMe
end My
open PySem PySem.W PyProof.Rows
set_option maxRecDepth 100000 in
set_option maxHeartbeats 0 in
theorem PySem.Challenge.cw_tensorcompiler_k42_lives_of_buffers_holds : PySem.Challenge.rw_tensorcompiler_k42_lives_of_buffers.Holds := by
  w_on; o_law; k_head; (case hw => w_witness2)
  k_fill
  refine L2.walk_of (l := PySem.Challenge.rw_tensorcompiler_k42_lives_of_buffers) (n := 63) (k := 19) (x := "script") (CX := fun _ => L2.CX0) (sp := fun w => My.spLaw _) rfl (by decide) rfl ⟨rfl, by decide, by decide⟩ (fun w h Y => PySem.W.kIn_of Y) ?F (fun _ _ a ns hl _ hS => ⟨a, ns, rfl, hS, hl, fun _ => rfl⟩) (fun _ _ _ _ _ h => h)
  case F =>
    intro w mg fa h KX G hmg
    refine' My.all_mk KX G hmg ?a1 ?l1 ?c1 ?k1 ?a2 ?l2 ?c2 ?k2 ?a3 ?l3 ?c3 ?k3 ?a4 ?l4 ?c4 ?k4 ?a5 ?l5 ?c5 ?k5 ?a6 ?l6 ?c6 ?k6 ?a7 ?l7 ?c7 ?k7 ?a8 ?l8 ?c8 ?k8 ?a9 ?l9 ?c9 ?k9 ?a10 ?l10 ?c10 ?k10 ?a11 ?l11 ?c11 ?k11 ?a12 ?l12 ?c12 ?k12 ?a13 ?l13 ?c13 ?k13 ?a14 ?l14 ?c14 ?k14 ?a15 ?l15 ?c15 ?k15 ?a16 ?l16 ?c16 ?k16 ?a17 ?l17 ?c17 ?k17 ?a18 ?l18 ?c18 ?k18 ?a19 ?l19 ?c19 ?k19 ?a20 ?l20 ?c20 ?k20 ?a21 ?l21 ?c21 ?k21 ?a22 ?l22 ?c22 ?k22 ?a23 ?l23 ?c23 ?k23 ?a24 ?l24 ?c24 ?k24 ?acE ?lcE ?qcE ?ycE ?acS ?lcS ?qcS ?ycS ?tcE_number ?tcE_index ?tcE_load ?tcE_pick ?tcE_apply ?tcE_guard ?tcS_loop ?tcS_when ?tcS_put ?tcS_copy ?z_int ?z_abs ?z_len ?z_list ?z_range ?z_tuple ?z_isinstance ?z_bool ?z_enumerate ?z_max ?z_min ?z_any
    (case a1 => k_is); (case l1 => k_is); (case c1 => k_is); (case k1 => k_is); (case a2 => k_is); (case l2 => k_is); (case c2 => k_is); (case k2 => k_is); (case a3 => k_is); (case l3 => k_is); (case c3 => k_is); (case k3 => k_is); (case a4 => k_is); (case l4 => k_is); (case c4 => k_is); (case k4 => k_is); (case a5 => k_is); (case l5 => k_is); (case c5 => k_is); (case k5 => k_is); (case a6 => k_is); (case l6 => k_is); (case c6 => k_is); (case k6 => k_is); (case a7 => k_is); (case l7 => k_is); (case c7 => k_is); (case k7 => k_is); (case a8 => k_is); (case l8 => k_is); (case c8 => k_is); (case k8 => k_is); (case a9 => k_is); (case l9 => k_is); (case c9 => k_is); (case k9 => k_is); (case a10 => k_is); (case l10 => k_is); (case c10 => k_is); (case k10 => k_is); (case a11 => k_is); (case l11 => k_is); (case c11 => k_is); (case k11 => k_is); (case a12 => k_is); (case l12 => k_is); (case c12 => k_is); (case k12 => k_is); (case a13 => k_is); (case l13 => k_is); (case c13 => k_is); (case k13 => k_is); (case a14 => k_is); (case l14 => k_is); (case c14 => k_is); (case k14 => k_is); (case a15 => k_is); (case l15 => k_is); (case c15 => k_is); (case k15 => k_is); (case a16 => k_is); (case l16 => k_is); (case c16 => k_is); (case k16 => k_is); (case a17 => k_is); (case l17 => k_is); (case c17 => k_is); (case k17 => k_is); (case a18 => k_is); (case l18 => k_is); (case c18 => k_is); (case k18 => k_is); (case a19 => k_is); (case l19 => k_is); (case c19 => k_is); (case k19 => k_is); (case a20 => k_is); (case l20 => k_is); (case c20 => k_is); (case k20 => k_is); (case a21 => k_is); (case l21 => k_is); (case c21 => k_is); (case k21 => k_is); (case a22 => k_is); (case l22 => k_is); (case c22 => k_is); (case k22 => k_is); (case a23 => k_is); (case l23 => k_is); (case c23 => k_is); (case k23 => k_is); (case a24 => k_is); (case l24 => k_is); (case c24 => k_is); (case k24 => k_is); (case acE => k_is); (case lcE => k_is); (case qcE => repeat (first | exact True.intro | refine ⟨⟨_, _, rfl, rfl⟩, ?_⟩)); (case ycE => first | rfl | decide); (case acS => k_is); (case lcS => k_is); (case qcS => repeat (first | exact True.intro | refine ⟨⟨_, _, rfl, rfl⟩, ?_⟩)); (case ycS => first | rfl | decide); (case tcE_number => k_is); (case tcE_index => k_is); (case tcE_load => k_is); (case tcE_pick => k_is); (case tcE_apply => k_is); (case tcE_guard => k_is); (case tcS_loop => k_is); (case tcS_when => k_is); (case tcS_put => k_is); (case tcS_copy => k_is); (case z_int => k_is); (case z_abs => k_is); (case z_len => k_is); (case z_list => k_is); (case z_range => k_is); (case z_tuple => k_is); (case z_isinstance => k_is); (case z_bool => k_is); (case z_enumerate => k_is); (case z_max => k_is); (case z_min => k_is); (case z_any => k_is)
