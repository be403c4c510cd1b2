import PyProof.Rows.All
import Wide.All
import OpenK.AllK
import Wide.FinOn
import HandS.ForMost
import HandS.Wide
import HandS.Evl
import HandS.More
import HandS.IsInst
import HandS.CallLocal
import HandS.TupAny
import PySem.Challenge.RW_tensorcompiler_k06_pointwise_kinds
set_option Elab.async false
set_option linter.all false
set_option maxRecDepth 100000
set_option maxHeartbeats 4000000
namespace My
open PySem L2
/-! ### the text -/
def topS (i : Nat) : Stmt := PySem.Challenge.pw_tensorcompiler_k06_pointwise_kinds.main.body.getD i (.Pass ⟨0, 0, 0, 0⟩)
abbrev sLimit : Stmt := topS 5
abbrev sAdd : Stmt := topS 6
abbrev sSub : Stmt := topS 7
abbrev sMul : Stmt := topS 8
abbrev sMax : Stmt := topS 9
abbrev sMin : Stmt := topS 10
abbrev sLess : Stmt := topS 11
abbrev sEqual : Stmt := topS 12
abbrev sNeg : Stmt := topS 13
abbrev sClamp : Stmt := topS 14
abbrev sShift : Stmt := topS 15
abbrev sWhere : Stmt := topS 16
abbrev sPw : Stmt := topS 18
abbrev sBegin : Stmt := topS 20
abbrev sTake : Stmt := topS 21
abbrev sSigned : Stmt := topS 22
abbrev sInt : Stmt := topS 23
abbrev sNumber : Stmt := topS 24
abbrev sRounded : Stmt := topS 25
abbrev sTwo : Stmt := topS 26
abbrev sLaw : Stmt := topS 27
/-! ### bounds -/
/-- below 2 ^ n in size -/
def Bg (n : Nat) (x : Int) : Prop := x.natAbs < 2 ^ n
theorem Bg.mono {n m : Nat} {x : Int} (h : Bg n x) (l : n ≤ m) : Bg m x := Nat.lt_of_lt_of_le h (Nat.pow_le_pow_right (by decide) l)
theorem Bg.mul {n m : Nat} {x y : Int} (h : Bg n x) (k : Bg m y) : Bg (n + m) (x * y) := wide_lt h k
theorem Bg.add {n : Nat} {x y : Int} (h : Bg n x) (k : Bg n y) : Bg (n + 1) (x + y) := by
  unfold Bg at *
  rw [Nat.pow_succ]
  omega
theorem Bg.sub {n : Nat} {x y : Int} (h : Bg n x) (k : Bg n y) : Bg (n + 1) (x - y) := by
  unfold Bg at *
  rw [Nat.pow_succ]
  omega
theorem Bg.cmul {n m : Nat} {x y : Int} (h : Bg n x) (k : Bg m y) (n0 : 0 < n) (m0 : 0 < m) (l : n + m ≤ 1000000) : CMulW x y := wide_mul h k n0 m0 l
def CDivX (_ j : Int) : Prop := j ≠ 0 ∧ j.natAbs.log2 < 9000
theorem op_fdivX {X : Cx} : OpR X (binaryOp .FloorDiv) (rI CDivX fun i j => .int (i.fdiv j)) := opI fun i j _ _ _ _ _ hc q =>
  PyProof.Rows.floordiv_int hc.1 q (.inl (PyProof.noPylong_of_log2 hc.2))
theorem Bg.div {n : Nat} {x y : Int} (h : Bg n y) (h0 : y ≠ 0) (n0 : 0 < n) (l : n ≤ 9000) : CDivX x y := ⟨h0, Nat.lt_of_lt_of_le (PySem.Flt.log2_lt_of n0 h) l⟩
theorem Bg.divW {n : Nat} {x y : Int} (h : Bg n y) (h0 : 0 < y) (n0 : 0 < n) (l : n ≤ 9000) : CDivW x y := wide_div h0 h n0 l
/-! ### drawing -/
/-- all but one place stands as it was -/
def But (d : Addr) (H H' : Hp) : Prop := ∀ b, b ≠ d → H' b = H b
theorem But.refl (d : Addr) (H : Hp) : But d H H := fun _ _ => rfl
theorem But.trans {d : Addr} {H H1 H2 : Hp} (a : But d H H1) (b : But d H1 H2) : But d H H2 := fun c h => (b c h).trans (a c h)
theorem But.upd {d : Addr} {H : Hp} {o : HO} : But d H (upd H d o) := fun _ h => upd_ne h
/-- the drawing state -/
def DrAt (H : Hp) (d c : Addr) : Prop := ∃ (ns : List Int) (i : Nat) (r s : Int), c ≠ d ∧ H d = some (.lst [.ref c, .int i, .int r, .int s]) ∧ H c = some (.lst (ns.map V.int)) ∧ i ≤ ns.length ∧ 0 ≤ r ∧ 0 ≤ s ∧ s < 2147483647
theorem DrAt.same {H H' : Hp} {d c : Addr} (h : DrAt H d c) (s : Same H H') : DrAt H' d c := by
  obtain ⟨ns, i, r, sd, n, h1, h2, h3⟩ := h
  exact ⟨ns, i, r, sd, n, s _ _ h1, s _ _ h2, h3⟩
theorem DrAt.lst {H : Hp} {d c : Addr} (h : DrAt H d c) : ∃ xs, H d = some (.lst xs) := by
  obtain ⟨ns, i, r, sd, n, h1, _⟩ := h
  exact ⟨_, h1⟩
theorem DrAt.lstc {H : Hp} {d c : Addr} (h : DrAt H d c) : ∃ xs, H c = some (.lst xs) := by
  obtain ⟨ns, i, r, sd, n, _, h1, _⟩ := h
  exact ⟨_, h1⟩
/-- another list may be changed -/
theorem DrAt.upd {H : Hp} {d c p : Addr} (h : DrAt H d c) (o : HO) (nd : p ≠ d) (nc : p ≠ c) : DrAt (upd H p o) d c := by
  obtain ⟨ns, i, r, sd, n, h1, h2, h3⟩ := h
  exact ⟨ns, i, r, sd, n, by rw [upd_ne nd.symm]; exact h1, by rw [upd_ne nc.symm]; exact h2, h3⟩
/-- what is no list is kept by a draw -/
theorem But.tup {d c b : Addr} {H H' : Hp} {xs : List V} (k : But d H H') (h : DrAt H d c) (hb : H b = some (.tup xs)) : H' b = some (.tup xs) := by
  obtain ⟨ys, hd⟩ := h.lst
  rw [k b (ne_of hb hd (fun z => nomatch z))]
  exact hb
def Bnd (m : Int) : Prop := m < 2 ^ 400
structure TxtD (mg : Str → Option Value) : Prop where
  int : mg "int" = none
  abs : mg "abs" = none
  len : mg "len" = none
  list : mg "list" = none
section
variable {P : Program} {w : World} {K : PySem.W.Frag} {mg : Str → Option Value} {base : Heap}
def spBegin (K : PySem.W.Frag) : Sp := fun vs H Q _ => ∃ (a : Addr) (ns : List Int), vs = [.ref a] ∧ SqL K H a (ns.map V.int) ∧ ns.length ≤ 63 ∧
  ∀ H' d c, Same H H' → H d = none → H c = none → DrAt H' d c → Q (.ref d) H'
theorem scB : FnScope ["script", "seed", "cell"] ["script"] (defScope sBegin) := ⟨rfl, rfl, rfl, by decide +kernel, rfl, by decide +kernel, by decide +kernel⟩
theorem ok_begin {f : Addr} {fd : FuncData} (F : Fun K "_law_begin" "_law_begin" sBegin f fd) (T : TxtD mg) : FnOk P w K mg base CX0 1 f fd ["script"] (spBegin K) := by
  refine F.ok scB (fun vs H Q E h => ?_) (fun cdv A outer s H vs Q E hr h => ?_)
  · obtain ⟨a, ns, rfl, _⟩ := h
    rfl
  · obtain ⟨a, ns, rfl, hS, hlen, q⟩ := h
    refine ⟨_, pss_cons (ps_set (i := 1) scB.nd rfl (.inl rfl) pe_int)
      (pss_cons (ps_for PassesOwn.never rfl (pi_list (pv 0)) (pg_name (i := 2) scB.nd rfl (.inl rfl))
        (pss_one (ps_set (i := 1) scB.nd rfl (.inl rfl)
          (pe_op op_mod (pe_op op_add (pe_op op_add (pe_op op_mul (pv 1) pe_int) (pe_op op_mod (pe_callTy call_int1 (by rfl) T.int (by decide +kernel) (pa_cons (pv 2) pa_nil)) pe_int)) pe_int) pe_int))))
      (pss_one (ps_ret (pe_lst (pa_cons (pe_callTy call_list_of (by rfl) T.list (by decide +kernel) (pa_cons (pv 0) pa_nil)) (pa_cons pe_int (pa_cons pe_int (pa_cons (pv 1) pa_nil)))))))), ?_⟩
    refine ⟨_, rfl, a, rfl, ⟨_, hS⟩, for_list (K := K) (a := a) (xs := ns.map V.int) (fun i σ H' => ∃ (z : Int) (v : Option V), σ = [some (.ref a), some (.int z), v] ∧ H' = H ∧ 0 ≤ z ∧ z < 2147483647)
      ⟨1, none, rfl, rfl, by decide, by decide⟩ (fun i σ H' _ ⟨_, _, _, e, _⟩ => by rw [e]; exact hS) ?_ ?_⟩
    · rintro i x σ H' hi ⟨z, v, rfl, rfl, h0, h1⟩
      obtain ⟨u, rfl⟩ : ∃ u, x = V.int u := by
        rw [List.getElem?_map] at hi
        cases e : ns[i]? with
        | none => rw [e] at hi; cases hi
        | some u => rw [e] at hi; exact ⟨u, (Option.some.inj hi).symm⟩
      refine ⟨_, rfl, _, _, rfl, rfl, .inl ⟨by omega, by omega⟩, _, rfl, .inl ⟨_, rfl, _, _, rfl, rfl, (by show (0 : Int) < 2147483629; decide), _, _, rfl, rfl, _, _, rfl, rfl, _, _, rfl, rfl, (by show (0 : Int) < 2147483647; decide), ?_⟩⟩
      exact ⟨_, _, rfl, rfl, Int.emod_nonneg _ (by decide), Int.emod_lt_of_pos _ (by decide)⟩
    · rintro σ H' ⟨z, v, rfl, rfl, h0, h1⟩
      refine ⟨_, rfl, a, _, rfl, .inl hS, fun c nc => ⟨_, rfl, by show 4 ≤ sizeLine; decide, fun d nd => ?_⟩⟩
      have ndc : d ≠ c := fun e => by
        rw [e, upd_same] at nd
        cases nd
      have nd0 : H' d = none := by
        rw [upd_ne ndc] at nd
        exact nd
      refine q _ d c (fun b o e => ?_) nd0 nc ⟨ns, 0, 0, z, ndc.symm, upd_same, ?_, Nat.zero_le _, by decide, h0, h1⟩
      · rw [upd_ne (ne_of_none e nd0), upd_ne (ne_of_none e nc)]
        exact e
      · rw [upd_ne ndc.symm, upd_same]
def spTake : Sp := fun vs H Q _ => ∃ (d c : Addr) (m : Int), vs = [.ref d, .int m] ∧ DrAt H d c ∧ 0 < m ∧ Bnd m ∧
  ∀ H' v, But d H H' → DrAt H' d c → 0 ≤ v → v < m → Q (.int v) H'
theorem scT : FnScope ["d", "many", "small", "digit"] ["d", "many"] (defScope sTake) := ⟨rfl, rfl, rfl, by decide +kernel, rfl, by decide +kernel, by decide +kernel⟩
theorem at0 {a b c e : V} : atI [a, b, c, e] (0 : Int) = some a := rfl
theorem at1 {a b c e : V} : atI [a, b, c, e] (1 : Int) = some b := rfl
theorem at2 {a b c e : V} : atI [a, b, c, e] (2 : Int) = some c := rfl
theorem at3 {a b c e : V} : atI [a, b, c, e] (3 : Int) = some e := rfl
theorem bnd_nat {m : Int} (h0 : 0 < m) (h : Bnd m) : m.natAbs < 2 ^ 400 := by
  have e : ((2 ^ 400 : Nat) : Int) = 2 ^ 400 := by decide +kernel
  unfold Bnd at h
  generalize (2 ^ 400 : Nat) = B at *
  omega
theorem bndW {r m : Int} (h0 : 0 < m) (h : Bnd m) : CDivW r m := wide_div (b := 400) h0 (bnd_nat h0 h) (by decide) (by decide)
theorem ok_take {f : Addr} {fd : FuncData} (F : Fun K "_law_take" "_law_take" sTake f fd) (T : TxtD mg) : FnOk P w K mg base CX0 1 f fd ["d", "many"] spTake := by
  refine F.ok scT (fun vs H Q E h => ?_) (fun cdv A outer s H vs Q E hr h => ?_)
  · obtain ⟨d, c, m, rfl, _⟩ := h
    rfl
  · obtain ⟨d, c, m, rfl, ⟨ns, i, r, sd, ncd, hd, hc, hi, hr0, hs0, hs1⟩, hm, hb, q⟩ := h
    refine ⟨_, Evl.pss_cut (ps_if (PW.pt (pw_and (pt_cmpR op_eq (pe_ix ix_list (pv 0) pe_int (fun _ _ => rfl)) pe_int (nomark _))
        (pw_and1 (pt_cmpR op_lt (pe_ix ix_list (pv 0) pe_int (fun _ _ => rfl)) (pe_callB call_len_seq (by rfl) T.len PySem.boot_len (pa_cons (pe_ix ix_list (pv 0) pe_int (fun _ _ => rfl)) pa_nil)) (nomark _)))))
        (pss_cons (ps_asg (pe_callB call_abs (by rfl) T.abs (by decide +kernel) (pa_cons (pe_callTy call_int1 (by rfl) T.int (by decide +kernel) (pa_cons (pe_ix ix_list (pe_ix ix_list (pv 0) pe_int (fun _ _ => rfl)) (pe_ix ix_list (pv 0) pe_int (fun _ _ => rfl)) (fun _ _ => rfl)) pa_nil)) pa_nil)) (pg_sub (pv 0) pe_int set_list))
        (pss_cons (ps_asg (pe_op op_add (pe_ix ix_list (pv 0) pe_int (fun _ _ => rfl)) pe_int) (pg_sub (pv 0) pe_int set_list))
        (pss_one (ps_if (pt_cmpR op_lt (pe_ix ix_list (pv 0) pe_int (fun _ _ => rfl)) (pe_op op_pow pe_int pe_int) (nomark _))
          (pss_cons (ps_set (i := 2) scT.nd rfl (.inl rfl) (pe_callTy call_int1 (by rfl) T.int (by decide +kernel) (pa_cons (pe_ix ix_list (pv 0) pe_int (fun _ _ => rfl)) pa_nil)))
          (pss_cons (ps_asg pe_int (pg_sub (pv 0) pe_int set_list))
          (pss_one (ps_ret (pe_op op_mod (pv 2) (pv 1))))))
          pss_nil))))
        pss_nil)
      (pss_cons (ps_if (pt_cmpR op_gt (pe_ix ix_list (pv 0) pe_int (fun _ _ => rfl)) pe_int (nomark _))
        (pss_cons (ps_set (i := 3) scT.nd rfl (.inl rfl) (pe_op op_mod (pe_callTy call_int1 (by rfl) T.int (by decide +kernel) (pa_cons (pe_ix ix_list (pv 0) pe_int (fun _ _ => rfl)) pa_nil)) (pv 1)))
        (pss_cons (ps_asg (pe_op op_fdivW (pe_callTy call_int1 (by rfl) T.int (by decide +kernel) (pa_cons (pe_ix ix_list (pv 0) pe_int (fun _ _ => rfl)) pa_nil)) (pv 1)) (pg_sub (pv 0) pe_int set_list))
        (pss_one (ps_ret (pv 3)))))
        pss_nil)
      (pss_cons (ps_asg (pe_op op_mod (pe_callTy call_int1 (by rfl) T.int (by decide +kernel) (pa_cons (pe_op op_add (pe_op op_mul (pe_ix ix_list (pv 0) pe_int (fun _ _ => rfl)) pe_int) pe_int) pa_nil)) pe_int) (pg_sub (pv 0) pe_int set_list))
      (pss_one (ps_ret (pe_op op_mod (pe_callTy call_int1 (by rfl) T.int (by decide +kernel) (pa_cons (pe_op op_fdiv (pe_ix ix_list (pv 0) pe_int (fun _ _ => rfl)) pe_int) pa_nil)) (pv 1)))))), ?_⟩
    refine ⟨fun σ' H' => ∃ (i r sd : Int) (x2 : Option V) (i' : Nat), σ' = [some (.ref d), some (.int m), x2, none] ∧ H' = upd H d (.lst [.ref c, .int i, .int r, .int sd]) ∧ i = i' ∧ i' ≤ ns.length ∧ 0 ≤ r ∧ 0 ≤ sd ∧ sd < 2147483647, ?_, ?_⟩
    · have same : H = upd H d (.lst [.ref c, .int i, .int r, .int sd]) := by
        funext b
        by_cases e : b = d
        · rw [e, upd_same, hd]
        · rw [upd_ne e]
      refine ⟨_, rfl, d, _, 2, _, rfl, rfl, SqL.of hd, at2, rfl, _, rfl, ite2 (fun e => ?_) (fun e => ?_)⟩
      · refine ⟨_, rfl, d, _, 1, _, rfl, rfl, SqL.of hd, at1, _, rfl, d, _, 0, _, rfl, rfl, SqL.of hd, at0, c, _, rfl, .inl (SqL.of hc), _, _, rfl, rfl, _, rfl, ite2 (fun e2 => ?_) (fun e2 => ?_)⟩
        · have hlt : i < ns.length := by
            have := of_decide_eq_true e2
            rw [List.length_map] at this
            omega
          have hx : (ns.map V.int)[i]? = some (.int ns[i]) := by
            rw [List.getElem?_map, List.getElem?_eq_getElem hlt]
            rfl
          generalize ns[i] = x at hx
          have hcd : ∀ o, (upd H d o) c = some (.lst (ns.map V.int)) := fun o => by rw [upd_ne ncd]; exact hc
          have habs : 0 ≤ (if x < 0 then -x else x) := by split <;> omega
          -- d[2] = abs(int(d[0][d[1]]))
          refine ⟨_, rfl, d, _, 0, _, rfl, rfl, SqL.of hd, at0, _, rfl, d, _, 1, _, rfl, rfl, SqL.of hd, at1, c, _, _, _, rfl, rfl, SqL.of hc, atI_nat hx, .inl ⟨x, rfl, x, rfl, _, rfl, d, _, 2, 2, rfl, rfl, hd, rfl, ?_⟩⟩
          generalize (if x < 0 then -x else x) = y at habs
          -- d[1] = d[1] + 1
          refine ⟨_, rfl, d, _, 1, _, rfl, rfl, SqL.of upd_same, at1, _, _, rfl, rfl, _, rfl, d, _, 1, 1, rfl, rfl, upd_same, rfl, ?_⟩
          rw [upd_upd]
          -- if d[2] < 10 ** 18
          refine ⟨_, rfl, d, _, 2, _, rfl, rfl, SqL.of upd_same, at2, 10, 18, rfl, rfl, ⟨by decide, by decide, by decide⟩, _, _, rfl, rfl, _, rfl, ite2 (fun e3 => ?_) (fun e3 => ?_)⟩
          · refine ⟨_, rfl, d, _, 2, _, rfl, rfl, SqL.of upd_same, at2, .inl ⟨_, rfl, _, rfl, d, _, 2, 2, rfl, rfl, upd_same, rfl, ?_⟩⟩
            rw [upd_upd]
            refine ⟨_, rfl, _, rfl, _, _, rfl, rfl, hm, ?_⟩
            exact q _ _ But.upd ⟨ns, i + 1, 0, sd, ncd, upd_same, hcd _, hlt, by decide, hs0, hs1⟩ (Int.emod_nonneg _ (by omega)) (Int.emod_lt_of_pos _ hm)
          · exact ⟨_, _, _, _, i + 1, rfl, rfl, rfl, hlt, habs, hs0, hs1⟩
        · exact ⟨_, _, _, _, i, rfl, same, rfl, hi, hr0, hs0, hs1⟩
      · exact iteF ⟨_, _, _, _, i, rfl, same, rfl, hi, hr0, hs0, hs1⟩
    · clear hd hi hr0 hs0 hs1
      rintro σ' H' ⟨i, r, sd, x2, i', rfl, rfl, rfl, hi, hr0, hs0, hs1⟩
      have hcd : ∀ o, (upd H d o) c = some (.lst (ns.map V.int)) := fun o => by rw [upd_ne ncd]; exact hc
      refine ⟨_, rfl, d, _, 2, _, rfl, rfl, SqL.of upd_same, at2, _, _, rfl, rfl, _, rfl, ite2 (fun e => ?_) (fun e => ?_)⟩
      · refine ⟨_, rfl, d, _, 2, _, rfl, rfl, SqL.of upd_same, at2, .inl ⟨_, rfl, _, rfl, _, _, rfl, rfl, hm, ?_⟩⟩
        refine ⟨_, rfl, d, _, 2, _, rfl, rfl, SqL.of upd_same, at2, .inl ⟨_, rfl, _, rfl, _, _, rfl, rfl, bndW hm hb, _, rfl, d, _, 2, 2, rfl, rfl, upd_same, rfl, ?_⟩⟩
        rw [upd_upd]
        refine ⟨_, rfl, ?_⟩
        exact q _ _ But.upd ⟨ns, i', _, sd, ncd, upd_same, hcd _, hi, Int.ediv_nonneg hr0 (by omega), hs0, hs1⟩ (Int.emod_nonneg _ (by omega)) (Int.emod_lt_of_pos _ hm)
      · refine ⟨_, rfl, d, _, 3, _, rfl, rfl, SqL.of upd_same, at3, _, _, rfl, rfl, .inl ⟨by omega, by omega⟩, _, _, rfl, rfl, .inl ⟨_, rfl, _, _, rfl, rfl, (by show (0 : Int) < 2147483647; decide), _, rfl, d, _, 3, 3, rfl, rfl, upd_same, rfl, ?_⟩⟩
        rw [upd_upd]
        refine ⟨_, rfl, d, _, 3, _, rfl, rfl, SqL.of upd_same, at3, _, _, rfl, rfl, ⟨by decide, by decide⟩, .inl ⟨_, rfl, _, rfl, _, _, rfl, rfl, hm, ?_⟩⟩
        exact q _ _ But.upd ⟨ns, i', r, _, ncd, upd_same, hcd _, hi, hr0, Int.emod_nonneg _ (by decide), Int.emod_lt_of_pos _ (by decide)⟩ (Int.emod_nonneg _ (by omega)) (Int.emod_lt_of_pos _ hm)
def spSigned : Sp := fun vs H Q _ => ∃ (d c : Addr) (m : Int), vs = [.ref d, .int m] ∧ DrAt H d c ∧ 0 ≤ m ∧ Bnd (2 * m + 1) ∧
  ∀ H' v, But d H H' → DrAt H' d c → -m ≤ v → v ≤ m → Q (.int v) H'
theorem scS : FnScope ["d", "most"] ["d", "most"] (defScope sSigned) := ⟨rfl, rfl, rfl, by decide +kernel, rfl, by decide +kernel, by decide +kernel⟩
theorem ok_signed {f fT : Addr} {fd fdT : FuncData} (F : Fun K "_law_signed" "_law_signed" sSigned f fd) (GT : FnOk P w K mg base CX0 1 fT fdT ["d", "many"] spTake) (kT : PySem.W.keepIn K (.ref fT) = true) (bT : Binds K fdT ["d", "many"] []) (gT : mg "_law_take" = some (.ref fT)) : FnOk P w K mg base CX0 2 f fd ["d", "most"] spSigned := by
  refine F.ok scS (fun vs H Q E h => ?_) (fun cdv A outer s H vs Q E hr h => ?_)
  · obtain ⟨d, c, m, rfl, _⟩ := h
    rfl
  · obtain ⟨d, c, m, rfl, dr, h0, hb, q⟩ := h
    refine ⟨_, pss_one (ps_ret (pe_op op_sub (pe_call GT hr (by rfl) gT kT bT .nil pass0 (pa_cons (pv 0) (pa_cons (pe_op op_add (pe_op op_mul pe_int (pv 1)) pe_int) pa_nil))) (pv 1))), ?_⟩
    refine ⟨_, rfl, _, rfl, _, _, rfl, rfl, .inl ⟨by omega, by omega⟩, _, _, rfl, rfl, d, c, _, rfl, dr, by omega, hb, fun H' v k dr' v0 v1 => ?_⟩
    exact ⟨_, rfl, _, _, rfl, rfl, q _ _ k dr' (by omega) (by omega)⟩
def spInt : Sp := fun vs H Q _ => ∃ (i : Int), vs = [.int i] ∧ Q (.bl true) H
theorem scN : FnScope ["actual"] ["actual"] (defScope sInt) := ⟨rfl, rfl, rfl, by decide +kernel, rfl, by decide +kernel, by decide +kernel⟩
theorem ok_int {f : Addr} {fd : FuncData} (F : Fun K "_law_int" "_law_int" sInt f fd) (mi : mg "isinstance" = none) (mn : mg "int" = none) (mb : mg "bool" = none) : FnOk P w K mg base CX0 1 f fd ["actual"] spInt := by
  refine F.ok scN (fun vs H Q E h => ?_) (fun cdv A outer s H vs Q E hr h => ?_)
  · obtain ⟨i, rfl, _⟩ := h
    rfl
  · obtain ⟨i, rfl, q⟩ := h
    refine ⟨_, pss_one (ps_ret (pe_and (pe_callB call_isi (by rfl) mi (by decide +kernel) (pa_cons (pv 0) (pa_cons (pe_bltn (v := .ty "int") (by rfl) mn (by decide +kernel) rfl) pa_nil)))
      (pe_one (pe_not (pe_callB call_isi (by rfl) mi (by decide +kernel) (pa_cons (pv 0) (pa_cons (pe_bltn (v := .ty "bool") (by rfl) mb (by decide +kernel) rfl) pa_nil))))))), ?_⟩
    refine ⟨_, rfl, _, _, _, _, true, rfl, ClsV.ty "int", TyX.base (TyOf.int i), kit_ty (by decide +kernel), _, rfl, iteT ?_⟩
    exact ⟨_, rfl, _, _, _, _, false, rfl, ClsV.ty "bool", TyX.base (TyOf.int i), kit_ty (by decide +kernel), _, rfl, q⟩

/-! ### the makers -/
theorem new_tup {H : Hp} {p : Addr} {o : HO} (h : H p = none) : Same H (upd H p o) := fun b x e => by
  rw [upd_ne (ne_of_none e h)]
  exact e
abbrev VI : List Str := ["values", "info"]
theorem g0 {a : V} {r : List V} : atI (a :: r) (0 : Int) = some a := atI_nat (j := 0) rfl
theorem g1 {a b : V} {r : List V} : atI (a :: b :: r) (1 : Int) = some b := atI_nat (j := 1) rfl
theorem g2 {a b c : V} {r : List V} : atI (a :: b :: c :: r) (2 : Int) = some c := atI_nat (j := 2) rfl
/-- of two numbers -/
def sp2 (C : Int → Int → Prop) (g : Int → Int → Int) : Sp := fun vs H Q _ => ∃ (p i : Addr) (a b : Int), vs = [.ref p, .ref i] ∧ H p = some (.tup [.int a, .int b]) ∧ C a b ∧ Q (.int (g a b)) H
def spA (C : Int → Int → Prop) (g : Int → Int → Int) : Sp := sp2 C g
def mx (a b : Int) : Int := if b > a then b else a
def mn (a b : Int) : Int := if b < a then b else a
def sc (st : Stmt) : Prop := FnScope VI VI (defScope st)
theorem scsAdd : FnScope VI VI (defScope sAdd) := ⟨rfl, rfl, rfl, by decide +kernel, rfl, by decide +kernel, by decide +kernel⟩
theorem ok_add {f : Addr} {fd : FuncData} (F : Fun K "_add" "_add" sAdd f fd) : FnOk P w K mg base CX0 1 f fd VI (sp2 (fun _ _ => True) (fun a b => a + b)) := by
  refine F.ok scsAdd (fun vs H Q E h => ?_) (fun cdv A outer s H vs Q E hr h => ?_)
  · obtain ⟨p, i, _, _, rfl, _⟩ := h
    rfl
  · obtain ⟨p, i, a, b, rfl, hp, hc, q⟩ := h
    refine ⟨_, pss_one (ps_ret (pe_op op_add (pe_ix ix_tup (pv 0) pe_int (fun _ _ => rfl)) (pe_ix ix_tup (pv 0) pe_int (fun _ _ => rfl)))), ?_⟩
    exact ⟨_, rfl, p, _, _, _, rfl, rfl, SqT.of hp, g0, _, rfl, p, _, _, _, rfl, rfl, SqT.of hp, g1, _, _, rfl, rfl, q⟩
theorem scsSub : FnScope VI VI (defScope sSub) := ⟨rfl, rfl, rfl, by decide +kernel, rfl, by decide +kernel, by decide +kernel⟩
theorem ok_sub {f : Addr} {fd : FuncData} (F : Fun K "_sub" "_sub" sSub f fd) : FnOk P w K mg base CX0 1 f fd VI (sp2 (fun _ _ => True) (fun a b => a - b)) := by
  refine F.ok scsSub (fun vs H Q E h => ?_) (fun cdv A outer s H vs Q E hr h => ?_)
  · obtain ⟨p, i, _, _, rfl, _⟩ := h
    rfl
  · obtain ⟨p, i, a, b, rfl, hp, hc, q⟩ := h
    refine ⟨_, pss_one (ps_ret (pe_op op_sub (pe_ix ix_tup (pv 0) pe_int (fun _ _ => rfl)) (pe_ix ix_tup (pv 0) pe_int (fun _ _ => rfl)))), ?_⟩
    exact ⟨_, rfl, p, _, _, _, rfl, rfl, SqT.of hp, g0, _, rfl, p, _, _, _, rfl, rfl, SqT.of hp, g1, _, _, rfl, rfl, q⟩
theorem scsMul : FnScope VI VI (defScope sMul) := ⟨rfl, rfl, rfl, by decide +kernel, rfl, by decide +kernel, by decide +kernel⟩
theorem ok_mul {f : Addr} {fd : FuncData} (F : Fun K "_mul" "_mul" sMul f fd) : FnOk P w K mg base CX0 1 f fd VI (sp2 (CMulW) (fun a b => a * b)) := by
  refine F.ok scsMul (fun vs H Q E h => ?_) (fun cdv A outer s H vs Q E hr h => ?_)
  · obtain ⟨p, i, _, _, rfl, _⟩ := h
    rfl
  · obtain ⟨p, i, a, b, rfl, hp, hc, q⟩ := h
    refine ⟨_, pss_one (ps_ret (pe_op op_mulW (pe_ix ix_tup (pv 0) pe_int (fun _ _ => rfl)) (pe_ix ix_tup (pv 0) pe_int (fun _ _ => rfl)))), ?_⟩
    exact ⟨_, rfl, p, _, _, _, rfl, rfl, SqT.of hp, g0, _, rfl, p, _, _, _, rfl, rfl, SqT.of hp, g1, _, _, rfl, rfl, hc, q⟩
theorem scsMax : FnScope VI VI (defScope sMax) := ⟨rfl, rfl, rfl, by decide +kernel, rfl, by decide +kernel, by decide +kernel⟩
theorem ok_max {f : Addr} {fd : FuncData} (F : Fun K "_max" "_max" sMax f fd) (m : mg "max" = none) : FnOk P w K mg base CX0 1 f fd VI (sp2 (fun _ _ => True) mx) := by
  refine F.ok scsMax (fun vs H Q E h => ?_) (fun cdv A outer s H vs Q E hr h => ?_)
  · obtain ⟨p, i, _, _, rfl, _⟩ := h
    rfl
  · obtain ⟨p, i, a, b, rfl, hp, hc, q⟩ := h
    refine ⟨_, pss_one (ps_ret (pe_callB (call_max2 rfl) (by rfl) m (by decide +kernel) (pa_cons (pe_ix ix_tup (pv 0) pe_int (fun _ _ => rfl)) (pa_cons (pe_ix ix_tup (pv 0) pe_int (fun _ _ => rfl)) pa_nil)))), ?_⟩
    exact ⟨_, rfl, p, _, _, _, rfl, rfl, SqT.of hp, g0, _, rfl, p, _, _, _, rfl, rfl, SqT.of hp, g1, a, b, rfl, q⟩
theorem scsMin : FnScope VI VI (defScope sMin) := ⟨rfl, rfl, rfl, by decide +kernel, rfl, by decide +kernel, by decide +kernel⟩
theorem ok_min {f : Addr} {fd : FuncData} (F : Fun K "_min" "_min" sMin f fd) (m : mg "min" = none) : FnOk P w K mg base CX0 1 f fd VI (sp2 (fun _ _ => True) mn) := by
  refine F.ok scsMin (fun vs H Q E h => ?_) (fun cdv A outer s H vs Q E hr h => ?_)
  · obtain ⟨p, i, _, _, rfl, _⟩ := h
    rfl
  · obtain ⟨p, i, a, b, rfl, hp, hc, q⟩ := h
    refine ⟨_, pss_one (ps_ret (pe_callB (call_min2 rfl) (by rfl) m (by decide +kernel) (pa_cons (pe_ix ix_tup (pv 0) pe_int (fun _ _ => rfl)) (pa_cons (pe_ix ix_tup (pv 0) pe_int (fun _ _ => rfl)) pa_nil)))), ?_⟩
    exact ⟨_, rfl, p, _, _, _, rfl, rfl, SqT.of hp, g0, _, rfl, p, _, _, _, rfl, rfl, SqT.of hp, g1, a, b, rfl, q⟩
theorem scsLess : FnScope VI VI (defScope sLess) := ⟨rfl, rfl, rfl, by decide +kernel, rfl, by decide +kernel, by decide +kernel⟩
theorem ok_less {f : Addr} {fd : FuncData} (F : Fun K "_less" "_less" sLess f fd) : FnOk P w K mg base CX0 1 f fd VI (sp2 (fun _ _ => True) (fun a b => if a < b then 1 else 0)) := by
  refine F.ok scsLess (fun vs H Q E h => ?_) (fun cdv A outer s H vs Q E hr h => ?_)
  · obtain ⟨p, i, _, _, rfl, _⟩ := h
    rfl
  · obtain ⟨p, i, a, b, rfl, hp, hc, q⟩ := h
    refine ⟨_, pss_one (ps_ret (pe_ifExp (pt_cmpR op_lt (pe_ix ix_tup (pv 0) pe_int (fun _ _ => rfl)) (pe_ix ix_tup (pv 0) pe_int (fun _ _ => rfl)) (nomark _)) pe_int pe_int)), ?_⟩
    refine ⟨_, rfl, p, _, _, _, rfl, rfl, SqT.of hp, g0, _, rfl, p, _, _, _, rfl, rfl, SqT.of hp, g1, _, _, rfl, rfl, _, rfl, ite2 (fun e => ?_) (fun e => ?_)⟩
    · have q : Q (V.int (if a < b then 1 else 0)) H := q
      rw [if_pos (of_decide_eq_true e)] at q
      exact q
    · have q : Q (V.int (if a < b then 1 else 0)) H := q
      rw [if_neg (fun z => e (decide_eq_true z))] at q
      exact q
theorem scsEqual : FnScope VI VI (defScope sEqual) := ⟨rfl, rfl, rfl, by decide +kernel, rfl, by decide +kernel, by decide +kernel⟩
theorem ok_equal {f : Addr} {fd : FuncData} (F : Fun K "_equal" "_equal" sEqual f fd) : FnOk P w K mg base CX0 1 f fd VI (sp2 (fun _ _ => True) (fun a b => if a = b then 1 else 0)) := by
  refine F.ok scsEqual (fun vs H Q E h => ?_) (fun cdv A outer s H vs Q E hr h => ?_)
  · obtain ⟨p, i, _, _, rfl, _⟩ := h
    rfl
  · obtain ⟨p, i, a, b, rfl, hp, hc, q⟩ := h
    refine ⟨_, pss_one (ps_ret (pe_ifExp (pt_cmpR op_eq (pe_ix ix_tup (pv 0) pe_int (fun _ _ => rfl)) (pe_ix ix_tup (pv 0) pe_int (fun _ _ => rfl)) (nomark _)) pe_int pe_int)), ?_⟩
    refine ⟨_, rfl, p, _, _, _, rfl, rfl, SqT.of hp, g0, _, rfl, p, _, _, _, rfl, rfl, SqT.of hp, g1, rfl, _, rfl, ite2 (fun e => ?_) (fun e => ?_)⟩
    · have q : Q (V.int (if a = b then 1 else 0)) H := q
      rw [if_pos (V.int.inj (of_decide_eq_true e))] at q
      exact q
    · have q : Q (V.int (if a = b then 1 else 0)) H := q
      rw [if_neg (fun z => e (decide_eq_true (congrArg V.int z)))] at q
      exact q

def sp1 (g : Int → Int) : Sp := fun vs H Q _ => ∃ (p i : Addr) (a : Int), vs = [.ref p, .ref i] ∧ H p = some (.tup [.int a]) ∧ Q (.int (g a)) H
theorem scsNeg : FnScope VI VI (defScope sNeg) := ⟨rfl, rfl, rfl, by decide +kernel, rfl, by decide +kernel, by decide +kernel⟩
theorem ok_neg {f : Addr} {fd : FuncData} (F : Fun K "_neg" "_neg" sNeg f fd) : FnOk P w K mg base CX0 1 f fd VI (sp1 fun a => -a) := by
  refine F.ok scsNeg (fun vs H Q E h => ?_) (fun cdv A outer s H vs Q E hr h => ?_)
  · obtain ⟨p, i, _, rfl, _⟩ := h
    rfl
  · obtain ⟨p, i, a, rfl, hp, q⟩ := h
    exact ⟨_, pss_one (ps_ret (pe_un un_neg (pe_ix ix_tup (pv 0) pe_int (fun _ _ => rfl)))), _, rfl, p, _, _, _, rfl, rfl, SqT.of hp, g0, _, rfl, q⟩
def lim (n low high : Int) : Int := if n < low then low else if high < n then high else n
def spLimit : Sp := fun vs H Q _ => ∃ n l h : Int, vs = [.int n, .int l, .int h] ∧ Q (.int (lim n l h)) H
theorem scsLimit : FnScope ["n", "low", "high"] ["n", "low", "high"] (defScope sLimit) := ⟨rfl, rfl, rfl, by decide +kernel, rfl, by decide +kernel, by decide +kernel⟩
theorem ok_limit {f : Addr} {fd : FuncData} (F : Fun K "limit" "limit" sLimit f fd) : FnOk P w K mg base CX0 1 f fd ["n", "low", "high"] spLimit := by
  refine F.ok scsLimit (fun vs H Q E h => ?_) (fun cdv A outer s H vs Q E hr h => ?_)
  · obtain ⟨_, _, _, rfl, _⟩ := h
    rfl
  · obtain ⟨n, l, u, rfl, q⟩ := h
    refine ⟨_, pss_cons (ps_if (pt_cmpR op_lt (pv 0) (pv 1) (nomark _)) (pss_one (ps_ret (pv 1))) pss_nil) (pss_cons (ps_if (pt_cmpR op_gt (pv 0) (pv 2) (nomark _)) (pss_one (ps_ret (pv 2))) pss_nil) (pss_one (ps_ret (pv 0)))), ?_⟩
    unfold lim at q
    refine ⟨_, rfl, _, rfl, _, _, rfl, rfl, _, rfl, ite2 (fun e => ?_) (fun e => ?_)⟩
    · rw [if_pos (of_decide_eq_true e)] at q
      exact ⟨_, rfl, q⟩
    · rw [if_neg (fun z => e (decide_eq_true z))] at q
      refine ⟨_, rfl, _, rfl, _, _, rfl, rfl, _, rfl, ite2 (fun e => ?_) (fun e => ?_)⟩
      · rw [if_pos (of_decide_eq_true e)] at q
        exact ⟨_, rfl, q⟩
      · rw [if_neg (fun z => e (decide_eq_true z))] at q
        exact ⟨_, rfl, q⟩
def spClamp : Sp := fun vs H Q _ => ∃ (p i : Addr) (a l h : Int), vs = [.ref p, .ref i] ∧ H p = some (.tup [.int a]) ∧ H i = some (.tup [.int l, .int h]) ∧ Q (.int (lim a l h)) H
theorem scsClamp : FnScope VI VI (defScope sClamp) := ⟨rfl, rfl, rfl, by decide +kernel, rfl, by decide +kernel, by decide +kernel⟩
theorem ok_clamp {f fL : Addr} {fd fdL : FuncData} (F : Fun K "_clamp" "_clamp" sClamp f fd) (FL : Fun K "limit" "limit" sLimit fL fdL) (bL : Binds K fdL ["n", "low", "high"] []) (gL : mg "limit" = some (.ref fL)) : FnOk P w K mg base CX0 2 f fd VI spClamp := by
  have GL : FnOk P w K mg base CX0 1 fL fdL ["n", "low", "high"] spLimit := ok_limit FL
  refine F.ok scsClamp (fun vs H Q E h => ?_) (fun cdv A outer s H vs Q E hr h => ?_)
  · obtain ⟨p, i, _, _, _, rfl, _⟩ := h
    rfl
  · obtain ⟨p, i, a, l, u, rfl, hp, hi, q⟩ := h
    refine ⟨_, pss_one (ps_ret (pe_call GL hr (by rfl) gL FL.kp bL .nil pass0 (pa_cons (pe_ix ix_tup (pv 0) pe_int (fun _ _ => rfl)) (pa_cons (pe_ix ix_tup (pv 1) pe_int (fun _ _ => rfl)) (pa_cons (pe_ix ix_tup (pv 1) pe_int (fun _ _ => rfl)) pa_nil))))), ?_⟩
    exact ⟨_, rfl, p, _, _, _, rfl, rfl, SqT.of hp, g0, _, rfl, i, _, _, _, rfl, rfl, SqT.of hi, g0, _, rfl, i, _, _, _, rfl, rfl, SqT.of hi, g1, a, l, u, rfl, q⟩
def shf (x : Int) (n : Nat) : Int := (x + 2 ^ (n - 1)) / 2 ^ n
def spShift : Sp := fun vs H Q _ => ∃ (p i : Addr) (a : Int) (n : Nat), vs = [.ref p, .ref i] ∧ H p = some (.tup [.int a]) ∧ H i = some (.tup [.int (n : Int)]) ∧ 1 ≤ n ∧ n ≤ 30 ∧ Q (.int (shf a n)) H
theorem scsShift : FnScope VI VI (defScope sShift) := ⟨rfl, rfl, rfl, by decide +kernel, rfl, by decide +kernel, by decide +kernel⟩
theorem ok_shift {f : Addr} {fd : FuncData} (F : Fun K "_shift" "_shift" sShift f fd) : FnOk P w K mg base CX0 1 f fd VI spShift := by
  refine F.ok scsShift (fun vs H Q E h => ?_) (fun cdv A outer s H vs Q E hr h => ?_)
  · obtain ⟨p, i, _, _, rfl, _⟩ := h
    rfl
  · obtain ⟨p, i, a, n, rfl, hp, hi, n1, n2, q⟩ := h
    refine ⟨_, pss_one (ps_ret (pe_op op_shr (pe_op op_add (pe_ix ix_tup (pv 0) pe_int (fun _ _ => rfl)) (pe_op op_shl pe_int (pe_op op_sub (pe_ix ix_tup (pv 1) pe_int (fun _ _ => rfl)) pe_int))) (pe_ix ix_tup (pv 1) pe_int (fun _ _ => rfl)))), ?_⟩
    refine ⟨_, rfl, p, _, _, _, rfl, rfl, SqT.of hp, g0, _, rfl, i, _, _, _, rfl, rfl, SqT.of hi, g0, _, _, rfl, rfl, _, _, rfl, rfl, ⟨by omega, by omega, by decide⟩, _, _, rfl, rfl, _, rfl, i, _, _, _, rfl, rfl, SqT.of hi, g0, _, _, rfl, rfl, (by show (0 : Int) ≤ n; omega), ?_⟩
    show Q (.int ((a + 1 * 2 ^ ((n : Int) - 1).toNat) / 2 ^ (n : Int).toNat)) H
    rw [Int.one_mul, show ((n : Int) - 1).toNat = n - 1 by omega, Int.toNat_natCast]
    exact q
def spWhere : Sp := fun vs H Q _ => ∃ (p i : Addr) (c a b : Int), vs = [.ref p, .ref i] ∧ H p = some (.tup [.int c, .int a, .int b]) ∧ Q (.int (if c = 0 then b else a)) H
theorem scsWhere : FnScope VI VI (defScope sWhere) := ⟨rfl, rfl, rfl, by decide +kernel, rfl, by decide +kernel, by decide +kernel⟩
theorem ok_where {f : Addr} {fd : FuncData} (F : Fun K "_where" "_where" sWhere f fd) : FnOk P w K mg base CX0 1 f fd VI spWhere := by
  refine F.ok scsWhere (fun vs H Q E h => ?_) (fun cdv A outer s H vs Q E hr h => ?_)
  · obtain ⟨p, i, _, _, _, rfl, _⟩ := h
    rfl
  · obtain ⟨p, i, c, a, b, rfl, hp, q⟩ := h
    refine ⟨_, pss_one (ps_ret (pe_ifExp (pt_cmpR op_ne (pe_ix ix_tup (pv 0) pe_int (fun _ _ => rfl)) pe_int (nomark _)) (pe_ix ix_tup (pv 0) pe_int (fun _ _ => rfl)) (pe_ix ix_tup (pv 0) pe_int (fun _ _ => rfl)))), ?_⟩
    refine ⟨_, rfl, p, _, _, _, rfl, rfl, SqT.of hp, g0, rfl, _, rfl, ?_⟩
    by_cases e : c = 0
    · subst e
      rw [if_pos rfl] at q
      exact iteF ⟨_, rfl, p, _, _, _, rfl, rfl, SqT.of hp, g2, q⟩
    · rw [if_neg e] at q
      rw [decide_eq_false (fun z => e (V.int.inj z))]
      exact iteT ⟨_, rfl, p, _, _, _, rfl, rfl, SqT.of hp, g1, q⟩
/-! ### pointwise -/
/-- the table has a maker with this promise -/
def Mak (P : Program) (w : World) (K : PySem.W.Frag) (mg : Str → Option Value) (base : Heap) (aM : Addr) (kind : Str) (sp : Sp) : Prop :=
  ∃ (f : Addr) (fd : FuncData), FnOk P w K mg base CX0 2 f fd VI sp ∧ PySem.W.keepIn K (.ref f) = true ∧ Binds K fd VI [] ∧ KDct K w aM kind (.ref f)
def spPw (P : Program) (w : World) (K : PySem.W.Frag) (mg : Str → Option Value) (base : Heap) (aM : Addr) : Sp := fun vs H Q _ => ∃ (kind : Str) (p i : Addr) (sp : Sp), vs = [.str kind, .ref p, .ref i] ∧ Mak P w K mg base aM kind sp ∧ sp [.ref p, .ref i] H Q E0
theorem scsPw : FnScope ["kind", "values", "info", "maker"] ["kind", "values", "info"] (defScope sPw) := ⟨rfl, rfl, rfl, by decide +kernel, rfl, by decide +kernel, by decide +kernel⟩
theorem ok_pw {f aM : Addr} {fd : FuncData} (F : Fun K "pointwise" "pointwise" sPw f fd) (gM : mg "_MAKERS" = some (.ref aM)) : FnOk P w K mg base CX0 3 f fd ["kind", "values", "info"] (spPw P w K mg base aM) := by
  refine F.ok scsPw (fun vs H Q E h => ?_) (fun cdv A outer s H vs Q E hr h => ?_)
  · obtain ⟨kind, p, i, sp, rfl, _⟩ := h
    rfl
  · obtain ⟨kind, p, i, sp, rfl, ⟨fm, fdm, G, km, bm, kd⟩, q⟩ := h
    refine ⟨_, pss_cons (ps_set (i := 3) scsPw.nd rfl (.inl rfl) (pe_ix ix_kdict (pe_glob (v := .ref aM) (by rfl) gM rfl) (pv 0) (fun _ _ => rfl)))
      (pss_one (ps_ret (pe_callL (i := 3) (f := fm) (sp := sp) (dvs := []) (E := E0) G hr rfl (Or.inl rfl) km bm .nil pass0 (pa_cons (pv 1) (pa_cons (pv 2) pa_nil))))), ?_⟩
    exact ⟨_, rfl, aM, kind, _, rfl, rfl, kd, rfl, _, rfl, _, rfl, q⟩

/-! ### the law's defs -/
abbrev I58 : Int := (10 : Int) ^ (58 : Int).toNat
theorem ten58 : I58 = 10000000000000000000000000000000000000000000000000000000000 := by decide +kernel
theorem bnd58 : Bnd (2 * I58 + 1) := by unfold Bnd; decide +kernel
theorem bnd_small {m : Int} (h : m ≤ 2001) : Bnd m := by
  unfold Bnd
  have : (2001 : Int) < 2 ^ 400 := by decide +kernel
  omega
theorem bg250 {v : Int} (h0 : -(10 ^ 60) ≤ v) (h1 : v ≤ 10 ^ 60) : Bg 250 v := by
  unfold Bg
  have : (10 ^ 60 : Nat) < 2 ^ 250 := by decide +kernel
  have e : (10 ^ 60 : Int) = ((10 ^ 60 : Nat) : Int) := by decide +kernel
  rw [e] at h0 h1
  generalize (10 ^ 60 : Nat) = B at *
  generalize (2 ^ 250 : Nat) = B2 at *
  omega
def spNumber : Sp := fun vs H Q _ => ∃ (d c : Addr), vs = [.ref d] ∧ DrAt H d c ∧ ∀ H' v, But d H H' → DrAt H' d c → Bg 250 v → Q (.int v) H'
theorem scK : FnScope ["d", "n"] ["d"] (defScope sNumber) := ⟨rfl, rfl, rfl, by decide +kernel, rfl, by decide +kernel, by decide +kernel⟩
theorem ok_number {f fT fS : Addr} {fd fdT fdS : FuncData} (F : Fun K "_law_number" "_law_number" sNumber f fd)
    (GT : FnOk P w K mg base CX0 1 fT fdT ["d", "many"] spTake) (kT : PySem.W.keepIn K (.ref fT) = true) (bT : Binds K fdT ["d", "many"] []) (gT : mg "_law_take" = some (.ref fT))
    (GS : FnOk P w K mg base CX0 2 fS fdS ["d", "most"] spSigned) (kS : PySem.W.keepIn K (.ref fS) = true) (bS : Binds K fdS ["d", "most"] []) (gS : mg "_law_signed" = some (.ref fS)) :
    FnOk P w K mg base CX0 3 f fd ["d"] spNumber := by
  refine F.ok scK (fun vs H Q E h => ?_) (fun cdv A outer s H vs Q E hr h => ?_)
  · obtain ⟨d, c, rfl, _⟩ := h
    rfl
  · obtain ⟨d, c, rfl, dr, q⟩ := h
    have hr1 : Room 1 _ := hr.mono (by decide)
    refine ⟨_, pss_cons (ps_set (i := 1) scK.nd rfl (.inl rfl) (pe_call GS hr (by rfl) gS kS bS .nil pass0 (pa_cons (pv 0) (pa_cons pe_int pa_nil))))
      (pss_cons (ps_if (pt_cmpR op_eq (pe_call GT hr1 (by rfl) gT kT bT .nil pass0 (pa_cons (pv 0) (pa_cons pe_int pa_nil))) pe_int (nomark _))
        (pss_one (ps_set (i := 1) scK.nd rfl (.inl rfl) (pe_op op_add (pe_op op_mul (pv 1) (pe_op op_pow pe_int pe_int)) (pe_call GS hr (by rfl) gS kS bS .nil pass0 (pa_cons (pv 0) (pa_cons (pe_op op_pow pe_int pe_int) pa_nil)))))) pss_nil)
      (pss_one (ps_ret (pv 1)))), ?_⟩
    refine ⟨_, rfl, d, c, 6, rfl, dr, by decide, bnd_small (by decide), fun H1 v k1 dr1 v0 v1 => ?_⟩
    refine ⟨_, rfl, d, c, 4, rfl, dr1, by decide, bnd_small (by decide), fun H2 u k2 dr2 u0 u1 => ⟨rfl, _, rfl, ite2 (fun e => ?_) (fun e => ?_)⟩⟩
    · refine ⟨_, rfl, _, _, rfl, rfl, ⟨by decide, by decide, by decide⟩, _, _, rfl, rfl, .inl ⟨by omega, by omega⟩, ?_⟩
      refine ⟨_, rfl, _, _, rfl, rfl, ⟨by decide, by decide, by decide⟩, d, c, _, rfl, dr2, by show (0 : Int) ≤ I58; rw [ten58]; decide, bnd58, fun H3 z k3 dr3 z0 z1 => ?_⟩
      refine ⟨_, _, rfl, rfl, _, rfl, q _ _ ((k1.trans k2).trans k3) dr3 ?_⟩
      have z0' : -I58 ≤ z := z0
      have z1' : z ≤ I58 := z1
      show Bg 250 (v * I58 + z)
      rw [ten58] at z0' z1' ⊢
      exact bg250 (by omega) (by omega)
    · exact ⟨_, rfl, q _ _ (k1.trans k2) dr2 (bg250 (by omega) (by omega))⟩
theorem scU : FnScope ["x", "n", "found", "full", "k"] ["x", "n", "found"] (defScope sRounded) := ⟨rfl, rfl, rfl, by decide +kernel, rfl, by decide +kernel, by decide +kernel⟩
def spRounded : Sp := fun vs H Q _ => ∃ (x : Int) (n : Nat) (f : Int), vs = [.int x, .int (n : Int), .int f] ∧ n ≤ 30 ∧ Bg 300 f ∧ Q (.bl (decide ((2 * f - 1) * 2 ^ n ≤ 2 * x ∧ 2 * x < (2 * f + 1) * 2 ^ n))) H
theorem two : Bg 2 2 := by unfold Bg; decide
theorem pow_bg {n : Nat} (h : n ≤ 30) : Bg 40 ((2 : Int) ^ n) := by
  unfold Bg
  rw [Int.natAbs_pow]
  exact Nat.pow_lt_pow_right (by decide) (by omega)
theorem ok_rounded {f : Addr} {fd : FuncData} (F : Fun K "_law_rounded" "_law_rounded" sRounded f fd) (mr : mg "range" = none) : FnOk P w K mg base CX0 1 f fd ["x", "n", "found"] spRounded := by
  refine F.ok scU (fun vs H Q E h => ?_) (fun cdv A outer s H vs Q E hr h => ?_)
  · obtain ⟨_, _, _, rfl, _⟩ := h
    rfl
  · obtain ⟨x, n, y, rfl, hn, hy, q⟩ := h
    refine ⟨_, pss_cons (ps_set (i := 3) scU.nd rfl (.inl rfl) pe_int)
      (pss_cons (ps_for PassesOwn.never rfl (pi_range1 rfl mr (pa_cons (pv 1) pa_nil)) (pg_name (i := 4) scU.nd rfl (.inl rfl)) (pss_one (ps_set (i := 3) scU.nd rfl (.inl rfl) (pe_op op_mul (pv 3) pe_int))))
      (pss_one (ps_ret (pe_chain op_le op_lt (pe_op op_mulW (pe_op op_sub (pe_op op_mul pe_int (pv 2)) pe_int) (pv 3)) (pe_op op_mul pe_int (pv 0)) (pe_op op_mulW (pe_op op_add (pe_op op_mul pe_int (pv 2)) pe_int) (pv 3)))))), ?_⟩
    refine ⟨_, rfl, _, rfl, by omega, by omega, for_range (lo := 0) (n := (n : Int).toNat) (fun i σ H' => ∃ v4, σ = [some (.int x), some (.int (n : Int)), some (.int y), some (.int (2 ^ i)), v4] ∧ H' = H) ⟨_, rfl, rfl⟩ ?_ ?_⟩
    · rintro i σ H' hi ⟨v4, rfl, rfl⟩
      refine ⟨_, rfl, _, _, rfl, rfl, .inr ⟨by decide, by decide⟩, some (.int ((0 : Int) + (i : Int))), ?_, rfl⟩
      rw [Int.pow_succ]
      rfl
    · rintro σ H' ⟨v4, rfl, rfl⟩
      rw [Int.toNat_natCast]
      have k1 : Bg 303 (2 * y - 1) := ((two.mul hy).sub (show Bg (2 + 300) 1 by unfold Bg; decide +kernel))
      have k2 : Bg 303 (2 * y + 1) := ((two.mul hy).add (show Bg (2 + 300) 1 by unfold Bg; decide +kernel))
      have kp := pow_bg hn
      refine ⟨_, rfl, _, _, rfl, rfl, .inl ⟨by decide, by decide⟩, _, _, rfl, rfl, _, rfl, _, _, rfl, rfl, k1.cmul kp (by decide) (by decide) (by decide), _, rfl, _, _, rfl, rfl, .inl ⟨by decide, by decide⟩, _, _, rfl, rfl, _, rfl, ?_⟩
      by_cases e : (2 * y - 1) * 2 ^ n ≤ 2 * x
      · rw [decide_eq_true e]
        refine iteT ⟨_, rfl, _, _, rfl, rfl, .inl ⟨by decide, by decide⟩, _, _, rfl, rfl, _, rfl, _, _, rfl, rfl, k2.cmul kp (by decide) (by decide) (by decide), _, _, rfl, rfl, ?_⟩
        show Q (.bl (decide (2 * x < (2 * y + 1) * 2 ^ n))) H'
        by_cases e2 : 2 * x < (2 * y + 1) * 2 ^ n
        · rw [decide_eq_true (show (2 * y - 1) * 2 ^ n ≤ 2 * x ∧ 2 * x < (2 * y + 1) * 2 ^ n from ⟨e, e2⟩)] at q
          rw [decide_eq_true e2]
          exact q
        · rw [decide_eq_false (fun z => e2 z.2)] at q
          rw [decide_eq_false e2]
          exact q
      · rw [decide_eq_false (fun z => e z.1)] at q
        rw [decide_eq_false e]
        exact iteF q
theorem shf_fits (x : Int) {n : Nat} (h : 1 ≤ n) : (2 * shf x n - 1) * 2 ^ n ≤ 2 * x ∧ 2 * x < (2 * shf x n + 1) * 2 ^ n := by
  unfold shf
  obtain ⟨m, rfl⟩ : ∃ m, n = m + 1 := ⟨n - 1, by omega⟩
  rw [Nat.add_sub_cancel, Int.pow_succ]
  have hp : (0 : Int) < 2 ^ m := Int.pow_pos (by decide)
  generalize (2 : Int) ^ m = g at *
  have e := Int.emod_add_mul_ediv (x + g) (g * 2)
  have h0 := Int.emod_nonneg (x + g) (show g * 2 ≠ 0 by omega)
  have h1 := Int.emod_lt_of_pos (x + g) (show 0 < g * 2 by omega)
  generalize (x + g) / (g * 2) = z at *
  have e3 : (2 * z - 1) * (g * 2) = 2 * (g * 2 * z) - g * 2 := by
    rw [Int.sub_mul, Int.one_mul, Int.mul_assoc, Int.mul_comm z (g * 2)]
  have e4 : (2 * z + 1) * (g * 2) = 2 * (g * 2 * z) + g * 2 := by
    rw [Int.add_mul, Int.one_mul, Int.mul_assoc, Int.mul_comm z (g * 2)]
  rw [e3, e4]
  omega
theorem shf_bg {x : Int} {n : Nat} (h : Bg 250 x) (hn : n ≤ 30) : Bg 300 (shf x n) := by
  unfold shf
  have h1 : Bg 251 (x + 2 ^ (n - 1)) := h.add ((pow_bg (show n - 1 ≤ 30 by omega)).mono (by decide))
  have := Int.natAbs_ediv_le_natAbs (x + 2 ^ (n - 1)) (2 ^ n)
  refine Bg.mono (n := 252) ?_ (by decide)
  unfold Bg at *
  rw [Nat.pow_succ]
  omega
theorem scW : FnScope ["kind", "a", "b", "found"] ["kind", "a", "b", "found"] (defScope sTwo) := ⟨rfl, rfl, rfl, by decide +kernel, rfl, by decide +kernel, by decide +kernel⟩
inductive Two (a b : Int) : Str → Int → Prop
  | add : Two a b "add" (a + b)
  | sub : Two a b "sub" (a - b)
  | mul : Two a b "mul" (a * b)
  | max : Two a b "max" (mx a b)
  | min : Two a b "min" (mn a b)
  | less : Two a b "less" (if a < b then 1 else 0)
  | equal : Two a b "equal" (if a = b then 1 else 0)
def spTwo : Sp := fun vs H Q _ => ∃ (k : Str) (a b r : Int), vs = [.str k, .int a, .int b, .int r] ∧ Two a b k r ∧ Bg 250 a ∧ Bg 250 b ∧ Q (.bl true) H
theorem ok_two {f : Addr} {fd : FuncData} (F : Fun K "_law_two" "_law_two" sTwo f fd) : FnOk P w K mg base CX0 1 f fd ["kind", "a", "b", "found"] spTwo := by
  refine F.ok scW (fun vs H Q E h => ?_) (fun cdv A outer s H vs Q E hr h => ?_)
  · obtain ⟨_, _, _, _, rfl, _⟩ := h
    rfl
  · obtain ⟨k, a, b, r, rfl, ht, ha, hb, q⟩ := h
    refine ⟨_, pss_cons (ps_if (pt_cmpR op_eq (pv 0) pe_str (nomark _)) (pss_one (ps_ret (pe_cmpR op_eq (pe_op op_sub (pv 3) (pv 1)) (pv 2) (nomark _)))) pss_nil)
      (pss_cons (ps_if (pt_cmpR op_eq (pv 0) pe_str (nomark _)) (pss_one (ps_ret (pe_cmpR op_eq (pe_op op_add (pv 3) (pv 2)) (pv 1) (nomark _)))) pss_nil)
      (pss_cons (ps_if (pt_cmpR op_eq (pv 0) pe_str (nomark _)) (pss_one (ps_ret (pe_cmpR op_eq (pv 3) (pe_op op_mulW (pv 1) (pv 2)) (nomark _)))) pss_nil)
      (pss_cons (ps_if (pt_cmpR op_eq (pv 0) pe_str (nomark _)) (pss_one (ps_ret (pe_and (pe_cmpR op_ge (pv 3) (pv 1) (nomark _)) (pe_and (pe_cmpR op_ge (pv 3) (pv 2) (nomark _)) (pe_one (pe_or (pe_cmpR op_eq (pv 3) (pv 1) (nomark _)) (pe_one (pe_cmpR op_eq (pv 3) (pv 2) (nomark _))))))))) pss_nil)
      (pss_cons (ps_if (pt_cmpR op_eq (pv 0) pe_str (nomark _)) (pss_one (ps_ret (pe_and (pe_cmpR op_le (pv 3) (pv 1) (nomark _)) (pe_and (pe_cmpR op_le (pv 3) (pv 2) (nomark _)) (pe_one (pe_or (pe_cmpR op_eq (pv 3) (pv 1) (nomark _)) (pe_one (pe_cmpR op_eq (pv 3) (pv 2) (nomark _))))))))) pss_nil)
      (pss_cons (ps_if (pt_cmpR op_eq (pv 0) pe_str (nomark _)) (pss_one (ps_ret (pe_cmpR op_eq (pv 3) (pe_ifExp (pt_cmpR op_lt (pv 1) (pv 2) (nomark _)) pe_int pe_int) (nomark _)))) pss_nil)
      (pss_one (ps_ret (pe_cmpR op_eq (pv 3) (pe_ifExp (pt_cmpR op_eq (pv 1) (pv 2) (nomark _)) pe_int pe_int) (nomark _))))))))), ?_⟩
    have yes : ∀ {u v : Int}, u = v → Q (.bl (decide (V.int u = V.int v))) H := fun e => by rw [decide_eq_true (congrArg V.int e)]; exact q
    cases ht with
    | add =>
      refine ⟨_, rfl, rfl, _, rfl, iteT ⟨_, rfl, _, rfl, _, _, rfl, rfl, _, rfl, rfl, yes (by omega)⟩⟩
    | sub =>
      refine ⟨_, rfl, rfl, _, rfl, iteF ⟨_, rfl, rfl, _, rfl, iteT ⟨_, rfl, _, rfl, _, _, rfl, rfl, _, rfl, rfl, yes (by omega)⟩⟩⟩
    | mul =>
      refine ⟨_, rfl, rfl, _, rfl, iteF ⟨_, rfl, rfl, _, rfl, iteF ⟨_, rfl, rfl, _, rfl, iteT ⟨_, rfl, _, rfl, _, rfl, _, _, rfl, rfl, ha.cmul hb (by decide) (by decide) (by decide), rfl, yes rfl⟩⟩⟩⟩
    | max =>
      have h1 : a ≤ mx a b ∧ b ≤ mx a b ∧ (mx a b = a ∨ mx a b = b) := by unfold mx; split <;> omega
      refine ⟨_, rfl, rfl, _, rfl, iteF ⟨_, rfl, rfl, _, rfl, iteF ⟨_, rfl, rfl, _, rfl, iteF ⟨_, rfl, rfl, _, rfl, iteT ?_⟩⟩⟩⟩
      generalize mx a b = r at *
      refine ⟨_, rfl, _, rfl, _, _, rfl, rfl, _, rfl, ?_⟩
      rw [decide_eq_true h1.1]
      refine iteT ⟨_, rfl, _, rfl, _, _, rfl, rfl, _, rfl, ?_⟩
      rw [decide_eq_true h1.2.1]
      refine iteT ⟨_, rfl, _, rfl, rfl, _, rfl, ?_⟩
      rcases h1.2.2 with e | e
      · rw [decide_eq_true (congrArg V.int e)]
        exact iteT q
      · by_cases g : r = a
        · rw [decide_eq_true (congrArg V.int g)]
          exact iteT q
        · rw [decide_eq_false (fun z => g (V.int.inj z))]
          exact iteF ⟨_, rfl, _, rfl, rfl, yes e⟩
    | min =>
      have h1 : mn a b ≤ a ∧ mn a b ≤ b ∧ (mn a b = a ∨ mn a b = b) := by unfold mn; split <;> omega
      refine ⟨_, rfl, rfl, _, rfl, iteF ⟨_, rfl, rfl, _, rfl, iteF ⟨_, rfl, rfl, _, rfl, iteF ⟨_, rfl, rfl, _, rfl, iteF ⟨_, rfl, rfl, _, rfl, iteT ?_⟩⟩⟩⟩⟩
      generalize mn a b = r at *
      refine ⟨_, rfl, _, rfl, _, _, rfl, rfl, _, rfl, ?_⟩
      rw [decide_eq_true h1.1]
      refine iteT ⟨_, rfl, _, rfl, _, _, rfl, rfl, _, rfl, ?_⟩
      rw [decide_eq_true h1.2.1]
      refine iteT ⟨_, rfl, _, rfl, rfl, _, rfl, ?_⟩
      rcases h1.2.2 with e | e
      · rw [decide_eq_true (congrArg V.int e)]
        exact iteT q
      · by_cases g : r = a
        · rw [decide_eq_true (congrArg V.int g)]
          exact iteT q
        · rw [decide_eq_false (fun z => g (V.int.inj z))]
          exact iteF ⟨_, rfl, _, rfl, rfl, yes e⟩
    | less =>
      refine ⟨_, rfl, rfl, _, rfl, iteF ⟨_, rfl, rfl, _, rfl, iteF ⟨_, rfl, rfl, _, rfl, iteF ⟨_, rfl, rfl, _, rfl, iteF ⟨_, rfl, rfl, _, rfl, iteF ⟨_, rfl, rfl, _, rfl, iteT ⟨_, rfl, _, rfl, _, rfl, _, _, rfl, rfl, _, rfl, ?_⟩⟩⟩⟩⟩⟩⟩
      refine ite2 (fun e => ⟨rfl, yes ?_⟩) (fun e => ⟨rfl, yes ?_⟩)
      · rw [if_pos (of_decide_eq_true e)]
      · rw [if_neg (fun z => e (decide_eq_true z))]
    | equal =>
      refine ⟨_, rfl, rfl, _, rfl, iteF ⟨_, rfl, rfl, _, rfl, iteF ⟨_, rfl, rfl, _, rfl, iteF ⟨_, rfl, rfl, _, rfl, iteF ⟨_, rfl, rfl, _, rfl, iteF ⟨_, rfl, rfl, _, rfl, iteF ⟨_, rfl, _, rfl, _, rfl, rfl, _, rfl, ?_⟩⟩⟩⟩⟩⟩⟩
      refine ite2 (fun e => ⟨rfl, yes ?_⟩) (fun e => ⟨rfl, yes ?_⟩)
      · rw [if_pos (V.int.inj (of_decide_eq_true e))]
      · rw [if_neg (fun z => e (decide_eq_true (congrArg V.int z)))]

/-! ### the law -/
def kinds1 : List Str := ["input", "const", "add", "sub", "mul", "max", "min", "less", "equal", "neg", "clamp", "shift", "where"]
def kinds2 : List Str := ["sum", "peak", "dot", "order", "rename", "spread", "cut", "pad", "join", "window", "fold", "gather"]
def kinds : List Str := ["input", "const", "add", "sub", "mul", "max", "min", "less", "equal", "neg", "clamp", "shift", "where", "sum", "peak", "dot", "order", "rename", "spread", "cut", "pad", "join", "window", "fold", "gather"]
def seven : List Str := ["add", "sub", "mul", "max", "min", "less", "equal"]
theorem cut_a : cutV (kinds.map V.str) none (some 13) = kinds1.map V.str := by decide +kernel
theorem cut_b : cutV (kinds.map V.str) (some 13) none = kinds2.map V.str := by decide +kernel
theorem dp_strs {H : Hp} : ∀ l : List Str, DpAll K H (l.map V.str) (l.map PyData.str)
  | [] => .nil
  | x :: l => .cons (.str x) (dp_strs l)
theorem sh1 : SeqAt.shaped (.tuple (kinds1.map PyData.str)) = true := by decide +kernel
theorem sh2 : SeqAt.shaped (.tuple (kinds2.map PyData.str)) = true := by decide +kernel
theorem eq1 : PyData.eqv (.tuple (kinds1.map PyData.str)) (.tuple (kinds1.map PyData.str)) = true := by decide +kernel
theorem eq2 : PyData.eqv (.tuple (kinds2.map PyData.str)) (.tuple (kinds2.map PyData.str)) = true := by decide +kernel
theorem sh3 : SeqAt.shaped (.tuple [.int 400, .int 50000, .int 200]) = true := by decide +kernel
theorem eq3 : PyData.eqv (.tuple [.int 400, .int 50000, .int 200]) (.tuple [.int 400, .int 50000, .int 200]) = true := by decide +kernel
theorem mid {l a h : Int} (e : l ≤ h) {ns : List Int} (p : ns.Perm [l, a, h]) (s : ns.Pairwise (· ≤ ·)) : atI (ns.map V.int) (1 : Int) = some (.int (lim a l h)) := by
  have go : ∀ m : List Int, m.Perm [l, a, h] → m.Pairwise (· ≤ ·) → ns = m := fun m q t => PySem.W.ksm_same (p.trans q.symm) s t
  unfold lim
  by_cases c1 : a < l
  · rw [if_pos c1, go [a, l, h] (List.Perm.swap l a [h]) (by simp only [List.pairwise_cons, List.mem_cons, List.not_mem_nil, or_false, forall_eq_or_imp, forall_eq, false_implies, implies_true, List.Pairwise.nil, and_true]; omega)]
    rfl
  · by_cases c2 : h < a
    · rw [if_neg c1, if_pos c2, go [l, h, a] ((List.Perm.swap a h []).cons l) (by simp only [List.pairwise_cons, List.mem_cons, List.not_mem_nil, or_false, forall_eq_or_imp, forall_eq, false_implies, implies_true, List.Pairwise.nil, and_true]; omega)]
      rfl
    · rw [if_neg c1, if_neg c2, go [l, a, h] (List.Perm.refl _) (by simp only [List.pairwise_cons, List.mem_cons, List.not_mem_nil, or_false, forall_eq_or_imp, forall_eq, false_implies, implies_true, List.Pairwise.nil, and_true]; omega)]
      rfl
def spLaw (K : PySem.W.Frag) : Sp := fun vs H Q _ => ∃ (a : Addr) (ns : List Int), vs = [.ref a] ∧ SqL K H a (ns.map V.int) ∧ ns.length ≤ 63 ∧ ∀ H', Q (.bl true) H'
theorem scL : FnScope ["script", "d", "a", "b", "kind", "found", "low", "high", "n", "c", "kept", "moved"] ["script"] (defScope sLaw) := ⟨rfl, rfl, rfl, by decide +kernel, rfl, by decide +kernel, by decide +kernel⟩
structure Calls (P : Program) (w : World) (K : PySem.W.Frag) (mg : Str → Option Value) (base : Heap) (CX : CXT) (k : Nat) (name : Str) (ps : List Str) (sp : Sp) : Prop where
  ex : ∃ (f : Addr) (fd : FuncData), FnOk P w K mg base CX k f fd ps sp ∧ PySem.W.keepIn K (.ref f) = true ∧ Binds K fd ps [] ∧ mg name = some (.ref f)
structure Txt (K : PySem.W.Frag) (mg : Str → Option Value) (aK : Addr) : Prop where
  len : mg "len" = none
  sorted : mg "sorted" = none
  gK : mg "KINDS" = some (.ref aK)
  sK : ∀ H, SqT K H aK (kinds.map V.str)
  l1 : ∃ u, mg "NODE_LIMIT" = some u ∧ RelV (.int 400) u
  l2 : ∃ u, mg "WORK_LIMIT" = some u ∧ RelV (.int 50000) u
  l3 : ∃ u, mg "WIDTH_LIMIT" = some u ∧ RelV (.int 200) u
theorem ok_law {f aK aM : Addr} {fd : FuncData} (F : Fun K "law" "law" sLaw f fd) (T : Txt K mg aK)
    (cB : Calls P w K mg base CX0 1 "_law_begin" ["script"] (spBegin K)) (cT : Calls P w K mg base CX0 1 "_law_take" ["d", "many"] spTake) (cS : Calls P w K mg base CX0 2 "_law_signed" ["d", "most"] spSigned)
    (cK : Calls P w K mg base CX0 3 "_law_number" ["d"] spNumber) (cN : Calls P w K mg base CX0 1 "_law_int" ["actual"] spInt) (cU : Calls P w K mg base CX0 1 "_law_rounded" ["x", "n", "found"] spRounded)
    (cW : Calls P w K mg base CX0 1 "_law_two" ["kind", "a", "b", "found"] spTwo) (cP : Calls P w K mg base CX0 3 "pointwise" ["kind", "values", "info"] (spPw P w K mg base aM))
    (k1 : Mak P w K mg base aM "add" (sp2 (fun _ _ => True) (fun a b => a + b))) (k2 : Mak P w K mg base aM "sub" (sp2 (fun _ _ => True) (fun a b => a - b))) (k3 : Mak P w K mg base aM "mul" (sp2 CMulW (fun a b => a * b)))
    (k4 : Mak P w K mg base aM "max" (sp2 (fun _ _ => True) mx)) (k5 : Mak P w K mg base aM "min" (sp2 (fun _ _ => True) mn)) (k6 : Mak P w K mg base aM "less" (sp2 (fun _ _ => True) (fun a b => if a < b then 1 else 0))) (k7 : Mak P w K mg base aM "equal" (sp2 (fun _ _ => True) (fun a b => if a = b then 1 else 0)))
    (k8 : Mak P w K mg base aM "neg" (sp1 fun a => -a)) (k9 : Mak P w K mg base aM "clamp" spClamp) (k10 : Mak P w K mg base aM "shift" spShift) (k11 : Mak P w K mg base aM "where" spWhere) :
    FnOk P w K mg base CX0 4 f fd ["script"] (spLaw K) := by
  obtain ⟨fB, dB, GB, kB, bB, gB⟩ := cB.ex
  obtain ⟨fT, dT, GT, kT, bT, gT⟩ := cT.ex
  obtain ⟨fS, dS, GS, kS, bS, gS⟩ := cS.ex
  obtain ⟨fK, dK, GK, kK, bK, gK⟩ := cK.ex
  obtain ⟨fN, dN, GN, kN, bN, gN⟩ := cN.ex
  obtain ⟨fU, dU, GU, kU, bU, gU⟩ := cU.ex
  obtain ⟨fW, dW, GW, kW, bW, gW⟩ := cW.ex
  obtain ⟨fP, dP, GP, kP, bP, gP⟩ := cP.ex
  clear cB cT cS cK cN cU cW cP
  obtain ⟨u1, gl1, rl1⟩ := T.l1
  obtain ⟨u2, gl2, rl2⟩ := T.l2
  obtain ⟨u3, gl3, rl3⟩ := T.l3
  refine F.ok scL (fun vs H Q E h => ?_) (fun cdv A outer s H vs Q E hr h => ?_)
  · obtain ⟨a, ns, rfl, _⟩ := h
    rfl
  · obtain ⟨a, ns, rfl, hS, hlen, q⟩ := h
    have hr1 : Room 1 _ := hr.mono (by decide)
    have hr2 : Room 2 _ := hr.mono (by decide)
    refine ⟨_, pss_cons (ps_set (i := 1) scL.nd rfl (.inl rfl) (pe_call GB hr1 (by rfl) gB kB bB .nil pass0 (pa_cons (pv 0) pa_nil)))
      (pss_cons (ps_if (PW.pt (pw_or (pt_cmpR op_ne (pe_callB call_len_seq (by rfl) T.len PySem.boot_len (pa_cons (pe_glob (v := .ref aK) (by rfl) T.gK rfl) pa_nil)) pe_int (nomark _))
          (pw_or1 (pt_cmpR (op_neD hr.units) (pe_tup (pa_cons (pe_glob (v := .int 400) (by rfl) gl1 rl1) (pa_cons (pe_glob (v := .int 50000) (by rfl) gl2 rl2) (pa_cons (pe_glob (v := .int 200) (by rfl) gl3 rl3) pa_nil)))) (pe_tup (pa_cons pe_int (pa_cons pe_int (pa_cons pe_int pa_nil)))) (nomark _))))) (pss_one (ps_ret pe_bl)) pss_nil)
      (pss_cons (ps_if (pt_cmpR (op_neD hr.units) (pe_slice sl_tup (pe_glob (v := .ref aK) (by rfl) T.gK rfl) po_none (po_some pe_int)) (pe_tup (pa_cons pe_str (pa_cons pe_str (pa_cons pe_str (pa_cons pe_str (pa_cons pe_str (pa_cons pe_str (pa_cons pe_str (pa_cons pe_str (pa_cons pe_str (pa_cons pe_str (pa_cons pe_str (pa_cons pe_str (pa_cons pe_str pa_nil)))))))))))))) (nomark _)) (pss_one (ps_ret pe_bl)) pss_nil)
      (pss_cons (ps_if (pt_cmpR (op_neD hr.units) (pe_slice sl_tup (pe_glob (v := .ref aK) (by rfl) T.gK rfl) (po_some pe_int) po_none) (pe_tup (pa_cons pe_str (pa_cons pe_str (pa_cons pe_str (pa_cons pe_str (pa_cons pe_str (pa_cons pe_str (pa_cons pe_str (pa_cons pe_str (pa_cons pe_str (pa_cons pe_str (pa_cons pe_str (pa_cons pe_str pa_nil))))))))))))) (nomark _)) (pss_one (ps_ret pe_bl)) pss_nil)
      (pss_cons (ps_set (i := 2) scL.nd rfl (.inl rfl) (pe_call GK hr (by rfl) gK kK bK .nil pass0 (pa_cons (pv 1) pa_nil)))
      (pss_cons (ps_set (i := 3) scL.nd rfl (.inl rfl) (pe_call GK hr (by rfl) gK kK bK .nil pass0 (pa_cons (pv 1) pa_nil)))
      (Evl.pss_cut (ps_if (pt_cmpR op_eq (pe_call GT hr1 (by rfl) gT kT bT .nil pass0 (pa_cons (pv 1) (pa_cons pe_int pa_nil))) pe_int (nomark _)) (pss_one (ps_set (i := 3) scL.nd rfl (.inl rfl) (pv 2))) pss_nil)
      (pss_cons (ps_for PassesOwn.never rfl (pi_tup (pe_tup (pa_cons pe_str (pa_cons pe_str (pa_cons pe_str (pa_cons pe_str (pa_cons pe_str (pa_cons pe_str (pa_cons pe_str pa_nil))))))))) (pg_name (i := 4) scL.nd rfl (.inl rfl))
        (pss_cons (ps_set (i := 5) scL.nd rfl (.inl rfl) (pe_call GP hr (by rfl) gP kP bP .nil pass0 (pa_cons (pv 4) (pa_cons (pe_tup (pa_cons (pv 2) (pa_cons (pv 3) pa_nil))) (pa_cons (pe_tup pa_nil) pa_nil)))))
        (pss_one (ps_if (PW.pt (pw_or (pt_not (pt_val (pe_call GN hr1 (by rfl) gN kN bN .nil pass0 (pa_cons (pv 5) pa_nil)))) (pw_or1 (pt_not (pt_val (pe_call GW hr1 (by rfl) gW kW bW .nil pass0 (pa_cons (pv 4) (pa_cons (pv 2) (pa_cons (pv 3) (pa_cons (pv 5) pa_nil)))))))))) (pss_one (ps_ret pe_bl)) pss_nil))))
      (pss_cons (ps_set (i := 6) scL.nd rfl (.inl rfl) (pe_call GS hr2 (by rfl) gS kS bS .nil pass0 (pa_cons (pv 1) (pa_cons pe_int pa_nil))))
      (pss_cons (ps_set (i := 7) scL.nd rfl (.inl rfl) (pe_op op_add (pv 6) (pe_call GT hr1 (by rfl) gT kT bT .nil pass0 (pa_cons (pv 1) (pa_cons pe_int pa_nil)))))
      (pss_cons (ps_set (i := 8) scL.nd rfl (.inl rfl) (pe_op op_add pe_int (pe_call GT hr1 (by rfl) gT kT bT .nil pass0 (pa_cons (pv 1) (pa_cons pe_int pa_nil)))))
      (pss_cons (ps_set (i := 9) scL.nd rfl (.inl rfl) (pe_call GS hr2 (by rfl) gS kS bS .nil pass0 (pa_cons (pv 1) (pa_cons pe_int pa_nil))))
      (pss_cons (ps_set (i := 10) scL.nd rfl (.inl rfl) (pe_call GP hr (by rfl) gP kP bP .nil pass0 (pa_cons pe_str (pa_cons (pe_tup (pa_cons (pv 2) pa_nil)) (pa_cons (pe_tup (pa_cons (pv 6) (pa_cons (pv 7) pa_nil))) pa_nil)))))
      (pss_cons (ps_set (i := 11) scL.nd rfl (.inl rfl) (pe_call GP hr (by rfl) gP kP bP .nil pass0 (pa_cons pe_str (pa_cons (pe_tup (pa_cons (pv 2) pa_nil)) (pa_cons (pe_tup (pa_cons (pv 8) pa_nil)) pa_nil)))))
      (pss_cons (ps_if (PW.pt (pw_or (pt_not (pt_val (pe_call GN hr1 (by rfl) gN kN bN .nil pass0 (pa_cons (pv 10) pa_nil)))) (pw_or1 (pt_cmpR op_ne (pv 10) (pe_ix ix_list (pe_callB cr_sorted (by rfl) T.sorted (by decide +kernel) (pa_cons (pe_lst (pa_cons (pv 6) (pa_cons (pv 2) (pa_cons (pv 7) pa_nil)))) pa_nil)) pe_int (fun _ _ => rfl)) (nomark _))))) (pss_one (ps_ret pe_bl)) pss_nil)
      (pss_cons (ps_if (PW.pt (pw_or (pt_not (pt_val (pe_call GN hr1 (by rfl) gN kN bN .nil pass0 (pa_cons (pv 11) pa_nil)))) (pw_or1 (pt_not (pt_val (pe_call GU hr1 (by rfl) gU kU bU .nil pass0 (pa_cons (pv 2) (pa_cons (pv 8) (pa_cons (pv 11) pa_nil))))))))) (pss_one (ps_ret pe_bl)) pss_nil)
      (pss_one (ps_ret (pe_and (pe_cmpR op_eq (pe_call GP hr (by rfl) gP kP bP .nil pass0 (pa_cons pe_str (pa_cons (pe_tup (pa_cons (pv 2) pa_nil)) (pa_cons (pe_tup pa_nil) pa_nil)))) (pe_op op_sub pe_int (pv 2)) (nomark _))
        (pe_one (pe_cmpR op_eq (pe_call GP hr (by rfl) gP kP bP .nil pass0 (pa_cons pe_str (pa_cons (pe_tup (pa_cons (pv 9) (pa_cons (pv 2) (pa_cons (pv 3) pa_nil)))) (pa_cons (pe_tup pa_nil) pa_nil)))) (pe_ifExp (pt_cmpR op_eq (pv 9) pe_int (nomark _)) (pv 3) (pv 2)) (nomark _))))))))))))))))))))), ?_⟩
    refine ⟨_, rfl, a, ns, rfl, hS, hlen, fun H1 d c sm1 nd nc dr => ?_⟩
    refine ⟨aK, _, rfl, .inr (T.sK _), rfl, _, rfl, iteF ?_⟩
    refine ⟨by show 3 ≤ sizeLine; decide, fun p1 n1 => ⟨by show 3 ≤ sizeLine; decide, fun p2 n2 => ?_⟩⟩
    have s1 := new_tup (o := .tup [.int 400, .int 50000, .int 200]) n1
    have s2 := new_tup (o := .tup [.int 400, .int 50000, .int 200]) n2
    refine ⟨_, _, Dp.tup (SqT.of (s2 _ _ upd_same)) (.cons (.int _) (.cons (.int _) (.cons (.int _) .nil))), Dp.tup (SqT.of upd_same) (.cons (.int _) (.cons (.int _) (.cons (.int _) .nil))), sh3, sh3, _, rfl, ?_⟩
    rw [eq3]
    refine iteF ?_
    replace dr := (dr.same s1).same s2
    clear sm1 nd nc s1 s2
    generalize upd (upd H1 p1 _) p2 _ = H2 at *
    -- the kinds
    refine ⟨_, rfl, aK, _, rfl, T.sK _, by decide +kernel, fun p3 n3 => ⟨by show 13 ≤ sizeLine; decide, fun p4 n4 => ?_⟩⟩
    have s3 := new_tup (o := .tup (cutV (kinds.map V.str) none (some 13))) n3
    have s4 := new_tup (o := .tup (kinds1.map V.str)) n4
    refine ⟨_, _, Dp.tup (SqT.of (s4 p3 (.tup (kinds1.map V.str)) (by rw [upd_same, cut_a]))) (dp_strs kinds1), Dp.tup (SqT.of upd_same) (dp_strs kinds1), sh1, sh1, _, rfl, ?_⟩
    rw [eq1]
    refine iteF ?_
    replace dr := (dr.same s3).same s4
    clear s3 s4
    refine ⟨_, rfl, aK, _, rfl, T.sK _, by decide +kernel, fun p5 n5 => ⟨by show 12 ≤ sizeLine; decide, fun p6 n6 => ?_⟩⟩
    have s3 := new_tup (o := .tup (cutV (kinds.map V.str) (some 13) none)) n5
    have s4 := new_tup (o := .tup (kinds2.map V.str)) n6
    refine ⟨_, _, Dp.tup (SqT.of (s4 p5 (.tup (kinds2.map V.str)) (by rw [upd_same, cut_b]))) (dp_strs kinds2), Dp.tup (SqT.of upd_same) (dp_strs kinds2), sh2, sh2, _, rfl, ?_⟩
    rw [eq2]
    refine iteF ?_
    replace dr := (dr.same s3).same s4
    clear s3 s4
    -- the numbers
    refine ⟨_, rfl, d, c, rfl, dr, fun H5 x j5 dr5 gx => ⟨_, rfl, d, c, rfl, dr5, fun H6 y0 j6 dr6 gy0 => ?_⟩⟩
    refine ⟨fun σ' H' => ∃ y, σ' = [some (.ref a), some (.ref d), some (.int x), some (.int y), none, none, none, none, none, none, none, none] ∧ DrAt H' d c ∧ Bg 250 y, ?_, ?_⟩
    · refine ⟨_, rfl, d, c, 4, rfl, dr6, by decide, bnd_small (by decide), fun H7 v j7 dr7 _ _ => ⟨rfl, _, rfl, ite2 (fun _ => ?_) (fun _ => ?_)⟩⟩
      · exact ⟨_, rfl, x, rfl, dr7, gx⟩
      · exact ⟨_, rfl, dr7, gy0⟩
    · rintro σ' H7 ⟨y, rfl, dr7, gy⟩
      refine ⟨by show 7 ≤ sizeLine; decide, fun tk ntk => ?_⟩
      have s8 := new_tup (o := .tup (seven.map V.str)) ntk
      have htk : (upd H7 tk (.tup (seven.map V.str))) tk = some (.tup (seven.map V.str)) := upd_same
      replace dr7 := dr7.same s8
      refine ⟨tk, rfl, ⟨_, SqT.of htk⟩, for_tup (K := K) (a := tk) (xs := seven.map V.str) (fun i σ H' => ∃ v4 v5, σ = [some (.ref a), some (.ref d), some (.int x), some (.int y), v4, v5, none, none, none, none, none, none] ∧ DrAt H' d c ∧ H' tk = some (.tup (seven.map V.str)))
        ⟨_, _, rfl, dr7, htk⟩ (fun i σ H' _ ⟨_, _, _, _, h⟩ => SqT.of h) ?_ ?_⟩
      · rintro i z σ H' hi ⟨v4, v5, rfl, dr', ht'⟩
        obtain ⟨kd, C, g, rfl, mk, hC, tw⟩ : ∃ (kd : Str) (C : Int → Int → Prop) (g : Int → Int → Int), z = .str kd ∧ Mak P w K mg base aM kd (sp2 C g) ∧ C x y ∧ Two x y kd (g x y) := by
          match i, hi with
          | 0, h => cases h; exact ⟨_, _, _, rfl, k1, trivial, .add⟩
          | 1, h => cases h; exact ⟨_, _, _, rfl, k2, trivial, .sub⟩
          | 2, h => cases h; exact ⟨_, _, _, rfl, k3, gx.cmul gy (by decide) (by decide) (by decide), .mul⟩
          | 3, h => cases h; exact ⟨_, _, _, rfl, k4, trivial, .max⟩
          | 4, h => cases h; exact ⟨_, _, _, rfl, k5, trivial, .min⟩
          | 5, h => cases h; exact ⟨_, _, _, rfl, k6, trivial, .less⟩
          | 6, h => cases h; exact ⟨_, _, _, rfl, k7, trivial, .equal⟩
        refine ⟨_, rfl, _, rfl, _, rfl, by show 2 ≤ sizeLine; decide, fun pv npv => ⟨by show 0 ≤ sizeLine; decide, fun pi npi => ?_⟩⟩
        have s9 := new_tup (o := .tup [.int x, .int y]) npv
        have s10 := new_tup (o := .tup []) npi
        refine ⟨kd, pv, pi, _, rfl, mk, pv, pi, x, y, rfl, s10 _ _ upd_same, hC, ?_⟩
        refine ⟨_, rfl, _, rfl, _, rfl, iteF ⟨_, rfl, _, rfl, _, rfl, _, rfl, kd, x, y, _, rfl, tw, gx, gy, _, rfl, iteF ?_⟩⟩
        exact ⟨_, _, rfl, (dr'.same s9).same s10, s10 _ _ (s9 _ _ ht')⟩
      · rintro σ H8 ⟨v4, v5, rfl, dr8, _⟩
        -- low, high, n, c
        refine ⟨_, rfl, d, c, 9, rfl, dr8, by decide, bnd_small (by decide), fun H9 lo j9 dr9 lo0 lo1 => ?_⟩
        refine ⟨_, rfl, _, rfl, d, c, 9, rfl, dr9, by decide, bnd_small (by decide), fun H10 hh j10 dr10 hh0 hh1 => ⟨_, _, rfl, rfl, ?_⟩⟩
        refine ⟨_, rfl, d, c, 30, rfl, dr10, by decide, bnd_small (by decide), fun H11 nn j11 dr11 nn0 nn1 => ⟨_, _, rfl, rfl, ?_⟩⟩
        refine ⟨_, rfl, d, c, 2, rfl, dr11, by decide, bnd_small (by decide), fun H12 cc j12 dr12 _ _ => ?_⟩
        obtain ⟨m, rfl⟩ : ∃ m : Nat, nn = (m : Int) := ⟨nn.toNat, by omega⟩
        have em : (fun i j => V.int (i + j)) (1 : Int) (m : Int) = V.int ((m + 1 : Nat) : Int) := by
          show V.int (1 + (m : Int)) = _
          congr 1
          omega
        rw [em]
        have hlh : lo ≤ lo + hh := by omega
        have t1 : 1 ≤ sizeLine := by decide
        have t2 : 2 ≤ sizeLine := by decide
        have t3 : 3 ≤ sizeLine := by decide
        refine ⟨_, rfl, t1, fun pa npa => ⟨_, rfl, _, rfl, t2, fun pb npb => ?_⟩⟩
        refine ⟨"clamp", pa, pb, _, rfl, k9, pa, pb, x, lo, lo + hh, rfl, new_tup npb _ _ upd_same, upd_same, ?_⟩
        refine ⟨_, rfl, t1, fun pc npc => ⟨_, rfl, t1, fun pd npd => ?_⟩⟩
        refine ⟨"shift", pc, pd, _, rfl, k10, pc, pd, x, m + 1, rfl, new_tup npd _ _ upd_same, upd_same, by omega, by omega, ?_⟩
        have hb := shf_bg (n := m + 1) gx (by omega)
        have hf := shf_fits x (n := m + 1) (by omega)
        generalize shf x (m + 1) = z at *
        refine ⟨_, rfl, _, rfl, _, rfl, iteF ?_⟩
        refine ⟨_, rfl, _, rfl, _, rfl, _, rfl, t3, fun pl npl => ⟨pl, [lo, x, lo + hh], rfl, SqL.of upd_same, (by show 3 < 64; decide), fun ns' ps perm pw nps => ?_⟩⟩
        refine ⟨ps, _, 1, _, rfl, rfl, SqL.of upd_same, mid hlh perm pw, rfl, _, rfl, iteNS rfl ?_⟩
        refine ⟨_, rfl, _, rfl, _, rfl, iteF ⟨_, rfl, _, rfl, _, rfl, x, m + 1, z, rfl, by omega, hb, _, rfl, ?_⟩⟩
        rw [decide_eq_true hf]
        refine iteF ?_
        refine ⟨_, rfl, t1, fun pe npe => ⟨Nat.zero_le _, fun pf npf => ⟨"neg", pe, pf, _, rfl, k8, pe, pf, x, rfl, new_tup npf _ _ upd_same, ?_⟩⟩⟩
        refine ⟨_, rfl, _, _, rfl, rfl, rfl, _, rfl, ?_⟩
        rw [decide_eq_true (show V.int (-x) = V.int (0 - x) by congr 1; omega)]
        refine iteT ⟨_, rfl, _, rfl, _, rfl, t3, fun pg npg => ⟨Nat.zero_le _, fun ph nph => ⟨"where", pg, ph, _, rfl, k11, pg, ph, cc, x, y, rfl, new_tup nph _ _ upd_same, ?_⟩⟩⟩
        refine ⟨_, rfl, rfl, _, rfl, ite2 (fun e => ⟨_, rfl, rfl, ?_⟩) (fun e => ⟨_, rfl, rfl, ?_⟩)⟩
        · rw [if_pos (V.int.inj (of_decide_eq_true e)), decide_eq_true rfl]
          exact q _
        · rw [if_neg (fun w => e (decide_eq_true (congrArg V.int w))), decide_eq_true rfl]
          exact q _
end
/-! ### what the top has written, the head -/
theorem all_mk {l : PySem.W.OpenLaw} {w : World} {K : PySem.W.Frag} {h : Heap} {mg : Str → Option Value} {fa f1 f2 f3 f4 f5 f6 f7 f8 f9 f10 f11 f12 f13 f14 f15 f16 f17 f18 f19 f20 f21 cK cM : Addr} (X : K.In h) (G : h.Ns mainGlobals mg) (hfa : mg "law" = some (.ref fa))
    {od1 an1 od2 an2 od3 an3 od4 an4 od5 an5 od6 an6 od7 an7 od8 an8 od9 an9 od10 an10 od11 an11 od12 an12 od13 an13 od14 an14 od15 an15 od16 an16 od17 an17 od18 an18 od19 an19 od20 an20 od21 an21 : Option Addr} {sl1 sl2 sl3 sl4 sl5 sl6 sl7 sl8 sl9 sl10 sl11 sl12 sl13 sl14 sl15 sl16 sl17 sl18 sl19 sl20 sl21 : Array (Option Value)} {oc1 kV1 dc1 pm1 cd1 ct1 oc2 kV2 dc2 pm2 cd2 ct2 oc3 kV3 dc3 pm3 cd3 ct3 oc4 kV4 dc4 pm4 cd4 ct4 oc5 kV5 dc5 pm5 cd5 ct5 oc6 kV6 dc6 pm6 cd6 ct6 oc7 kV7 dc7 pm7 cd7 ct7 oc8 kV8 dc8 pm8 cd8 ct8 oc9 kV9 dc9 pm9 cd9 ct9 oc10 kV10 dc10 pm10 cd10 ct10 oc11 kV11 dc11 pm11 cd11 ct11 oc12 kV12 dc12 pm12 cd12 ct12 oc13 kV13 dc13 pm13 cd13 ct13 oc14 kV14 dc14 pm14 cd14 ct14 oc15 kV15 dc15 pm15 cd15 ct15 oc16 kV16 dc16 pm16 cd16 ct16 oc17 kV17 dc17 pm17 cd17 ct17 oc18 kV18 dc18 pm18 cd18 ct18 oc19 kV19 dc19 pm19 cd19 ct19 oc20 kV20 dc20 pm20 cd20 ct20 oc21 kV21 dc21 pm21 cd21 ct21 : Value}
    {odK : Option Addr} {itsK : Array Value} {nK : Nat} {slK : Array (Option Value)} {esM : Array DictEntry} {nM : Nat} {tk1 tk2 tk3 : Tok}
    (a1 : PySem.W.nsIn K mainGlobals "limit" = some (some (.ref f1))) (l1 : K.lookup f1 = some ⟨oc1, od1, .func (PySem.W.fnOf "limit" "limit" (defArgs sLimit) (defBody sLimit) (defScope sLimit) .none kV1 dc1 pm1 an1 cd1 ct1), sl1⟩) (c1 : PySem.W.codeIn K cd1 "limit" = true) (k1 : PySem.W.keepIn K (.ref f1) = true)
    (a2 : PySem.W.nsIn K mainGlobals "_add" = some (some (.ref f2))) (l2 : K.lookup f2 = some ⟨oc2, od2, .func (PySem.W.fnOf "_add" "_add" (defArgs sAdd) (defBody sAdd) (defScope sAdd) .none kV2 dc2 pm2 an2 cd2 ct2), sl2⟩) (c2 : PySem.W.codeIn K cd2 "_add" = true) (k2 : PySem.W.keepIn K (.ref f2) = true)
    (a3 : PySem.W.nsIn K mainGlobals "_sub" = some (some (.ref f3))) (l3 : K.lookup f3 = some ⟨oc3, od3, .func (PySem.W.fnOf "_sub" "_sub" (defArgs sSub) (defBody sSub) (defScope sSub) .none kV3 dc3 pm3 an3 cd3 ct3), sl3⟩) (c3 : PySem.W.codeIn K cd3 "_sub" = true) (k3 : PySem.W.keepIn K (.ref f3) = true)
    (a4 : PySem.W.nsIn K mainGlobals "_mul" = some (some (.ref f4))) (l4 : K.lookup f4 = some ⟨oc4, od4, .func (PySem.W.fnOf "_mul" "_mul" (defArgs sMul) (defBody sMul) (defScope sMul) .none kV4 dc4 pm4 an4 cd4 ct4), sl4⟩) (c4 : PySem.W.codeIn K cd4 "_mul" = true) (k4 : PySem.W.keepIn K (.ref f4) = true)
    (a5 : PySem.W.nsIn K mainGlobals "_max" = some (some (.ref f5))) (l5 : K.lookup f5 = some ⟨oc5, od5, .func (PySem.W.fnOf "_max" "_max" (defArgs sMax) (defBody sMax) (defScope sMax) .none kV5 dc5 pm5 an5 cd5 ct5), sl5⟩) (c5 : PySem.W.codeIn K cd5 "_max" = true) (k5 : PySem.W.keepIn K (.ref f5) = true)
    (a6 : PySem.W.nsIn K mainGlobals "_min" = some (some (.ref f6))) (l6 : K.lookup f6 = some ⟨oc6, od6, .func (PySem.W.fnOf "_min" "_min" (defArgs sMin) (defBody sMin) (defScope sMin) .none kV6 dc6 pm6 an6 cd6 ct6), sl6⟩) (c6 : PySem.W.codeIn K cd6 "_min" = true) (k6 : PySem.W.keepIn K (.ref f6) = true)
    (a7 : PySem.W.nsIn K mainGlobals "_less" = some (some (.ref f7))) (l7 : K.lookup f7 = some ⟨oc7, od7, .func (PySem.W.fnOf "_less" "_less" (defArgs sLess) (defBody sLess) (defScope sLess) .none kV7 dc7 pm7 an7 cd7 ct7), sl7⟩) (c7 : PySem.W.codeIn K cd7 "_less" = true) (k7 : PySem.W.keepIn K (.ref f7) = true)
    (a8 : PySem.W.nsIn K mainGlobals "_equal" = some (some (.ref f8))) (l8 : K.lookup f8 = some ⟨oc8, od8, .func (PySem.W.fnOf "_equal" "_equal" (defArgs sEqual) (defBody sEqual) (defScope sEqual) .none kV8 dc8 pm8 an8 cd8 ct8), sl8⟩) (c8 : PySem.W.codeIn K cd8 "_equal" = true) (k8 : PySem.W.keepIn K (.ref f8) = true)
    (a9 : PySem.W.nsIn K mainGlobals "_neg" = some (some (.ref f9))) (l9 : K.lookup f9 = some ⟨oc9, od9, .func (PySem.W.fnOf "_neg" "_neg" (defArgs sNeg) (defBody sNeg) (defScope sNeg) .none kV9 dc9 pm9 an9 cd9 ct9), sl9⟩) (c9 : PySem.W.codeIn K cd9 "_neg" = true) (k9 : PySem.W.keepIn K (.ref f9) = true)
    (a10 : PySem.W.nsIn K mainGlobals "_clamp" = some (some (.ref f10))) (l10 : K.lookup f10 = some ⟨oc10, od10, .func (PySem.W.fnOf "_clamp" "_clamp" (defArgs sClamp) (defBody sClamp) (defScope sClamp) .none kV10 dc10 pm10 an10 cd10 ct10), sl10⟩) (c10 : PySem.W.codeIn K cd10 "_clamp" = true) (k10 : PySem.W.keepIn K (.ref f10) = true)
    (a11 : PySem.W.nsIn K mainGlobals "_shift" = some (some (.ref f11))) (l11 : K.lookup f11 = some ⟨oc11, od11, .func (PySem.W.fnOf "_shift" "_shift" (defArgs sShift) (defBody sShift) (defScope sShift) .none kV11 dc11 pm11 an11 cd11 ct11), sl11⟩) (c11 : PySem.W.codeIn K cd11 "_shift" = true) (k11 : PySem.W.keepIn K (.ref f11) = true)
    (a12 : PySem.W.nsIn K mainGlobals "_where" = some (some (.ref f12))) (l12 : K.lookup f12 = some ⟨oc12, od12, .func (PySem.W.fnOf "_where" "_where" (defArgs sWhere) (defBody sWhere) (defScope sWhere) .none kV12 dc12 pm12 an12 cd12 ct12), sl12⟩) (c12 : PySem.W.codeIn K cd12 "_where" = true) (k12 : PySem.W.keepIn K (.ref f12) = true)
    (a13 : PySem.W.nsIn K mainGlobals "pointwise" = some (some (.ref f13))) (l13 : K.lookup f13 = some ⟨oc13, od13, .func (PySem.W.fnOf "pointwise" "pointwise" (defArgs sPw) (defBody sPw) (defScope sPw) .none kV13 dc13 pm13 an13 cd13 ct13), sl13⟩) (c13 : PySem.W.codeIn K cd13 "pointwise" = true) (k13 : PySem.W.keepIn K (.ref f13) = true)
    (a14 : PySem.W.nsIn K mainGlobals "_law_begin" = some (some (.ref f14))) (l14 : K.lookup f14 = some ⟨oc14, od14, .func (PySem.W.fnOf "_law_begin" "_law_begin" (defArgs sBegin) (defBody sBegin) (defScope sBegin) .none kV14 dc14 pm14 an14 cd14 ct14), sl14⟩) (c14 : PySem.W.codeIn K cd14 "_law_begin" = true) (k14 : PySem.W.keepIn K (.ref f14) = true)
    (a15 : PySem.W.nsIn K mainGlobals "_law_take" = some (some (.ref f15))) (l15 : K.lookup f15 = some ⟨oc15, od15, .func (PySem.W.fnOf "_law_take" "_law_take" (defArgs sTake) (defBody sTake) (defScope sTake) .none kV15 dc15 pm15 an15 cd15 ct15), sl15⟩) (c15 : PySem.W.codeIn K cd15 "_law_take" = true) (k15 : PySem.W.keepIn K (.ref f15) = true)
    (a16 : PySem.W.nsIn K mainGlobals "_law_signed" = some (some (.ref f16))) (l16 : K.lookup f16 = some ⟨oc16, od16, .func (PySem.W.fnOf "_law_signed" "_law_signed" (defArgs sSigned) (defBody sSigned) (defScope sSigned) .none kV16 dc16 pm16 an16 cd16 ct16), sl16⟩) (c16 : PySem.W.codeIn K cd16 "_law_signed" = true) (k16 : PySem.W.keepIn K (.ref f16) = true)
    (a17 : PySem.W.nsIn K mainGlobals "_law_int" = some (some (.ref f17))) (l17 : K.lookup f17 = some ⟨oc17, od17, .func (PySem.W.fnOf "_law_int" "_law_int" (defArgs sInt) (defBody sInt) (defScope sInt) .none kV17 dc17 pm17 an17 cd17 ct17), sl17⟩) (c17 : PySem.W.codeIn K cd17 "_law_int" = true) (k17 : PySem.W.keepIn K (.ref f17) = true)
    (a18 : PySem.W.nsIn K mainGlobals "_law_number" = some (some (.ref f18))) (l18 : K.lookup f18 = some ⟨oc18, od18, .func (PySem.W.fnOf "_law_number" "_law_number" (defArgs sNumber) (defBody sNumber) (defScope sNumber) .none kV18 dc18 pm18 an18 cd18 ct18), sl18⟩) (c18 : PySem.W.codeIn K cd18 "_law_number" = true) (k18 : PySem.W.keepIn K (.ref f18) = true)
    (a19 : PySem.W.nsIn K mainGlobals "_law_rounded" = some (some (.ref f19))) (l19 : K.lookup f19 = some ⟨oc19, od19, .func (PySem.W.fnOf "_law_rounded" "_law_rounded" (defArgs sRounded) (defBody sRounded) (defScope sRounded) .none kV19 dc19 pm19 an19 cd19 ct19), sl19⟩) (c19 : PySem.W.codeIn K cd19 "_law_rounded" = true) (k19 : PySem.W.keepIn K (.ref f19) = true)
    (a20 : PySem.W.nsIn K mainGlobals "_law_two" = some (some (.ref f20))) (l20 : K.lookup f20 = some ⟨oc20, od20, .func (PySem.W.fnOf "_law_two" "_law_two" (defArgs sTwo) (defBody sTwo) (defScope sTwo) .none kV20 dc20 pm20 an20 cd20 ct20), sl20⟩) (c20 : PySem.W.codeIn K cd20 "_law_two" = true) (k20 : PySem.W.keepIn K (.ref f20) = true)
    (a21 : PySem.W.nsIn K mainGlobals "law" = some (some (.ref f21))) (l21 : K.lookup f21 = some ⟨oc21, od21, .func (PySem.W.fnOf "law" "law" (defArgs sLaw) (defBody sLaw) (defScope sLaw) .none kV21 dc21 pm21 an21 cd21 ct21), sl21⟩) (c21 : PySem.W.codeIn K cd21 "law" = true) (k21 : PySem.W.keepIn K (.ref f21) = true)
    (aK : PySem.W.nsIn K mainGlobals "KINDS" = some (some (.ref cK)))
    (lK : K.lookup cK = some ⟨.type "tuple", odK, .seq itsK nK, slK⟩)
    (vK : Vals (kinds.map V.str) itsK.toList)
    (zK : itsK.size ≤ sizeLine)
    (aM : PySem.W.nsIn K mainGlobals "_MAKERS" = some (some (.ref cM)))
    (lM : K.lookup cM = some ⟨.type "dict", none, .dict esM nM, #[]⟩)
    (kM : PySem.W.KeysLit w.params esM.toList)
    (e1 : PySem.W.nsIn K mainGlobals "NODE_LIMIT" = some (some (.int 400 tk1)))
    (e2 : PySem.W.nsIn K mainGlobals "WORK_LIMIT" = some (some (.int 50000 tk2)))
    (e3 : PySem.W.nsIn K mainGlobals "WIDTH_LIMIT" = some (some (.int 200 tk3)))
    (d1 : PySem.W.nsIn K cM "add" = some (some (.ref f2)))
    (d2 : PySem.W.nsIn K cM "sub" = some (some (.ref f3)))
    (d3 : PySem.W.nsIn K cM "mul" = some (some (.ref f4)))
    (d4 : PySem.W.nsIn K cM "max" = some (some (.ref f5)))
    (d5 : PySem.W.nsIn K cM "min" = some (some (.ref f6)))
    (d6 : PySem.W.nsIn K cM "less" = some (some (.ref f7)))
    (d7 : PySem.W.nsIn K cM "equal" = some (some (.ref f8)))
    (d8 : PySem.W.nsIn K cM "neg" = some (some (.ref f9)))
    (d9 : PySem.W.nsIn K cM "clamp" = some (some (.ref f10)))
    (d10 : PySem.W.nsIn K cM "shift" = some (some (.ref f11)))
    (d11 : PySem.W.nsIn K cM "where" = some (some (.ref f12)))
    (z_int : PySem.W.nsIn K mainGlobals "int" = some none)
    (z_abs : PySem.W.nsIn K mainGlobals "abs" = some none)
    (z_len : PySem.W.nsIn K mainGlobals "len" = some none)
    (z_list : PySem.W.nsIn K mainGlobals "list" = some none)
    (z_max : PySem.W.nsIn K mainGlobals "max" = some none)
    (z_min : PySem.W.nsIn K mainGlobals "min" = some none)
    (z_isinstance : PySem.W.nsIn K mainGlobals "isinstance" = some none)
    (z_bool : PySem.W.nsIn K mainGlobals "bool" = some none)
    (z_range : PySem.W.nsIn K mainGlobals "range" = some none)
    (z_sorted : PySem.W.nsIn K mainGlobals "sorted" = some none)
    : ∃ fd : FuncData, (∀ (s : Shared) (v : Value), BindsTo s fd ⟨[v], []⟩ [("script", v)]) ∧ ∀ base : Heap, K.In base → base.Ns mainGlobals mg → FnOk l.prog w K mg base CX0 4 fa fd ["script"] (spLaw K) := by
  have e := hfa.symm.trans (PySem.W.mg_of X G a21)
  cases e
  have F1 := fun_mk (st := sLimit) l1 c1 k1
  have m1 := PySem.W.mg_of X G a1
  have b1 := F1.binds (ps := ["n", "low", "high"]) fun _ _ _ _ _ _ us hl => match us, hl with | [_, _, _], _ => rfl
  have F2 := fun_mk (st := sAdd) l2 c2 k2
  have m2 := PySem.W.mg_of X G a2
  have b2 := F2.binds (ps := ["values", "info"]) fun _ _ _ _ _ _ us hl => match us, hl with | [_, _], _ => rfl
  have F3 := fun_mk (st := sSub) l3 c3 k3
  have m3 := PySem.W.mg_of X G a3
  have b3 := F3.binds (ps := ["values", "info"]) fun _ _ _ _ _ _ us hl => match us, hl with | [_, _], _ => rfl
  have F4 := fun_mk (st := sMul) l4 c4 k4
  have m4 := PySem.W.mg_of X G a4
  have b4 := F4.binds (ps := ["values", "info"]) fun _ _ _ _ _ _ us hl => match us, hl with | [_, _], _ => rfl
  have F5 := fun_mk (st := sMax) l5 c5 k5
  have m5 := PySem.W.mg_of X G a5
  have b5 := F5.binds (ps := ["values", "info"]) fun _ _ _ _ _ _ us hl => match us, hl with | [_, _], _ => rfl
  have F6 := fun_mk (st := sMin) l6 c6 k6
  have m6 := PySem.W.mg_of X G a6
  have b6 := F6.binds (ps := ["values", "info"]) fun _ _ _ _ _ _ us hl => match us, hl with | [_, _], _ => rfl
  have F7 := fun_mk (st := sLess) l7 c7 k7
  have m7 := PySem.W.mg_of X G a7
  have b7 := F7.binds (ps := ["values", "info"]) fun _ _ _ _ _ _ us hl => match us, hl with | [_, _], _ => rfl
  have F8 := fun_mk (st := sEqual) l8 c8 k8
  have m8 := PySem.W.mg_of X G a8
  have b8 := F8.binds (ps := ["values", "info"]) fun _ _ _ _ _ _ us hl => match us, hl with | [_, _], _ => rfl
  have F9 := fun_mk (st := sNeg) l9 c9 k9
  have m9 := PySem.W.mg_of X G a9
  have b9 := F9.binds (ps := ["values", "info"]) fun _ _ _ _ _ _ us hl => match us, hl with | [_, _], _ => rfl
  have F10 := fun_mk (st := sClamp) l10 c10 k10
  have m10 := PySem.W.mg_of X G a10
  have b10 := F10.binds (ps := ["values", "info"]) fun _ _ _ _ _ _ us hl => match us, hl with | [_, _], _ => rfl
  have F11 := fun_mk (st := sShift) l11 c11 k11
  have m11 := PySem.W.mg_of X G a11
  have b11 := F11.binds (ps := ["values", "info"]) fun _ _ _ _ _ _ us hl => match us, hl with | [_, _], _ => rfl
  have F12 := fun_mk (st := sWhere) l12 c12 k12
  have m12 := PySem.W.mg_of X G a12
  have b12 := F12.binds (ps := ["values", "info"]) fun _ _ _ _ _ _ us hl => match us, hl with | [_, _], _ => rfl
  have F13 := fun_mk (st := sPw) l13 c13 k13
  have m13 := PySem.W.mg_of X G a13
  have b13 := F13.binds (ps := ["kind", "values", "info"]) fun _ _ _ _ _ _ us hl => match us, hl with | [_, _, _], _ => rfl
  have F14 := fun_mk (st := sBegin) l14 c14 k14
  have m14 := PySem.W.mg_of X G a14
  have b14 := F14.binds (ps := ["script"]) fun _ _ _ _ _ _ us hl => match us, hl with | [_], _ => rfl
  have F15 := fun_mk (st := sTake) l15 c15 k15
  have m15 := PySem.W.mg_of X G a15
  have b15 := F15.binds (ps := ["d", "many"]) fun _ _ _ _ _ _ us hl => match us, hl with | [_, _], _ => rfl
  have F16 := fun_mk (st := sSigned) l16 c16 k16
  have m16 := PySem.W.mg_of X G a16
  have b16 := F16.binds (ps := ["d", "most"]) fun _ _ _ _ _ _ us hl => match us, hl with | [_, _], _ => rfl
  have F17 := fun_mk (st := sInt) l17 c17 k17
  have m17 := PySem.W.mg_of X G a17
  have b17 := F17.binds (ps := ["actual"]) fun _ _ _ _ _ _ us hl => match us, hl with | [_], _ => rfl
  have F18 := fun_mk (st := sNumber) l18 c18 k18
  have m18 := PySem.W.mg_of X G a18
  have b18 := F18.binds (ps := ["d"]) fun _ _ _ _ _ _ us hl => match us, hl with | [_], _ => rfl
  have F19 := fun_mk (st := sRounded) l19 c19 k19
  have m19 := PySem.W.mg_of X G a19
  have b19 := F19.binds (ps := ["x", "n", "found"]) fun _ _ _ _ _ _ us hl => match us, hl with | [_, _, _], _ => rfl
  have F20 := fun_mk (st := sTwo) l20 c20 k20
  have m20 := PySem.W.mg_of X G a20
  have b20 := F20.binds (ps := ["kind", "a", "b", "found"]) fun _ _ _ _ _ _ us hl => match us, hl with | [_, _, _, _], _ => rfl
  have F21 := fun_mk (st := sLaw) l21 c21 k21
  have m21 := PySem.W.mg_of X G a21
  have n_int := PySem.W.mg_none_of X G z_int
  have n_abs := PySem.W.mg_none_of X G z_abs
  have n_len := PySem.W.mg_none_of X G z_len
  have n_list := PySem.W.mg_none_of X G z_list
  have n_max := PySem.W.mg_none_of X G z_max
  have n_min := PySem.W.mg_none_of X G z_min
  have n_isinstance := PySem.W.mg_none_of X G z_isinstance
  have n_bool := PySem.W.mg_none_of X G z_bool
  have n_range := PySem.W.mg_none_of X G z_range
  have n_sorted := PySem.W.mg_none_of X G z_sorted
  have TD : TxtD mg := ⟨n_int, n_abs, n_len, n_list⟩
  have T : Txt K mg cK := ⟨n_len, n_sorted, PySem.W.mg_of X G aK, fun H => .inr ⟨_, itsK, nK, lK, rfl, rfl, zK, vK⟩, ⟨_, PySem.W.mg_of X G e1, _, rfl⟩, ⟨_, PySem.W.mg_of X G e2, _, rfl⟩, ⟨_, PySem.W.mg_of X G e3, _, rfl⟩⟩
  refine ⟨PySem.W.fnOf "law" "law" (defArgs sLaw) (defBody sLaw) (defScope sLaw) .none kV21 dc21 pm21 an21 cd21 ct21, fun s v => .of_eq rfl, fun base _ _ => ?_⟩
  have q1 : Mak l.prog w K mg base cM "add" (sp2 (fun _ _ => True) (fun a b => a + b)) := ⟨_, _, (ok_add F2).mono (by decide), k2, b2, esM, nM, _, lM, kM, d1, rfl⟩
  have q2 : Mak l.prog w K mg base cM "sub" (sp2 (fun _ _ => True) (fun a b => a - b)) := ⟨_, _, (ok_sub F3).mono (by decide), k3, b3, esM, nM, _, lM, kM, d2, rfl⟩
  have q3 : Mak l.prog w K mg base cM "mul" (sp2 CMulW (fun a b => a * b)) := ⟨_, _, (ok_mul F4).mono (by decide), k4, b4, esM, nM, _, lM, kM, d3, rfl⟩
  have q4 : Mak l.prog w K mg base cM "max" (sp2 (fun _ _ => True) mx) := ⟨_, _, (ok_max F5 n_max).mono (by decide), k5, b5, esM, nM, _, lM, kM, d4, rfl⟩
  have q5 : Mak l.prog w K mg base cM "min" (sp2 (fun _ _ => True) mn) := ⟨_, _, (ok_min F6 n_min).mono (by decide), k6, b6, esM, nM, _, lM, kM, d5, rfl⟩
  have q6 : Mak l.prog w K mg base cM "less" (sp2 (fun _ _ => True) (fun a b => if a < b then 1 else 0)) := ⟨_, _, (ok_less F7).mono (by decide), k7, b7, esM, nM, _, lM, kM, d6, rfl⟩
  have q7 : Mak l.prog w K mg base cM "equal" (sp2 (fun _ _ => True) (fun a b => if a = b then 1 else 0)) := ⟨_, _, (ok_equal F8).mono (by decide), k8, b8, esM, nM, _, lM, kM, d7, rfl⟩
  have q8 : Mak l.prog w K mg base cM "neg" (sp1 fun a => -a) := ⟨_, _, (ok_neg F9).mono (by decide), k9, b9, esM, nM, _, lM, kM, d8, rfl⟩
  have q9 : Mak l.prog w K mg base cM "clamp" (spClamp) := ⟨_, _, ok_clamp F10 F1 b1 m1, k10, b10, esM, nM, _, lM, kM, d9, rfl⟩
  have q10 : Mak l.prog w K mg base cM "shift" (spShift) := ⟨_, _, (ok_shift F11).mono (by decide), k11, b11, esM, nM, _, lM, kM, d10, rfl⟩
  have q11 : Mak l.prog w K mg base cM "where" (spWhere) := ⟨_, _, (ok_where F12).mono (by decide), k12, b12, esM, nM, _, lM, kM, d11, rfl⟩
  have gB : FnOk l.prog w K mg base CX0 1 _ _ ["script"] (spBegin K) := ok_begin F14 TD
  have gT : FnOk l.prog w K mg base CX0 1 _ _ ["d", "many"] spTake := ok_take F15 TD
  have gS : FnOk l.prog w K mg base CX0 2 _ _ ["d", "most"] spSigned := ok_signed F16 gT k15 b15 m15
  have gN : FnOk l.prog w K mg base CX0 1 _ _ ["actual"] spInt := ok_int F17 n_isinstance n_int n_bool
  have gK : FnOk l.prog w K mg base CX0 3 _ _ ["d"] spNumber := ok_number F18 gT k15 b15 m15 gS k16 b16 m16
  have gU : FnOk l.prog w K mg base CX0 1 _ _ ["x", "n", "found"] spRounded := ok_rounded F19 n_range
  have gW : FnOk l.prog w K mg base CX0 1 _ _ ["kind", "a", "b", "found"] spTwo := ok_two F20
  have gP : FnOk l.prog w K mg base CX0 3 _ _ ["kind", "values", "info"] (spPw l.prog w K mg base cM) := ok_pw F13 (PySem.W.mg_of X G aM)
  exact ok_law F21 T ⟨_, _, gB, k14, b14, m14⟩ ⟨_, _, gT, k15, b15, m15⟩ ⟨_, _, gS, k16, b16, m16⟩ ⟨_, _, gK, k18, b18, m18⟩ ⟨_, _, gN, k17, b17, m17⟩ ⟨_, _, gU, k19, b19, m19⟩ ⟨_, _, gW, k20, b20, m20⟩ ⟨_, _, gP, k13, b13, m13⟩ q1 q2 q3 q4 q5 q6 q7 q8 q9 q10 q11
end My
open PySem PySem.W PyProof.Rows
set_option maxRecDepth 100000 in
set_option maxHeartbeats 0 in
theorem PySem.Challenge.cw_tensorcompiler_k06_pointwise_kinds_holds : PySem.Challenge.rw_tensorcompiler_k06_pointwise_kinds.Holds := by
  w_on; o_law; k_head; (case hw => w_witness2)
  k_fill
  refine L2.walk_of (l := PySem.Challenge.rw_tensorcompiler_k06_pointwise_kinds) (n := 63) (k := 4) (x := "script") (CX := fun _ => L2.CX0) (sp := fun w => My.spLaw _) rfl (by decide) rfl ⟨rfl, by decide, by decide⟩ (fun w h Y => PySem.W.kIn_of Y) ?F (fun _ _ a ns hl _ hS => ⟨a, ns, rfl, hS, hl, fun _ => rfl⟩) (fun _ _ _ _ _ h => h)
  case F =>
    intro w mg fa h KX G hmg
    refine' My.all_mk KX G hmg ?a1 ?l1 ?c1 ?k1 ?a2 ?l2 ?c2 ?k2 ?a3 ?l3 ?c3 ?k3 ?a4 ?l4 ?c4 ?k4 ?a5 ?l5 ?c5 ?k5 ?a6 ?l6 ?c6 ?k6 ?a7 ?l7 ?c7 ?k7 ?a8 ?l8 ?c8 ?k8 ?a9 ?l9 ?c9 ?k9 ?a10 ?l10 ?c10 ?k10 ?a11 ?l11 ?c11 ?k11 ?a12 ?l12 ?c12 ?k12 ?a13 ?l13 ?c13 ?k13 ?a14 ?l14 ?c14 ?k14 ?a15 ?l15 ?c15 ?k15 ?a16 ?l16 ?c16 ?k16 ?a17 ?l17 ?c17 ?k17 ?a18 ?l18 ?c18 ?k18 ?a19 ?l19 ?c19 ?k19 ?a20 ?l20 ?c20 ?k20 ?a21 ?l21 ?c21 ?k21 ?aK ?lK ?vK ?zK ?aM ?lM ?kM ?e1 ?e2 ?e3 ?d1 ?d2 ?d3 ?d4 ?d5 ?d6 ?d7 ?d8 ?d9 ?d10 ?d11 ?z_int ?z_abs ?z_len ?z_list ?z_max ?z_min ?z_isinstance ?z_bool ?z_range ?z_sorted
    (case a1 => k_is); (case l1 => k_is); (case c1 => k_is); (case k1 => k_is); (case a2 => k_is); (case l2 => k_is); (case c2 => k_is); (case k2 => k_is); (case a3 => k_is); (case l3 => k_is); (case c3 => k_is); (case k3 => k_is); (case a4 => k_is); (case l4 => k_is); (case c4 => k_is); (case k4 => k_is); (case a5 => k_is); (case l5 => k_is); (case c5 => k_is); (case k5 => k_is); (case a6 => k_is); (case l6 => k_is); (case c6 => k_is); (case k6 => k_is); (case a7 => k_is); (case l7 => k_is); (case c7 => k_is); (case k7 => k_is); (case a8 => k_is); (case l8 => k_is); (case c8 => k_is); (case k8 => k_is); (case a9 => k_is); (case l9 => k_is); (case c9 => k_is); (case k9 => k_is); (case a10 => k_is); (case l10 => k_is); (case c10 => k_is); (case k10 => k_is); (case a11 => k_is); (case l11 => k_is); (case c11 => k_is); (case k11 => k_is); (case a12 => k_is); (case l12 => k_is); (case c12 => k_is); (case k12 => k_is); (case a13 => k_is); (case l13 => k_is); (case c13 => k_is); (case k13 => k_is); (case a14 => k_is); (case l14 => k_is); (case c14 => k_is); (case k14 => k_is); (case a15 => k_is); (case l15 => k_is); (case c15 => k_is); (case k15 => k_is); (case a16 => k_is); (case l16 => k_is); (case c16 => k_is); (case k16 => k_is); (case a17 => k_is); (case l17 => k_is); (case c17 => k_is); (case k17 => k_is); (case a18 => k_is); (case l18 => k_is); (case c18 => k_is); (case k18 => k_is); (case a19 => k_is); (case l19 => k_is); (case c19 => k_is); (case k19 => k_is); (case a20 => k_is); (case l20 => k_is); (case c20 => k_is); (case k20 => k_is); (case a21 => k_is); (case l21 => k_is); (case c21 => k_is); (case k21 => k_is); (case aK => k_is); (case lK => k_is); (case vK => repeat (first | exact .nil | refine .cons ⟨_, rfl⟩ ?_)); (case zK => decide); (case aM => k_is); (case lM => k_is); (case kM => repeat (first | exact True.intro | refine ⟨⟨_, _, rfl, rfl⟩, ?_⟩)); (case e1 => k_is); (case e2 => k_is); (case e3 => k_is); (case d1 => k_is); (case d2 => k_is); (case d3 => k_is); (case d4 => k_is); (case d5 => k_is); (case d6 => k_is); (case d7 => k_is); (case d8 => k_is); (case d9 => k_is); (case d10 => k_is); (case d11 => k_is); (case z_int => k_is); (case z_abs => k_is); (case z_len => k_is); (case z_list => k_is); (case z_max => k_is); (case z_min => k_is); (case z_isinstance => k_is); (case z_bool => k_is); (case z_range => k_is); (case z_sorted => k_is)
