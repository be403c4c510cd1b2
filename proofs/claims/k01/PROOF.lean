import PyProof.Rows.All
import Wide.All
import OpenK.AllK
import Wide.FinOn
import HandS.ForMost
import HandS.Wide
import HandS.Evl
import HandS.Exc
import HandS.ExcOwn
import HandS.TryOnly
import HandS.WordsExc
import HandS.ExcIs
import HandS.IsInst
import HandS.Gcd
import PySem.Challenge.RW_tensorcompiler_k01_fractions_are_exact
set_option Elab.async false
set_option linter.all false
set_option maxRecDepth 100000
set_option maxHeartbeats 4000000
namespace My
open PySem L2
/-! ### the text -/
def topS (i : Nat) : Stmt := PySem.Challenge.pw_tensorcompiler_k01_fractions_are_exact.main.body.getD i (.Pass ⟨0, 0, 0, 0⟩)
abbrev sFrac : Stmt := topS 6
abbrev sPlus : Stmt := topS 7
abbrev sMinus : Stmt := topS 8
abbrev sTimes : Stmt := topS 9
abbrev sOver : Stmt := topS 10
abbrev sCompare : Stmt := topS 11
abbrev sMag : Stmt := topS 12
abbrev sWhole : Stmt := topS 13
abbrev sNear : Stmt := topS 14
abbrev sBegin : Stmt := topS 16
abbrev sTake : Stmt := topS 17
abbrev sSigned : Stmt := topS 18
abbrev sInt : Stmt := topS 19
abbrev sDiv : Stmt := topS 20
abbrev sIs : Stmt := topS 21
abbrev sNumber : Stmt := topS 22
abbrev sRefused : Stmt := topS 23
abbrev sOverIs : Stmt := topS 24
abbrev sRounded : Stmt := topS 25
abbrev sLaw : Stmt := topS 26

/-! ### the mathematics -/
/-- below 2 ^ n in size -/
def Bg (n : Nat) (x : Int) : Prop := x.natAbs < 2 ^ n
theorem Bg.mono {n m : Nat} {x : Int} (h : Bg n x) (l : n ≤ m) : Bg m x := Nat.lt_of_lt_of_le h (Nat.pow_le_pow_right (by decide) l)
theorem Bg.mul {n m : Nat} {x y : Int} (h : Bg n x) (k : Bg m y) : Bg (n + m) (x * y) := wide_lt h k
theorem Bg.add {n : Nat} {x y : Int} (h : Bg n x) (k : Bg n y) : Bg (n + 1) (x + y) := by
  unfold Bg at *
  rw [Nat.pow_succ]
  omega
theorem Bg.sub {n : Nat} {x y : Int} (h : Bg n x) (k : Bg n y) : Bg (n + 1) (x - y) := by
  unfold Bg at *
  rw [Nat.pow_succ]
  omega
theorem Bg.cmul {n m : Nat} {x y : Int} (h : Bg n x) (k : Bg m y) (n0 : 0 < n) (m0 : 0 < m) (l : n + m ≤ 1000000) : CMulW x y := wide_mul h k n0 m0 l
def CDivX (_ j : Int) : Prop := j ≠ 0 ∧ j.natAbs.log2 < 9000
theorem op_fdivX {X : Cx} : OpR X (binaryOp .FloorDiv) (rI CDivX fun i j => .int (i.fdiv j)) := opI fun i j _ _ _ _ _ hc q =>
  PyProof.Rows.floordiv_int hc.1 q (.inl (PyProof.noPylong_of_log2 hc.2))
theorem Bg.div {n : Nat} {x y : Int} (h : Bg n y) (h0 : y ≠ 0) (n0 : 0 < n) (l : n ≤ 9000) : CDivX x y := ⟨h0, Nat.lt_of_lt_of_le (PySem.Flt.log2_lt_of n0 h) l⟩
theorem Bg.divW {n : Nat} {x y : Int} (h : Bg n y) (h0 : 0 < y) (n0 : 0 < n) (l : n ≤ 9000) : CDivW x y := wide_div h0 h n0 l
def gi (a b : Int) : Int := ((Nat.gcd a.natAbs b.natAbs : Nat) : Int)
def dv (a b : Int) : Int := if b < 0 then -(gi a b) else gi a b
/-- n / m is t / b in lowest terms -/
structure Frc (n m t b : Int) : Prop where
  pos : 1 ≤ m
  eq : n * b = t * m
  low : gi n m = 1
theorem gi_pos {a b : Int} (h : b ≠ 0) : 1 ≤ gi a b := by
  have : 0 < Nat.gcd a.natAbs b.natAbs := Nat.gcd_pos_of_pos_right _ (by omega)
  unfold gi
  omega
theorem gi_dvd_l (a b : Int) : gi a b ∣ a := Int.natAbs_dvd_natAbs.mp (by unfold gi; rw [Int.natAbs_natCast]; exact Nat.gcd_dvd_left _ _)
theorem gi_dvd_r (a b : Int) : gi a b ∣ b := Int.natAbs_dvd_natAbs.mp (by unfold gi; rw [Int.natAbs_natCast]; exact Nat.gcd_dvd_right _ _)
theorem dv_ne {a b : Int} (h : b ≠ 0) : dv a b ≠ 0 := by
  have := gi_pos (a := a) h
  unfold dv
  split <;> omega
theorem dv_abs (a b : Int) : (dv a b).natAbs = Nat.gcd a.natAbs b.natAbs := by
  unfold dv gi
  split
  · rw [Int.natAbs_neg, Int.natAbs_natCast]
  · rw [Int.natAbs_natCast]
theorem dv_l (a b : Int) : a.fdiv (dv a b) * dv a b = a := by
  have : dv a b ∣ a := by
    unfold dv
    split
    · exact Int.neg_dvd.mpr (gi_dvd_l a b)
    · exact gi_dvd_l a b
  exact Int.fdiv_mul_cancel this
theorem dv_r (a b : Int) : b.fdiv (dv a b) * dv a b = b := by
  have : dv a b ∣ b := by
    unfold dv
    split
    · exact Int.neg_dvd.mpr (gi_dvd_r a b)
    · exact gi_dvd_r a b
  exact Int.fdiv_mul_cancel this
theorem frc {a b : Int} (h : b ≠ 0) : Frc (a.fdiv (dv a b)) (b.fdiv (dv a b)) a b := by
  have e1 := dv_l a b
  have e2 := dv_r a b
  have h0 := dv_ne (a := a) h
  have hg := gi_pos (a := a) h
  have hd : (0 < dv a b ∧ 0 < b) ∨ (dv a b < 0 ∧ b < 0) := by
    unfold dv
    split
    · right; omega
    · left; omega
  have ha := dv_abs a b
  generalize dv a b = d at *
  generalize a.fdiv d = n at *
  generalize b.fdiv d = m at *
  refine ⟨?_, ?_, ?_⟩
  · rcases hd with ⟨d0, b0⟩ | ⟨d0, b0⟩
    · by_cases g : 1 ≤ m
      · exact g
      · have : m * d ≤ 0 * d := Int.mul_le_mul_of_nonneg_right (by omega) (by omega)
        omega
    · by_cases g : 1 ≤ m
      · exact g
      · have : m * d ≥ 0 := by
          have := Int.mul_nonneg (show 0 ≤ -m by omega) (show 0 ≤ -d by omega)
          rw [Int.neg_mul_neg] at this
          exact this
        omega
  · rw [← e1, ← e2, Int.mul_left_comm n m d, Int.mul_comm m (n * d)]
  · have k : Nat.gcd n.natAbs m.natAbs * d.natAbs = d.natAbs := by
      rw [← Nat.gcd_mul_right, ← Int.natAbs_mul, ← Int.natAbs_mul, e1, e2, ha]
    have k0 : 0 < d.natAbs := by omega
    have : Nat.gcd n.natAbs m.natAbs = 1 := Nat.eq_of_mul_eq_mul_right k0 (by rw [k, Nat.one_mul])
    unfold gi
    omega
/-- the parts are not greater than what was given -/
theorem fdiv_bg {n : Nat} {a d : Int} (h : Bg n a) (e : a.fdiv d * d = a) (h0 : d ≠ 0) : Bg n (a.fdiv d) := by
  unfold Bg at *
  have : a.natAbs = (a.fdiv d).natAbs * d.natAbs := by rw [← Int.natAbs_mul, e]
  have k : (a.fdiv d).natAbs * 1 ≤ (a.fdiv d).natAbs * d.natAbs := Nat.mul_le_mul_left _ (by omega)
  omega
theorem dv_bg {n : Nat} {a b : Int} (h : Bg n b) (h0 : b ≠ 0) : Bg n (dv a b) := by
  unfold Bg at *
  rw [dv_abs]
  exact Nat.lt_of_le_of_lt (Nat.gcd_le_right _ (by omega)) h
theorem gi_step {a b : Int} (ha : 0 ≤ a) (hb : 0 < b) : gi b (a % b) = gi a b := by
  unfold gi
  have e : (a % b).natAbs = a.natAbs % b.natAbs := by
    have h1 : ((a % b).natAbs : Int) = ((a.natAbs % b.natAbs : Nat) : Int) := by
      rw [Int.natCast_emod, Int.natAbs_of_nonneg (Int.emod_nonneg _ (by omega)), Int.natAbs_of_nonneg ha, Int.natAbs_of_nonneg (by omega)]
    exact Int.ofNat.inj h1
  rw [e, Nat.gcd_comm b.natAbs, ← Nat.gcd_rec, Nat.gcd_comm]
theorem gi_abs (a b : Int) : gi (if a < 0 then -a else a) (if b < 0 then -b else b) = gi a b := by
  unfold gi
  have e : ∀ x : Int, (if x < 0 then -x else x).natAbs = x.natAbs := fun x => by split <;> omega
  rw [e, e]
theorem gi_zero {a : Int} (ha : 0 ≤ a) : gi a 0 = a := by
  unfold gi
  rw [Int.natAbs_zero, Nat.gcd_zero_right]
  omega
/-! ### drawing -/
/-- all but one place stands as it was -/
def But (d : Addr) (H H' : Hp) : Prop := ∀ b, b ≠ d → H' b = H b
theorem But.refl (d : Addr) (H : Hp) : But d H H := fun _ _ => rfl
theorem But.trans {d : Addr} {H H1 H2 : Hp} (a : But d H H1) (b : But d H1 H2) : But d H H2 := fun c h => (b c h).trans (a c h)
theorem But.upd {d : Addr} {H : Hp} {o : HO} : But d H (upd H d o) := fun _ h => upd_ne h
/-- the drawing state -/
def DrAt (H : Hp) (d c : Addr) : Prop := ∃ (ns : List Int) (i : Nat) (r s : Int), c ≠ d ∧ H d = some (.lst [.ref c, .int i, .int r, .int s]) ∧ H c = some (.lst (ns.map V.int)) ∧ i ≤ ns.length ∧ 0 ≤ r ∧ 0 ≤ s ∧ s < 2147483647
theorem DrAt.same {H H' : Hp} {d c : Addr} (h : DrAt H d c) (s : Same H H') : DrAt H' d c := by
  obtain ⟨ns, i, r, sd, n, h1, h2, h3⟩ := h
  exact ⟨ns, i, r, sd, n, s _ _ h1, s _ _ h2, h3⟩
theorem DrAt.lst {H : Hp} {d c : Addr} (h : DrAt H d c) : ∃ xs, H d = some (.lst xs) := by
  obtain ⟨ns, i, r, sd, n, h1, _⟩ := h
  exact ⟨_, h1⟩
theorem DrAt.lstc {H : Hp} {d c : Addr} (h : DrAt H d c) : ∃ xs, H c = some (.lst xs) := by
  obtain ⟨ns, i, r, sd, n, _, h1, _⟩ := h
  exact ⟨_, h1⟩
/-- another list may be changed -/
theorem DrAt.upd {H : Hp} {d c p : Addr} (h : DrAt H d c) (o : HO) (nd : p ≠ d) (nc : p ≠ c) : DrAt (upd H p o) d c := by
  obtain ⟨ns, i, r, sd, n, h1, h2, h3⟩ := h
  exact ⟨ns, i, r, sd, n, by rw [upd_ne nd.symm]; exact h1, by rw [upd_ne nc.symm]; exact h2, h3⟩
/-- what is no list is kept by a draw -/
theorem But.tup {d c b : Addr} {H H' : Hp} {xs : List V} (k : But d H H') (h : DrAt H d c) (hb : H b = some (.tup xs)) : H' b = some (.tup xs) := by
  obtain ⟨ys, hd⟩ := h.lst
  rw [k b (ne_of hb hd (fun z => nomatch z))]
  exact hb
def Bnd (m : Int) : Prop := m < 2 ^ 400
structure TxtD (mg : Str → Option Value) : Prop where
  int : mg "int" = none
  abs : mg "abs" = none
  len : mg "len" = none
  list : mg "list" = none
section
variable {P : Program} {w : World} {K : PySem.W.Frag} {mg : Str → Option Value} {base : Heap}
def spBegin (K : PySem.W.Frag) : Sp := fun vs H Q _ => ∃ (a : Addr) (ns : List Int), vs = [.ref a] ∧ SqL K H a (ns.map V.int) ∧ ns.length ≤ 63 ∧
  ∀ H' d c, Same H H' → H d = none → H c = none → DrAt H' d c → Q (.ref d) H'
theorem scB : FnScope ["script", "seed", "cell"] ["script"] (defScope sBegin) := ⟨rfl, rfl, rfl, by decide +kernel, rfl, by decide +kernel, by decide +kernel⟩
theorem ok_begin {f : Addr} {fd : FuncData} (F : Fun K "_law_begin" "_law_begin" sBegin f fd) (T : TxtD mg) : FnOk P w K mg base CX0 1 f fd ["script"] (spBegin K) := by
  refine F.ok scB (fun vs H Q E h => ?_) (fun cdv A outer s H vs Q E hr h => ?_)
  · obtain ⟨a, ns, rfl, _⟩ := h
    rfl
  · obtain ⟨a, ns, rfl, hS, hlen, q⟩ := h
    refine ⟨_, pss_cons (ps_set (i := 1) scB.nd rfl (.inl rfl) pe_int)
      (pss_cons (ps_for PassesOwn.never rfl (pi_list (pv 0)) (pg_name (i := 2) scB.nd rfl (.inl rfl))
        (pss_one (ps_set (i := 1) scB.nd rfl (.inl rfl)
          (pe_op op_mod (pe_op op_add (pe_op op_add (pe_op op_mul (pv 1) pe_int) (pe_op op_mod (pe_callTy call_int1 (by rfl) T.int (by decide +kernel) (pa_cons (pv 2) pa_nil)) pe_int)) pe_int) pe_int))))
      (pss_one (ps_ret (pe_lst (pa_cons (pe_callTy call_list_of (by rfl) T.list (by decide +kernel) (pa_cons (pv 0) pa_nil)) (pa_cons pe_int (pa_cons pe_int (pa_cons (pv 1) pa_nil)))))))), ?_⟩
    refine ⟨_, rfl, a, rfl, ⟨_, hS⟩, for_list (K := K) (a := a) (xs := ns.map V.int) (fun i σ H' => ∃ (z : Int) (v : Option V), σ = [some (.ref a), some (.int z), v] ∧ H' = H ∧ 0 ≤ z ∧ z < 2147483647)
      ⟨1, none, rfl, rfl, by decide, by decide⟩ (fun i σ H' _ ⟨_, _, _, e, _⟩ => by rw [e]; exact hS) ?_ ?_⟩
    · rintro i x σ H' hi ⟨z, v, rfl, rfl, h0, h1⟩
      obtain ⟨u, rfl⟩ : ∃ u, x = V.int u := by
        rw [List.getElem?_map] at hi
        cases e : ns[i]? with
        | none => rw [e] at hi; cases hi
        | some u => rw [e] at hi; exact ⟨u, (Option.some.inj hi).symm⟩
      refine ⟨_, rfl, _, _, rfl, rfl, .inl ⟨by omega, by omega⟩, _, rfl, .inl ⟨_, rfl, _, _, rfl, rfl, (by show (0 : Int) < 2147483629; decide), _, _, rfl, rfl, _, _, rfl, rfl, _, _, rfl, rfl, (by show (0 : Int) < 2147483647; decide), ?_⟩⟩
      exact ⟨_, _, rfl, rfl, Int.emod_nonneg _ (by decide), Int.emod_lt_of_pos _ (by decide)⟩
    · rintro σ H' ⟨z, v, rfl, rfl, h0, h1⟩
      refine ⟨_, rfl, a, _, rfl, .inl hS, fun c nc => ⟨_, rfl, by show 4 ≤ sizeLine; decide, fun d nd => ?_⟩⟩
      have ndc : d ≠ c := fun e => by
        rw [e, upd_same] at nd
        cases nd
      have nd0 : H' d = none := by
        rw [upd_ne ndc] at nd
        exact nd
      refine q _ d c (fun b o e => ?_) nd0 nc ⟨ns, 0, 0, z, ndc.symm, upd_same, ?_, Nat.zero_le _, by decide, h0, h1⟩
      · rw [upd_ne (ne_of_none e nd0), upd_ne (ne_of_none e nc)]
        exact e
      · rw [upd_ne ndc.symm, upd_same]
def spTake : Sp := fun vs H Q _ => ∃ (d c : Addr) (m : Int), vs = [.ref d, .int m] ∧ DrAt H d c ∧ 0 < m ∧ Bnd m ∧
  ∀ H' v, But d H H' → DrAt H' d c → 0 ≤ v → v < m → Q (.int v) H'
theorem scT : FnScope ["d", "many", "small", "digit"] ["d", "many"] (defScope sTake) := ⟨rfl, rfl, rfl, by decide +kernel, rfl, by decide +kernel, by decide +kernel⟩
theorem at0 {a b c e : V} : atI [a, b, c, e] (0 : Int) = some a := rfl
theorem at1 {a b c e : V} : atI [a, b, c, e] (1 : Int) = some b := rfl
theorem at2 {a b c e : V} : atI [a, b, c, e] (2 : Int) = some c := rfl
theorem at3 {a b c e : V} : atI [a, b, c, e] (3 : Int) = some e := rfl
theorem bnd_nat {m : Int} (h0 : 0 < m) (h : Bnd m) : m.natAbs < 2 ^ 400 := by
  have e : ((2 ^ 400 : Nat) : Int) = 2 ^ 400 := by decide +kernel
  unfold Bnd at h
  generalize (2 ^ 400 : Nat) = B at *
  omega
theorem bndW {r m : Int} (h0 : 0 < m) (h : Bnd m) : CDivW r m := wide_div (b := 400) h0 (bnd_nat h0 h) (by decide) (by decide)
theorem ok_take {f : Addr} {fd : FuncData} (F : Fun K "_law_take" "_law_take" sTake f fd) (T : TxtD mg) : FnOk P w K mg base CX0 1 f fd ["d", "many"] spTake := by
  refine F.ok scT (fun vs H Q E h => ?_) (fun cdv A outer s H vs Q E hr h => ?_)
  · obtain ⟨d, c, m, rfl, _⟩ := h
    rfl
  · obtain ⟨d, c, m, rfl, ⟨ns, i, r, sd, ncd, hd, hc, hi, hr0, hs0, hs1⟩, hm, hb, q⟩ := h
    refine ⟨_, Evl.pss_cut (ps_if (PW.pt (pw_and (pt_cmpR op_eq (pe_ix ix_list (pv 0) pe_int (fun _ _ => rfl)) pe_int (nomark _))
        (pw_and1 (pt_cmpR op_lt (pe_ix ix_list (pv 0) pe_int (fun _ _ => rfl)) (pe_callB call_len_seq (by rfl) T.len PySem.boot_len (pa_cons (pe_ix ix_list (pv 0) pe_int (fun _ _ => rfl)) pa_nil)) (nomark _)))))
        (pss_cons (ps_asg (pe_callB call_abs (by rfl) T.abs (by decide +kernel) (pa_cons (pe_callTy call_int1 (by rfl) T.int (by decide +kernel) (pa_cons (pe_ix ix_list (pe_ix ix_list (pv 0) pe_int (fun _ _ => rfl)) (pe_ix ix_list (pv 0) pe_int (fun _ _ => rfl)) (fun _ _ => rfl)) pa_nil)) pa_nil)) (pg_sub (pv 0) pe_int set_list))
        (pss_cons (ps_asg (pe_op op_add (pe_ix ix_list (pv 0) pe_int (fun _ _ => rfl)) pe_int) (pg_sub (pv 0) pe_int set_list))
        (pss_one (ps_if (pt_cmpR op_lt (pe_ix ix_list (pv 0) pe_int (fun _ _ => rfl)) (pe_op op_pow pe_int pe_int) (nomark _))
          (pss_cons (ps_set (i := 2) scT.nd rfl (.inl rfl) (pe_callTy call_int1 (by rfl) T.int (by decide +kernel) (pa_cons (pe_ix ix_list (pv 0) pe_int (fun _ _ => rfl)) pa_nil)))
          (pss_cons (ps_asg pe_int (pg_sub (pv 0) pe_int set_list))
          (pss_one (ps_ret (pe_op op_mod (pv 2) (pv 1))))))
          pss_nil))))
        pss_nil)
      (pss_cons (ps_if (pt_cmpR op_gt (pe_ix ix_list (pv 0) pe_int (fun _ _ => rfl)) pe_int (nomark _))
        (pss_cons (ps_set (i := 3) scT.nd rfl (.inl rfl) (pe_op op_mod (pe_callTy call_int1 (by rfl) T.int (by decide +kernel) (pa_cons (pe_ix ix_list (pv 0) pe_int (fun _ _ => rfl)) pa_nil)) (pv 1)))
        (pss_cons (ps_asg (pe_op op_fdivW (pe_callTy call_int1 (by rfl) T.int (by decide +kernel) (pa_cons (pe_ix ix_list (pv 0) pe_int (fun _ _ => rfl)) pa_nil)) (pv 1)) (pg_sub (pv 0) pe_int set_list))
        (pss_one (ps_ret (pv 3)))))
        pss_nil)
      (pss_cons (ps_asg (pe_op op_mod (pe_callTy call_int1 (by rfl) T.int (by decide +kernel) (pa_cons (pe_op op_add (pe_op op_mul (pe_ix ix_list (pv 0) pe_int (fun _ _ => rfl)) pe_int) pe_int) pa_nil)) pe_int) (pg_sub (pv 0) pe_int set_list))
      (pss_one (ps_ret (pe_op op_mod (pe_callTy call_int1 (by rfl) T.int (by decide +kernel) (pa_cons (pe_op op_fdiv (pe_ix ix_list (pv 0) pe_int (fun _ _ => rfl)) pe_int) pa_nil)) (pv 1)))))), ?_⟩
    refine ⟨fun σ' H' => ∃ (i r sd : Int) (x2 : Option V) (i' : Nat), σ' = [some (.ref d), some (.int m), x2, none] ∧ H' = upd H d (.lst [.ref c, .int i, .int r, .int sd]) ∧ i = i' ∧ i' ≤ ns.length ∧ 0 ≤ r ∧ 0 ≤ sd ∧ sd < 2147483647, ?_, ?_⟩
    · have same : H = upd H d (.lst [.ref c, .int i, .int r, .int sd]) := by
        funext b
        by_cases e : b = d
        · rw [e, upd_same, hd]
        · rw [upd_ne e]
      refine ⟨_, rfl, d, _, 2, _, rfl, rfl, SqL.of hd, at2, rfl, _, rfl, ite2 (fun e => ?_) (fun e => ?_)⟩
      · refine ⟨_, rfl, d, _, 1, _, rfl, rfl, SqL.of hd, at1, _, rfl, d, _, 0, _, rfl, rfl, SqL.of hd, at0, c, _, rfl, .inl (SqL.of hc), _, _, rfl, rfl, _, rfl, ite2 (fun e2 => ?_) (fun e2 => ?_)⟩
        · have hlt : i < ns.length := by
            have := of_decide_eq_true e2
            rw [List.length_map] at this
            omega
          have hx : (ns.map V.int)[i]? = some (.int ns[i]) := by
            rw [List.getElem?_map, List.getElem?_eq_getElem hlt]
            rfl
          generalize ns[i] = x at hx
          have hcd : ∀ o, (upd H d o) c = some (.lst (ns.map V.int)) := fun o => by rw [upd_ne ncd]; exact hc
          have habs : 0 ≤ (if x < 0 then -x else x) := by split <;> omega
          -- d[2] = abs(int(d[0][d[1]]))
          refine ⟨_, rfl, d, _, 0, _, rfl, rfl, SqL.of hd, at0, _, rfl, d, _, 1, _, rfl, rfl, SqL.of hd, at1, c, _, _, _, rfl, rfl, SqL.of hc, atI_nat hx, .inl ⟨x, rfl, x, rfl, _, rfl, d, _, 2, 2, rfl, rfl, hd, rfl, ?_⟩⟩
          generalize (if x < 0 then -x else x) = y at habs
          -- d[1] = d[1] + 1
          refine ⟨_, rfl, d, _, 1, _, rfl, rfl, SqL.of upd_same, at1, _, _, rfl, rfl, _, rfl, d, _, 1, 1, rfl, rfl, upd_same, rfl, ?_⟩
          rw [upd_upd]
          -- if d[2] < 10 ** 18
          refine ⟨_, rfl, d, _, 2, _, rfl, rfl, SqL.of upd_same, at2, 10, 18, rfl, rfl, ⟨by decide, by decide, by decide⟩, _, _, rfl, rfl, _, rfl, ite2 (fun e3 => ?_) (fun e3 => ?_)⟩
          · refine ⟨_, rfl, d, _, 2, _, rfl, rfl, SqL.of upd_same, at2, .inl ⟨_, rfl, _, rfl, d, _, 2, 2, rfl, rfl, upd_same, rfl, ?_⟩⟩
            rw [upd_upd]
            refine ⟨_, rfl, _, rfl, _, _, rfl, rfl, hm, ?_⟩
            exact q _ _ But.upd ⟨ns, i + 1, 0, sd, ncd, upd_same, hcd _, hlt, by decide, hs0, hs1⟩ (Int.emod_nonneg _ (by omega)) (Int.emod_lt_of_pos _ hm)
          · exact ⟨_, _, _, _, i + 1, rfl, rfl, rfl, hlt, habs, hs0, hs1⟩
        · exact ⟨_, _, _, _, i, rfl, same, rfl, hi, hr0, hs0, hs1⟩
      · exact iteF ⟨_, _, _, _, i, rfl, same, rfl, hi, hr0, hs0, hs1⟩
    · clear hd hi hr0 hs0 hs1
      rintro σ' H' ⟨i, r, sd, x2, i', rfl, rfl, rfl, hi, hr0, hs0, hs1⟩
      have hcd : ∀ o, (upd H d o) c = some (.lst (ns.map V.int)) := fun o => by rw [upd_ne ncd]; exact hc
      refine ⟨_, rfl, d, _, 2, _, rfl, rfl, SqL.of upd_same, at2, _, _, rfl, rfl, _, rfl, ite2 (fun e => ?_) (fun e => ?_)⟩
      · refine ⟨_, rfl, d, _, 2, _, rfl, rfl, SqL.of upd_same, at2, .inl ⟨_, rfl, _, rfl, _, _, rfl, rfl, hm, ?_⟩⟩
        refine ⟨_, rfl, d, _, 2, _, rfl, rfl, SqL.of upd_same, at2, .inl ⟨_, rfl, _, rfl, _, _, rfl, rfl, bndW hm hb, _, rfl, d, _, 2, 2, rfl, rfl, upd_same, rfl, ?_⟩⟩
        rw [upd_upd]
        refine ⟨_, rfl, ?_⟩
        exact q _ _ But.upd ⟨ns, i', _, sd, ncd, upd_same, hcd _, hi, Int.ediv_nonneg hr0 (by omega), hs0, hs1⟩ (Int.emod_nonneg _ (by omega)) (Int.emod_lt_of_pos _ hm)
      · refine ⟨_, rfl, d, _, 3, _, rfl, rfl, SqL.of upd_same, at3, _, _, rfl, rfl, .inl ⟨by omega, by omega⟩, _, _, rfl, rfl, .inl ⟨_, rfl, _, _, rfl, rfl, (by show (0 : Int) < 2147483647; decide), _, rfl, d, _, 3, 3, rfl, rfl, upd_same, rfl, ?_⟩⟩
        rw [upd_upd]
        refine ⟨_, rfl, d, _, 3, _, rfl, rfl, SqL.of upd_same, at3, _, _, rfl, rfl, ⟨by decide, by decide⟩, .inl ⟨_, rfl, _, rfl, _, _, rfl, rfl, hm, ?_⟩⟩
        exact q _ _ But.upd ⟨ns, i', r, _, ncd, upd_same, hcd _, hi, hr0, Int.emod_nonneg _ (by decide), Int.emod_lt_of_pos _ (by decide)⟩ (Int.emod_nonneg _ (by omega)) (Int.emod_lt_of_pos _ hm)
def spSigned : Sp := fun vs H Q _ => ∃ (d c : Addr) (m : Int), vs = [.ref d, .int m] ∧ DrAt H d c ∧ 0 ≤ m ∧ Bnd (2 * m + 1) ∧
  ∀ H' v, But d H H' → DrAt H' d c → -m ≤ v → v ≤ m → Q (.int v) H'
theorem scS : FnScope ["d", "most"] ["d", "most"] (defScope sSigned) := ⟨rfl, rfl, rfl, by decide +kernel, rfl, by decide +kernel, by decide +kernel⟩
theorem ok_signed {f fT : Addr} {fd fdT : FuncData} (F : Fun K "_law_signed" "_law_signed" sSigned f fd) (GT : FnOk P w K mg base CX0 1 fT fdT ["d", "many"] spTake) (kT : PySem.W.keepIn K (.ref fT) = true) (bT : Binds K fdT ["d", "many"] []) (gT : mg "_law_take" = some (.ref fT)) : FnOk P w K mg base CX0 2 f fd ["d", "most"] spSigned := by
  refine F.ok scS (fun vs H Q E h => ?_) (fun cdv A outer s H vs Q E hr h => ?_)
  · obtain ⟨d, c, m, rfl, _⟩ := h
    rfl
  · obtain ⟨d, c, m, rfl, dr, h0, hb, q⟩ := h
    refine ⟨_, pss_one (ps_ret (pe_op op_sub (pe_call GT hr (by rfl) gT kT bT .nil pass0 (pa_cons (pv 0) (pa_cons (pe_op op_add (pe_op op_mul pe_int (pv 1)) pe_int) pa_nil))) (pv 1))), ?_⟩
    refine ⟨_, rfl, _, rfl, _, _, rfl, rfl, .inl ⟨by omega, by omega⟩, _, _, rfl, rfl, d, c, _, rfl, dr, by omega, hb, fun H' v k dr' v0 v1 => ?_⟩
    exact ⟨_, rfl, _, _, rfl, rfl, q _ _ k dr' (by omega) (by omega)⟩
/-! ### own errors -/
abbrev valErr : List Value := [.type "ValueError", .type "Exception", .type "BaseException", .type "object"]
/-- what the written part says of an error class that is raised -/
structure ErrR (K : PySem.W.Frag) (mg : Str → Option Value) (n : Str) (C : Addr) : Prop where
  g : mg n = some (.ref C)
  x : PySem.W.excIn K C valErr "ValueError.__new__" = true
  k : PySem.W.keepIn K (.ref C) = true
  b : PySem.W.subIn K (.ref C) (.type "BaseException") = some true
  t : PySem.W.typeIn K (.ref C) = some (.type "type")
/-- of one that an except clause names -/
structure ErrN (K : PySem.W.Frag) (mg : Str → Option Value) (n : Str) (C : Addr) : Prop where
  g : mg n = some (.ref C)
  b : PySem.W.subIn K (.ref C) (.type "BaseException") = some true
  h : PySem.W.hasDictIn K C = true
  t : PySem.W.typeIn K (.ref C) = some (.type "type")
theorem ErrN.ex {K : PySem.W.Frag} {mg : Str → Option Value} {n : Str} {C : Addr} (e : ErrN K mg n C) {cls : Value} {r : Bool} (s : PySem.W.subIn K cls (.ref C) = some r) : PySem.W.exmOne K cls (.ref C) = some r := PySem.W.exm_ref e.b e.h e.t s
theorem pss_if {X : Cx} {sts : List Stmt} {t : TS} {P : Prop} (h : P → PSs X sts t) : PSs X sts (fun D σ H => P ∧ t D σ H) := ⟨fun pins s σ H D I hh => (h hh.1).run pins s σ H D I hh.2⟩
theorem kit_rr {K : PySem.W.Frag} {Z C : Addr} {r : Bool} (s : PySem.W.subIn K (.ref Z) (.ref C) = some r) (z : PySem.W.subIn K (.ref Z) (.ref Z) = some true) (h : PySem.W.hasDictIn K C = true) (t : PySem.W.typeIn K (.ref C) = some (.type "type")) : PySem.W.kitOne K (.ref Z) (.ref C) = some r := by
  have hc : (PySem.W.clsIn K C).isSome = true := by
    unfold PySem.W.hasDictIn at h
    cases e : PySem.W.clsIn K C with
    | none => rw [e] at h; cases h
    | some _ => rfl
  have e2 : ((PySem.W.clsIn K C).isSome && PySem.W.typeIn K (.ref C) == some (.type "type")) = true := by rw [hc, t] <;> rfl
  show (if (Value.ref Z == Value.ref C) = true then some true else (if ((PySem.W.clsIn K C).isSome && PySem.W.typeIn K (.ref C) == some (.type "type")) = true then PySem.W.subIn K (.ref Z) (.ref C) else none)) = some r
  by_cases g : (Value.ref Z == Value.ref C) = true
  · rw [if_pos g]
    have e : Value.ref Z = Value.ref C := beq_iff_eq.mp g
    rw [← e, z] at s
    exact s
  · rw [if_neg g, if_pos e2]
    exact s
theorem kit_rt {K : PySem.W.Frag} {Z : Addr} {T : String} {r : Bool} (s : PySem.W.subIn K (.ref Z) (.type T) = some r) (m : PySem.W.kitMeta T = true) : PySem.W.kitOne K (.ref Z) (.type T) = some r := by
  have g : (Value.ref Z == Value.type T) = false := rfl
  show (if (Value.ref Z == Value.type T) = true then some true else (if PySem.W.kitMeta T = true then PySem.W.subIn K (.ref Z) (.type T) else none)) = some r
  rw [g, if_neg Bool.false_ne_true, if_pos m]
  exact s

/-! ### the program's own defs -/
abbrev FrT (H : Hp) (p : Addr) (n m : Int) : Prop := H p = some (.tup [.int n, .int m])
theorem new_tup {H : Hp} {p : Addr} {o : HO} (h : H p = none) : Same H (upd H p o) := fun b x e => by
  rw [upd_ne (ne_of_none e h)]
  exact e
def spFrac (Z : Addr) : Sp := fun vs H Q E => ∃ a b : Int, vs = [.int a, .int b] ∧ Bg 1000 a ∧ Bg 1000 b ∧ (b = 0 → E (.ref Z) none H) ∧
  (b ≠ 0 → ∀ p, H p = none → Q (.ref p) (upd H p (.tup [.int (a.fdiv (dv a b)), .int (b.fdiv (dv a b))])))
theorem scF : FnScope ["numerator", "denominator", "divisor"] ["numerator", "denominator"] (defScope sFrac) := ⟨rfl, rfl, rfl, by decide +kernel, rfl, by decide +kernel, by decide +kernel⟩
theorem ok_frac {f Z : Addr} {fd : FuncData} (F : Fun K "fraction" "fraction" sFrac f fd) (R : ErrR K mg "ZeroDenominator" Z) (mg0 : mg "gcd" = some (.builtin "math.gcd")) :
    FnOk P w K mg base (L2.CX P w) 1 f fd ["numerator", "denominator"] (spFrac Z) := by
  refine F.okX scF (fun vs H Q E h => ?_) (fun cdv A outer s H vs Q E hr h => ?_)
  · obtain ⟨a, b, rfl, _⟩ := h
    rfl
  · obtain ⟨a, b, rfl, ha, hb, hz, q⟩ := h
    refine ⟨_, pss_cons (ps_if (pt_cmpR op_eq (pv 1) pe_int (nomark _)) (pss_one (ps_raise rfl (takes_of rfl rfl rfl rfl) (pmk_own PySem.F.excBase_ValueError R.x R.g R.k (raises_own R.b R.t) rfl))) pss_nil)
      (pss_cons (ps_set (i := 2) scF.nd rfl (.inl rfl) (pe_callBfun cr_gcd (by rfl) mg0 (pa_cons (pv 0) (pa_cons (pv 1) pa_nil))))
      (Evl.pss_cut (ps_if (pt_cmpR op_lt (pv 1) pe_int (nomark _)) (pss_one (ps_set (i := 2) scF.nd rfl (.inl rfl) (pe_un un_neg (pv 2)))) pss_nil)
      (pss_one (ps_ret (pe_tup (pa_cons (pe_op op_fdivX (pv 0) (pv 2)) (pa_cons (pe_op op_fdivX (pv 1) (pv 2)) pa_nil))))))), ?_⟩
    refine ⟨_, rfl, rfl, _, rfl, ite2 (fun e => ?_) (fun e => ?_)⟩
    · exact hz (V.int.inj (of_decide_eq_true e))
    · have hb0 : b ≠ 0 := fun z => e (decide_eq_true (by rw [z]))
      refine ⟨_, rfl, _, rfl, a, b, rfl, ?_⟩
      refine ⟨fun σ' H' => σ' = [some (.int a), some (.int b), some (.int (dv a b))] ∧ H' = H, ?_, ?_⟩
      · refine ⟨_, rfl, _, _, rfl, rfl, _, rfl, ite2 (fun e2 => ?_) (fun e2 => ?_)⟩
        · refine ⟨_, rfl, _, rfl, ?_, rfl⟩
          unfold dv
          rw [if_pos (of_decide_eq_true e2)]
          rfl
        · refine ⟨?_, rfl⟩
          unfold dv
          rw [if_neg (fun z => e2 (decide_eq_true z))]
          rfl
      · rintro σ' H' ⟨rfl, rfl⟩
        have hd := dv_bg (a := a) hb hb0
        have h0 := dv_ne (a := a) hb0
        refine ⟨_, rfl, _, rfl, _, _, rfl, rfl, hd.div h0 (by decide) (by decide), _, rfl, _, rfl, _, _, rfl, rfl, hd.div h0 (by decide) (by decide), by show 2 ≤ sizeLine; decide, fun p np => ?_⟩
        exact q hb0 p np
/-- the answer of an operation on two fractions -/
def spOp (t b : Int → Int → Int → Int → Int) : Sp := fun vs H Q _ => ∃ (pa pb : Addr) (n m n' m' : Int), vs = [.ref pa, .ref pb] ∧ FrT H pa n m ∧ FrT H pb n' m' ∧ Bg 200 n ∧ Bg 200 m ∧ Bg 200 n' ∧ Bg 200 m' ∧
  b n m n' m' ≠ 0 ∧ ∀ p, H p = none → Q (.ref p) (upd H p (.tup [.int ((t n m n' m').fdiv (dv (t n m n' m') (b n m n' m'))), .int ((b n m n' m').fdiv (dv (t n m n' m') (b n m n' m')))]))
theorem f0 {a b : V} : atI [a, b] (0 : Int) = some a := rfl
theorem f1 {a b : V} : atI [a, b] (1 : Int) = some b := rfl
theorem scP : FnScope ["a", "b"] ["a", "b"] (defScope sPlus) := ⟨rfl, rfl, rfl, by decide +kernel, rfl, by decide +kernel, by decide +kernel⟩
theorem scM : FnScope ["a", "b"] ["a", "b"] (defScope sMinus) := ⟨rfl, rfl, rfl, by decide +kernel, rfl, by decide +kernel, by decide +kernel⟩
theorem scX : FnScope ["a", "b"] ["a", "b"] (defScope sTimes) := ⟨rfl, rfl, rfl, by decide +kernel, rfl, by decide +kernel, by decide +kernel⟩
theorem scV : FnScope ["a", "b"] ["a", "b"] (defScope sOver) := ⟨rfl, rfl, rfl, by decide +kernel, rfl, by decide +kernel, by decide +kernel⟩
section
variable {fF Z : Addr} {fdF : FuncData} (GF : FnOk P w K mg base (L2.CX P w) 1 fF fdF ["numerator", "denominator"] (spFrac Z)) (kF : PySem.W.keepIn K (.ref fF) = true) (bF : Binds K fdF ["numerator", "denominator"] []) (gF : mg "fraction" = some (.ref fF))
include GF kF bF gF
theorem ok_plus {f : Addr} {fd : FuncData} (F : Fun K "plus" "plus" sPlus f fd) : FnOk P w K mg base CX0 2 f fd ["a", "b"] (spOp (fun n m n' m' => n * m' + n' * m) (fun n m n' m' => m * m')) := by
  refine F.ok scP (fun vs H Q E h => ?_) (fun cdv A outer s H vs Q E hr h => ?_)
  · obtain ⟨a, b, _, _, _, _, rfl, _⟩ := h
    rfl
  · obtain ⟨pa, pb, n, m, n', m', rfl, ha, hb, b1, b2, b3, b4, h0, q⟩ := h
    have c1 := b1.cmul b4 (by decide) (by decide) (by decide)
    have c2 := b3.cmul b2 (by decide) (by decide) (by decide)
    have c3 := b2.cmul b4 (by decide) (by decide) (by decide)
    refine ⟨_, pss_one (ps_ret (pe_call GF hr (by rfl) gF kF bF .nil passL (pa_cons (pe_op op_add (pe_op op_mulW (pe_ix ix_tup (pv 0) pe_int (fun _ _ => rfl)) (pe_ix ix_tup (pv 1) pe_int (fun _ _ => rfl))) (pe_op op_mulW (pe_ix ix_tup (pv 1) pe_int (fun _ _ => rfl)) (pe_ix ix_tup (pv 0) pe_int (fun _ _ => rfl)))) (pa_cons (pe_op op_mulW (pe_ix ix_tup (pv 0) pe_int (fun _ _ => rfl)) (pe_ix ix_tup (pv 1) pe_int (fun _ _ => rfl))) pa_nil)))), ?_⟩
    refine ⟨_, rfl, pa, _, _, _, rfl, rfl, SqT.of ha, f0, _, rfl, pb, _, _, _, rfl, rfl, SqT.of hb, f1, _, _, rfl, rfl, c1, _, rfl, pb, _, _, _, rfl, rfl, SqT.of hb, f0, _, rfl, pa, _, _, _, rfl, rfl, SqT.of ha, f1, _, _, rfl, rfl, c2, _, _, rfl, rfl,
      _, rfl, pa, _, _, _, rfl, rfl, SqT.of ha, f1, _, rfl, pb, _, _, _, rfl, rfl, SqT.of hb, f1, _, _, rfl, rfl, c3, _, _, rfl, (((b1.mul b4).add (b3.mul b2)).mono (by decide)), ((b2.mul b4).mono (by decide)), fun z => absurd z h0, fun _ => q⟩
theorem ok_minus {f : Addr} {fd : FuncData} (F : Fun K "minus" "minus" sMinus f fd) : FnOk P w K mg base CX0 2 f fd ["a", "b"] (spOp (fun n m n' m' => n * m' - n' * m) (fun n m n' m' => m * m')) := by
  refine F.ok scM (fun vs H Q E h => ?_) (fun cdv A outer s H vs Q E hr h => ?_)
  · obtain ⟨a, b, _, _, _, _, rfl, _⟩ := h
    rfl
  · obtain ⟨pa, pb, n, m, n', m', rfl, ha, hb, b1, b2, b3, b4, h0, q⟩ := h
    have c1 := b1.cmul b4 (by decide) (by decide) (by decide)
    have c2 := b3.cmul b2 (by decide) (by decide) (by decide)
    have c3 := b2.cmul b4 (by decide) (by decide) (by decide)
    refine ⟨_, pss_one (ps_ret (pe_call GF hr (by rfl) gF kF bF .nil passL (pa_cons (pe_op op_sub (pe_op op_mulW (pe_ix ix_tup (pv 0) pe_int (fun _ _ => rfl)) (pe_ix ix_tup (pv 1) pe_int (fun _ _ => rfl))) (pe_op op_mulW (pe_ix ix_tup (pv 1) pe_int (fun _ _ => rfl)) (pe_ix ix_tup (pv 0) pe_int (fun _ _ => rfl)))) (pa_cons (pe_op op_mulW (pe_ix ix_tup (pv 0) pe_int (fun _ _ => rfl)) (pe_ix ix_tup (pv 1) pe_int (fun _ _ => rfl))) pa_nil)))), ?_⟩
    refine ⟨_, rfl, pa, _, _, _, rfl, rfl, SqT.of ha, f0, _, rfl, pb, _, _, _, rfl, rfl, SqT.of hb, f1, _, _, rfl, rfl, c1, _, rfl, pb, _, _, _, rfl, rfl, SqT.of hb, f0, _, rfl, pa, _, _, _, rfl, rfl, SqT.of ha, f1, _, _, rfl, rfl, c2, _, _, rfl, rfl,
      _, rfl, pa, _, _, _, rfl, rfl, SqT.of ha, f1, _, rfl, pb, _, _, _, rfl, rfl, SqT.of hb, f1, _, _, rfl, rfl, c3, _, _, rfl, (((b1.mul b4).sub (b3.mul b2)).mono (by decide)), ((b2.mul b4).mono (by decide)), fun z => absurd z h0, fun _ => q⟩
theorem ok_times {f : Addr} {fd : FuncData} (F : Fun K "times" "times" sTimes f fd) : FnOk P w K mg base CX0 2 f fd ["a", "b"] (spOp (fun n m n' m' => n * n') (fun n m n' m' => m * m')) := by
  refine F.ok scX (fun vs H Q E h => ?_) (fun cdv A outer s H vs Q E hr h => ?_)
  · obtain ⟨a, b, _, _, _, _, rfl, _⟩ := h
    rfl
  · obtain ⟨pa, pb, n, m, n', m', rfl, ha, hb, b1, b2, b3, b4, h0, q⟩ := h
    have c1 := b1.cmul b3 (by decide) (by decide) (by decide)
    have c3 := b2.cmul b4 (by decide) (by decide) (by decide)
    refine ⟨_, pss_one (ps_ret (pe_call GF hr (by rfl) gF kF bF .nil passL (pa_cons (pe_op op_mulW (pe_ix ix_tup (pv 0) pe_int (fun _ _ => rfl)) (pe_ix ix_tup (pv 1) pe_int (fun _ _ => rfl))) (pa_cons (pe_op op_mulW (pe_ix ix_tup (pv 0) pe_int (fun _ _ => rfl)) (pe_ix ix_tup (pv 1) pe_int (fun _ _ => rfl))) pa_nil)))), ?_⟩
    refine ⟨_, rfl, pa, _, _, _, rfl, rfl, SqT.of ha, f0, _, rfl, pb, _, _, _, rfl, rfl, SqT.of hb, f0, _, _, rfl, rfl, c1,
      _, rfl, pa, _, _, _, rfl, rfl, SqT.of ha, f1, _, rfl, pb, _, _, _, rfl, rfl, SqT.of hb, f1, _, _, rfl, rfl, c3, _, _, rfl, ((b1.mul b3).mono (by decide)), ((b2.mul b4).mono (by decide)), fun z => absurd z h0, fun _ => q⟩
def spOver (Z : Addr) : Sp := fun vs H Q E => ∃ (pa pb : Addr) (n m n' m' : Int), vs = [.ref pa, .ref pb] ∧ FrT H pa n m ∧ FrT H pb n' m' ∧ Bg 200 n ∧ Bg 200 m ∧ Bg 200 n' ∧ Bg 200 m' ∧
  (m * n' = 0 → E (.ref Z) none H) ∧ (m * n' ≠ 0 → ∀ p, H p = none → Q (.ref p) (upd H p (.tup [.int ((n * m').fdiv (dv (n * m') (m * n'))), .int ((m * n').fdiv (dv (n * m') (m * n')))])))
theorem ok_over {f : Addr} {fd : FuncData} (F : Fun K "over" "over" sOver f fd) : FnOk P w K mg base (L2.CX P w) 2 f fd ["a", "b"] (spOver Z) := by
  refine F.okX scV (fun vs H Q E h => ?_) (fun cdv A outer s H vs Q E hr h => ?_)
  · obtain ⟨a, b, _, _, _, _, rfl, _⟩ := h
    rfl
  · obtain ⟨pa, pb, n, m, n', m', rfl, ha, hb, b1, b2, b3, b4, hz, q⟩ := h
    have c1 := b1.cmul b4 (by decide) (by decide) (by decide)
    have c3 := b2.cmul b3 (by decide) (by decide) (by decide)
    refine ⟨_, pss_one (ps_ret (pe_callS GF hr (by rfl) gF kF bF (fun σ => passAt (takes_of rfl rfl rfl rfl) σ) (pa_cons (pe_op op_mulW (pe_ix ix_tup (pv 0) pe_int (fun _ _ => rfl)) (pe_ix ix_tup (pv 1) pe_int (fun _ _ => rfl))) (pa_cons (pe_op op_mulW (pe_ix ix_tup (pv 0) pe_int (fun _ _ => rfl)) (pe_ix ix_tup (pv 1) pe_int (fun _ _ => rfl))) pa_nil)))), ?_⟩
    exact ⟨_, rfl, pa, _, _, _, rfl, rfl, SqT.of ha, f0, _, rfl, pb, _, _, _, rfl, rfl, SqT.of hb, f1, _, _, rfl, rfl, c1,
      _, rfl, pa, _, _, _, rfl, rfl, SqT.of ha, f1, _, rfl, pb, _, _, _, rfl, rfl, SqT.of hb, f0, _, _, rfl, rfl, c3, _, _, rfl, ((b1.mul b4).mono (by decide)), ((b2.mul b3).mono (by decide)), hz, q⟩
end
theorem scC : FnScope ["a", "b", "left", "right"] ["a", "b"] (defScope sCompare) := ⟨rfl, rfl, rfl, by decide +kernel, rfl, by decide +kernel, by decide +kernel⟩
def spCompare : Sp := fun vs H Q _ => ∃ (pa pb : Addr) (n m n' m' : Int), vs = [.ref pa, .ref pb] ∧ FrT H pa n m ∧ FrT H pb n' m' ∧ Bg 200 n ∧ Bg 200 m ∧ Bg 200 n' ∧ Bg 200 m' ∧
  Q (.int (if n * m' = n' * m then 0 else if n' * m < n * m' then 1 else -1)) H
theorem ok_compare {f : Addr} {fd : FuncData} (F : Fun K "compare" "compare" sCompare f fd) : FnOk P w K mg base CX0 1 f fd ["a", "b"] spCompare := by
  refine F.ok scC (fun vs H Q E h => ?_) (fun cdv A outer s H vs Q E hr h => ?_)
  · obtain ⟨a, b, _, _, _, _, rfl, _⟩ := h
    rfl
  · obtain ⟨pa, pb, n, m, n', m', rfl, ha, hb, b1, b2, b3, b4, q⟩ := h
    have c1 := b1.cmul b4 (by decide) (by decide) (by decide)
    have c2 := b3.cmul b2 (by decide) (by decide) (by decide)
    refine ⟨_, pss_cons (ps_set (i := 2) scC.nd rfl (.inl rfl) (pe_op op_mulW (pe_ix ix_tup (pv 0) pe_int (fun _ _ => rfl)) (pe_ix ix_tup (pv 1) pe_int (fun _ _ => rfl))))
      (pss_cons (ps_set (i := 3) scC.nd rfl (.inl rfl) (pe_op op_mulW (pe_ix ix_tup (pv 1) pe_int (fun _ _ => rfl)) (pe_ix ix_tup (pv 0) pe_int (fun _ _ => rfl))))
      (pss_cons (ps_if (pt_cmpR op_lt (pv 2) (pv 3) (nomark _)) (pss_one (ps_ret (pe_un un_neg pe_int))) pss_nil)
      (pss_cons (ps_if (pt_cmpR op_gt (pv 2) (pv 3) (nomark _)) (pss_one (ps_ret pe_int)) pss_nil)
      (pss_one (ps_ret pe_int))))), ?_⟩
    refine ⟨_, rfl, pa, _, _, _, rfl, rfl, SqT.of ha, f0, _, rfl, pb, _, _, _, rfl, rfl, SqT.of hb, f1, _, _, rfl, rfl, c1, _, rfl, pb, _, _, _, rfl, rfl, SqT.of hb, f0, _, rfl, pa, _, _, _, rfl, rfl, SqT.of ha, f1, _, _, rfl, rfl, c2,
      _, rfl, _, rfl, _, _, rfl, rfl, _, rfl, ite2 (fun e => ?_) (fun e => ?_)⟩
    · have e' := of_decide_eq_true e
      rw [if_neg (by omega), if_neg (by omega)] at q
      exact ⟨1, rfl, q⟩
    · have e' : ¬ n * m' < n' * m := fun z => e (decide_eq_true z)
      refine ⟨_, rfl, _, rfl, _, _, rfl, rfl, _, rfl, ite2 (fun e2 => ?_) (fun e2 => ?_)⟩
      · have e3 := of_decide_eq_true e2
        rw [if_neg (by omega), if_pos (by omega)] at q
        exact q
      · have e3 : ¬ n' * m < n * m' := fun z => e2 (decide_eq_true z)
        rw [if_pos (by omega)] at q
        exact q
theorem scG : FnScope ["a"] ["a"] (defScope sMag) := ⟨rfl, rfl, rfl, by decide +kernel, rfl, by decide +kernel, by decide +kernel⟩
def spMag : Sp := fun vs H Q _ => ∃ (pa : Addr) (n m : Int), vs = [.ref pa] ∧ FrT H pa n m ∧ ∀ p, H p = none → Q (.ref p) (upd H p (.tup [.int (if n < 0 then -n else n), .int m]))
theorem ok_mag {f : Addr} {fd : FuncData} (F : Fun K "magnitude" "magnitude" sMag f fd) (ma : mg "abs" = none) : FnOk P w K mg base CX0 1 f fd ["a"] spMag := by
  refine F.ok scG (fun vs H Q E h => ?_) (fun cdv A outer s H vs Q E hr h => ?_)
  · obtain ⟨a, _, _, rfl, _⟩ := h
    rfl
  · obtain ⟨pa, n, m, rfl, ha, q⟩ := h
    refine ⟨_, pss_one (ps_ret (pe_tup (pa_cons (pe_callB call_abs (by rfl) ma (by decide +kernel) (pa_cons (pe_ix ix_tup (pv 0) pe_int (fun _ _ => rfl)) pa_nil)) (pa_cons (pe_ix ix_tup (pv 0) pe_int (fun _ _ => rfl)) pa_nil)))), ?_⟩
    exact ⟨_, rfl, pa, _, _, _, rfl, rfl, SqT.of ha, f0, n, rfl, _, rfl, pa, _, _, _, rfl, rfl, SqT.of ha, f1, by show 2 ≤ sizeLine; decide, q⟩
theorem scW : FnScope ["a"] ["a"] (defScope sWhole) := ⟨rfl, rfl, rfl, by decide +kernel, rfl, by decide +kernel, by decide +kernel⟩
def spWhole : Sp := fun vs H Q _ => ∃ (pa : Addr) (n m : Int), vs = [.ref pa] ∧ FrT H pa n m ∧ 1 ≤ m ∧ Bg 200 m ∧ Q (.int (n / m)) H
theorem ok_whole {f : Addr} {fd : FuncData} (F : Fun K "whole" "whole" sWhole f fd) : FnOk P w K mg base CX0 1 f fd ["a"] spWhole := by
  refine F.ok scW (fun vs H Q E h => ?_) (fun cdv A outer s H vs Q E hr h => ?_)
  · obtain ⟨a, _, _, rfl, _⟩ := h
    rfl
  · obtain ⟨pa, n, m, rfl, ha, hm, hb, q⟩ := h
    refine ⟨_, pss_one (ps_ret (pe_op op_fdivW (pe_ix ix_tup (pv 0) pe_int (fun _ _ => rfl)) (pe_ix ix_tup (pv 0) pe_int (fun _ _ => rfl)))), ?_⟩
    exact ⟨_, rfl, pa, _, _, _, rfl, rfl, SqT.of ha, f0, _, rfl, pa, _, _, _, rfl, rfl, SqT.of ha, f1, _, _, rfl, rfl, hb.divW (by omega) (by decide) (by decide), q⟩
theorem scE : FnScope ["a"] ["a"] (defScope sNear) := ⟨rfl, rfl, rfl, by decide +kernel, rfl, by decide +kernel, by decide +kernel⟩
def spNear : Sp := fun vs H Q _ => ∃ (pa : Addr) (n m : Int), vs = [.ref pa] ∧ FrT H pa n m ∧ 1 ≤ m ∧ Bg 200 m ∧ Q (.int ((2 * n + m) / (2 * m))) H
theorem two : Bg 2 2 := by unfold Bg; decide
theorem ok_near {f : Addr} {fd : FuncData} (F : Fun K "nearest" "nearest" sNear f fd) : FnOk P w K mg base CX0 1 f fd ["a"] spNear := by
  refine F.ok scE (fun vs H Q E h => ?_) (fun cdv A outer s H vs Q E hr h => ?_)
  · obtain ⟨a, _, _, rfl, _⟩ := h
    rfl
  · obtain ⟨pa, n, m, rfl, ha, hm, hb, q⟩ := h
    refine ⟨_, pss_one (ps_ret (pe_op op_fdivW (pe_op op_add (pe_op op_mul pe_int (pe_ix ix_tup (pv 0) pe_int (fun _ _ => rfl))) (pe_ix ix_tup (pv 0) pe_int (fun _ _ => rfl))) (pe_op op_mul pe_int (pe_ix ix_tup (pv 0) pe_int (fun _ _ => rfl))))), ?_⟩
    exact ⟨_, rfl, pa, _, _, _, rfl, rfl, SqT.of ha, f0, _, _, rfl, rfl, .inl ⟨by decide, by decide⟩, _, rfl, pa, _, _, _, rfl, rfl, SqT.of ha, f1, _, _, rfl, rfl, _, rfl, pa, _, _, _, rfl, rfl, SqT.of ha, f1, _, _, rfl, rfl, .inl ⟨by decide, by decide⟩,
      _, _, rfl, rfl, (two.mul hb).divW (by omega) (by decide) (by decide), q⟩

/-! ### the law's defs -/
def spInt : Sp := fun vs H Q _ => ∃ (i : Int), vs = [.int i] ∧ Q (.bl true) H
theorem scN : FnScope ["actual"] ["actual"] (defScope sInt) := ⟨rfl, rfl, rfl, by decide +kernel, rfl, by decide +kernel, by decide +kernel⟩
theorem ok_int {f : Addr} {fd : FuncData} (F : Fun K "_law_int" "_law_int" sInt f fd) (mi : mg "isinstance" = none) (mn : mg "int" = none) (mb : mg "bool" = none) : FnOk P w K mg base CX0 1 f fd ["actual"] spInt := by
  refine F.ok scN (fun vs H Q E h => ?_) (fun cdv A outer s H vs Q E hr h => ?_)
  · obtain ⟨i, rfl, _⟩ := h
    rfl
  · obtain ⟨i, rfl, q⟩ := h
    refine ⟨_, pss_one (ps_ret (pe_and (pe_callB call_isi (by rfl) mi (by decide +kernel) (pa_cons (pv 0) (pa_cons (pe_bltn (v := .ty "int") (by rfl) mn (by decide +kernel) rfl) pa_nil)))
      (pe_one (pe_not (pe_callB call_isi (by rfl) mi (by decide +kernel) (pa_cons (pv 0) (pa_cons (pe_bltn (v := .ty "bool") (by rfl) mb (by decide +kernel) rfl) pa_nil))))))), ?_⟩
    refine ⟨_, rfl, _, _, _, _, true, rfl, ClsV.ty "int", TyX.base (TyOf.int i), kit_ty (by decide +kernel), _, rfl, iteT ?_⟩
    exact ⟨_, rfl, _, _, _, _, false, rfl, ClsV.ty "bool", TyX.base (TyOf.int i), kit_ty (by decide +kernel), _, rfl, q⟩
theorem scD : FnScope ["a", "b"] ["a", "b"] (defScope sDiv) := ⟨rfl, rfl, rfl, by decide +kernel, rfl, by decide +kernel, by decide +kernel⟩
def spDiv : Sp := fun vs H Q _ => ∃ a b : Int, vs = [.int a, .int b] ∧ Q (.int (gi a b)) H
theorem ok_div {f : Addr} {fd : FuncData} (F : Fun K "_law_divisor" "_law_divisor" sDiv f fd) (ma : mg "abs" = none) (mn : mg "int" = none) : FnOk P w K mg base CX0 1 f fd ["a", "b"] spDiv := by
  refine F.ok scD (fun vs H Q E h => ?_) (fun cdv A outer s H vs Q E hr h => ?_)
  · obtain ⟨a, b, rfl, _⟩ := h
    rfl
  · obtain ⟨a, b, rfl, q⟩ := h
    refine ⟨_, pss_cons (ps_set (i := 0) scD.nd rfl (.inl rfl) (pe_callB call_abs (by rfl) ma (by decide +kernel) (pa_cons (pv 0) pa_nil)))
      (pss_cons (ps_set (i := 1) scD.nd rfl (.inl rfl) (pe_callB call_abs (by rfl) ma (by decide +kernel) (pa_cons (pv 1) pa_nil)))
      (pss_cons (ps_while PassesOwn.never (pt_cmpR op_gt (pv 1) pe_int (nomark _))
        (pss_one (ps_par (i := 0) (j := 1) (by rfl) scD.nd rfl rfl (by decide) rfl rfl (pa_cons (pv 1) (pa_cons (pe_op op_mod (pe_callTy call_int1 (by rfl) mn (by decide +kernel) (pa_cons (pv 0) pa_nil)) (pv 1)) pa_nil)) (by rfl))))
      (pss_one (ps_ret (pv 0))))), ?_⟩
    refine ⟨_, rfl, a, rfl, _, rfl, b, rfl, ?_⟩
    refine ⟨fun m σ H' => ∃ x y : Int, σ = [some (.int x), some (.int y)] ∧ H' = H ∧ 0 ≤ x ∧ 0 ≤ y ∧ m = y.toNat ∧ gi x y = gi a b, ⟨_, _, _, rfl, rfl, by split <;> omega, by split <;> omega, rfl, gi_abs a b⟩, ?_⟩
    rintro m σ H' ⟨x, y, rfl, rfl, hx, hy, rfl, e⟩
    refine ⟨_, rfl, _, _, rfl, rfl, _, rfl, ite2 (fun g => ?_) (fun g => ?_)⟩
    · have g' : 0 < y := of_decide_eq_true g
      refine ⟨fun σ' H'' => σ' = [some (.int y), some (.int (x % y))] ∧ H'' = H', ?_, ?_⟩
      · rintro σ' H'' ⟨rfl, rfl⟩
        have h1 := Int.emod_lt_of_pos x g'
        have h2 := Int.emod_nonneg x (show y ≠ 0 by omega)
        exact ⟨(x % y).toNat, by omega, y, x % y, rfl, rfl, by omega, h2, rfl, by rw [gi_step hx g', e]⟩
      · exact ⟨_, rfl, _, rfl, .inl ⟨_, rfl, _, rfl, _, _, rfl, rfl, g', _, _, rfl, rfl, rfl⟩⟩
    · have g' : y = 0 := by
        have : ¬ 0 < y := fun z => g (decide_eq_true z)
        omega
      subst g'
      rw [gi_zero hx] at e
      refine ⟨_, rfl, ?_⟩
      rw [e]
      exact q
def spIs : Sp := fun vs H Q _ => ∃ (p : Addr) (n m t b : Int), vs = [.ref p, .int t, .int b] ∧ FrT H p n m ∧ Frc n m t b ∧ Bg 1000 n ∧ Bg 1000 m ∧ Bg 1000 t ∧ Bg 1000 b ∧ Q (.bl true) H
theorem scJ : FnScope ["actual", "top", "bottom"] ["actual", "top", "bottom"] (defScope sIs) := ⟨rfl, rfl, rfl, by decide +kernel, rfl, by decide +kernel, by decide +kernel⟩
structure Txt (mg : Str → Option Value) extends TxtD mg where
  tuple : mg "tuple" = none
  range : mg "range" = none
  isi : mg "isinstance" = none
  bool : mg "bool" = none
theorem ok_is {f fN fD : Addr} {fd fdN fdD : FuncData} (F : Fun K "_law_is" "_law_is" sIs f fd) (T : Txt mg)
    (GN : FnOk P w K mg base CX0 1 fN fdN ["actual"] spInt) (kN : PySem.W.keepIn K (.ref fN) = true) (bN : Binds K fdN ["actual"] []) (gN : mg "_law_int" = some (.ref fN))
    (GD : FnOk P w K mg base CX0 1 fD fdD ["a", "b"] spDiv) (kD : PySem.W.keepIn K (.ref fD) = true) (bD : Binds K fdD ["a", "b"] []) (gD : mg "_law_divisor" = some (.ref fD)) :
    FnOk P w K mg base CX0 2 f fd ["actual", "top", "bottom"] spIs := by
  refine F.ok scJ (fun vs H Q E h => ?_) (fun cdv A outer s H vs Q E hr h => ?_)
  · obtain ⟨p, n, m, t, b, rfl, _⟩ := h
    rfl
  · obtain ⟨p, n, m, t, b, rfl, hp, hf, b1, b2, b3, b4, q⟩ := h
    refine ⟨_, pss_cons (ps_if (PW.pt (pw_or (pt_not (pt_val (pe_callB call_isi (by rfl) T.isi (by decide +kernel) (pa_cons (pv 0) (pa_cons (pe_bltn (v := .ty "tuple") (by rfl) T.tuple (by decide +kernel) rfl) pa_nil)))))
          (pw_or1 (pt_cmpR op_ne (pe_callB call_len_seq (by rfl) T.len PySem.boot_len (pa_cons (pv 0) pa_nil)) pe_int (nomark _))))) (pss_one (ps_ret pe_bl)) pss_nil)
      (pss_cons (ps_if (PW.pt (pw_or (pt_not (pt_val (pe_call GN hr (by rfl) gN kN bN .nil pass0 (pa_cons (pe_ix ix_tup (pv 0) pe_int (fun _ _ => rfl)) pa_nil))))
          (pw_or (pt_not (pt_val (pe_call GN hr (by rfl) gN kN bN .nil pass0 (pa_cons (pe_ix ix_tup (pv 0) pe_int (fun _ _ => rfl)) pa_nil))))
          (pw_or1 (pt_cmpR op_lt (pe_ix ix_tup (pv 0) pe_int (fun _ _ => rfl)) pe_int (nomark _)))))) (pss_one (ps_ret pe_bl)) pss_nil)
      (pss_one (ps_ret (pe_and (pe_cmpR op_eq (pe_op op_mulW (pe_ix ix_tup (pv 0) pe_int (fun _ _ => rfl)) (pv 2)) (pe_op op_mulW (pv 1) (pe_ix ix_tup (pv 0) pe_int (fun _ _ => rfl))) (nomark _))
        (pe_one (pe_cmpR op_eq (pe_call GD hr (by rfl) gD kD bD .nil pass0 (pa_cons (pe_ix ix_tup (pv 0) pe_int (fun _ _ => rfl)) (pa_cons (pe_ix ix_tup (pv 0) pe_int (fun _ _ => rfl)) pa_nil))) pe_int (nomark _))))))), ?_⟩
    refine ⟨_, rfl, _, _, _, _, true, rfl, ClsV.ty "tuple", TyX.base (TyOf.tup hp), kit_ty (by decide +kernel), _, rfl, iteF ?_⟩
    refine ⟨_, rfl, p, _, rfl, .inr (SqT.of hp), rfl, _, rfl, iteF ?_⟩
    refine ⟨_, rfl, p, _, _, _, rfl, rfl, SqT.of hp, f0, _, rfl, _, rfl, iteF ?_⟩
    refine ⟨_, rfl, p, _, _, _, rfl, rfl, SqT.of hp, f1, _, rfl, _, rfl, iteF ?_⟩
    refine ⟨_, rfl, p, _, _, _, rfl, rfl, SqT.of hp, f1, _, _, rfl, rfl, _, rfl, ?_⟩
    have hm := hf.pos
    rw [decide_eq_false (show ¬ m < 1 by omega)]
    refine iteF ⟨_, rfl, p, _, _, _, rfl, rfl, SqT.of hp, f0, _, rfl, _, _, rfl, rfl, b1.cmul b4 (by decide) (by decide) (by decide), _, rfl, _, rfl, p, _, _, _, rfl, rfl, SqT.of hp, f1, _, _, rfl, rfl, b3.cmul b2 (by decide) (by decide) (by decide), rfl, _, rfl, ?_⟩
    rw [decide_eq_true (show V.int (n * b) = V.int (t * m) by rw [hf.eq])]
    refine iteT ⟨_, rfl, p, _, _, _, rfl, rfl, SqT.of hp, f0, _, rfl, p, _, _, _, rfl, rfl, SqT.of hp, f1, n, m, rfl, rfl, ?_⟩
    show Q (.bl (decide (V.int (gi n m) = V.int 1))) H
    rw [decide_eq_true (show V.int (gi n m) = V.int 1 by rw [hf.low])]
    exact q
def spNumber : Sp := fun vs H Q _ => ∃ (d c : Addr) (m : Int), vs = [.ref d, .int m] ∧ DrAt H d c ∧ 0 ≤ m ∧ m ≤ 1000 ∧ ∀ H' v, But d H H' → DrAt H' d c → Bg 200 v → Q (.int v) H'
theorem scK : FnScope ["d", "most", "n"] ["d", "most"] (defScope sNumber) := ⟨rfl, rfl, rfl, by decide +kernel, rfl, by decide +kernel, by decide +kernel⟩
theorem bnd4 : Bnd 4 := by unfold Bnd; decide +kernel
theorem bnd_small {m : Int} (h : m ≤ 2001) : Bnd m := by
  unfold Bnd
  have : (2001 : Int) < 2 ^ 400 := by decide +kernel
  omega
theorem ten40 : ((10 : Int) ^ (40 : Int).toNat) = 10000000000000000000000000000000000000000 := by decide +kernel
theorem bnd40 : Bnd (2 * ((10 : Int) ^ (40 : Int).toNat) + 1) := by unfold Bnd; decide +kernel
theorem bg200 {v : Int} (h0 : -(10 ^ 44) ≤ v) (h1 : v ≤ 10 ^ 44) : Bg 200 v := by
  unfold Bg
  have : (10 ^ 44 : Nat) < 2 ^ 200 := by decide +kernel
  have e : (10 ^ 44 : Int) = ((10 ^ 44 : Nat) : Int) := by decide +kernel
  rw [e] at h0 h1
  generalize (10 ^ 44 : Nat) = B at *
  generalize (2 ^ 200 : Nat) = B2 at *
  omega
theorem ok_number {f fT fS : Addr} {fd fdT fdS : FuncData} (F : Fun K "_law_number" "_law_number" sNumber f fd)
    (GT : FnOk P w K mg base CX0 1 fT fdT ["d", "many"] spTake) (kT : PySem.W.keepIn K (.ref fT) = true) (bT : Binds K fdT ["d", "many"] []) (gT : mg "_law_take" = some (.ref fT))
    (GS : FnOk P w K mg base CX0 2 fS fdS ["d", "most"] spSigned) (kS : PySem.W.keepIn K (.ref fS) = true) (bS : Binds K fdS ["d", "most"] []) (gS : mg "_law_signed" = some (.ref fS)) :
    FnOk P w K mg base CX0 3 f fd ["d", "most"] spNumber := by
  refine F.ok scK (fun vs H Q E h => ?_) (fun cdv A outer s H vs Q E hr h => ?_)
  · obtain ⟨d, c, m, rfl, _⟩ := h
    rfl
  · obtain ⟨d, c, m, rfl, dr, h0, h1, q⟩ := h
    have hr1 : Room 1 _ := hr.mono (by decide)
    refine ⟨_, pss_cons (ps_set (i := 2) scK.nd rfl (.inl rfl) (pe_call GS hr (by rfl) gS kS bS .nil pass0 (pa_cons (pv 0) (pa_cons (pv 1) pa_nil))))
      (pss_cons (ps_if (pt_cmpR op_eq (pe_call GT hr1 (by rfl) gT kT bT .nil pass0 (pa_cons (pv 0) (pa_cons pe_int pa_nil))) pe_int (nomark _))
        (pss_one (ps_set (i := 2) scK.nd rfl (.inl rfl) (pe_op op_add (pe_op op_mul (pv 2) (pe_op op_pow pe_int pe_int)) (pe_call GS hr (by rfl) gS kS bS .nil pass0 (pa_cons (pv 0) (pa_cons (pe_op op_pow pe_int pe_int) pa_nil)))))) pss_nil)
      (pss_one (ps_ret (pv 2)))), ?_⟩
    refine ⟨_, rfl, _, rfl, d, c, m, rfl, dr, h0, bnd_small (by omega), fun H1 v k1 dr1 v0 v1 => ?_⟩
    refine ⟨_, rfl, d, c, 4, rfl, dr1, by decide, bnd4, fun H2 u k2 dr2 u0 u1 => ⟨rfl, _, rfl, ite2 (fun e => ?_) (fun e => ?_)⟩⟩
    · refine ⟨_, rfl, _, _, rfl, rfl, ⟨by decide, by decide, by decide⟩, _, _, rfl, rfl, .inl ⟨by omega, by omega⟩, ?_⟩
      refine ⟨_, rfl, _, _, rfl, rfl, ⟨by decide, by decide, by decide⟩, d, c, _, rfl, dr2, by rw [ten40]; decide, bnd40, fun H3 z k3 dr3 z0 z1 => ?_⟩
      refine ⟨_, _, rfl, rfl, _, rfl, q _ _ ((k1.trans k2).trans k3) dr3 ?_⟩
      show Bg 200 (v * ((10 : Int) ^ (40 : Int).toNat) + z)
      rw [ten40] at z0 z1 ⊢
      exact bg200 (by omega) (by omega)
    · exact ⟨_, rfl, q _ _ (k1.trans k2) dr2 (bg200 (by omega) (by omega))⟩

structure TxtE (K : PySem.W.Frag) (mg : Str → Option Value) (Z TE TX : Addr) extends Txt mg where
  r : ErrR K mg "ZeroDenominator" Z
  nZ : ErrN K mg "ZeroDenominator" Z
  nT : ErrN K mg "TensorError" TE
  gX : mg "TextError" = some (.ref TX)
  ve : mg "ValueError" = none
  sZT : PySem.W.subIn K (.ref Z) (.ref TE) = some true
  sZZ : PySem.W.subIn K (.ref Z) (.ref Z) = some true
  c : ExcC K Z
  kZZ : PySem.W.kitOne K (.ref Z) (.ref Z) = some true
  kZV : PySem.W.kitOne K (.ref Z) (.type "ValueError") = some true
  kZX : PySem.W.kitOne K (.ref Z) (.ref TX) = some false
theorem scR : FnScope ["a", "found", "e"] ["a"] (defScope sRefused) := ⟨rfl, rfl, rfl, by decide +kernel, rfl, by decide +kernel, by decide +kernel⟩
def spRefused : Sp := fun vs H Q _ => ∃ a : Int, vs = [.int a] ∧ Bg 1000 a ∧ Q (.bl true) H
def tSuite (K : PySem.W.Frag) (Z TX : Addr) (a : Addr) : TS := tRet (tAndV (tCB (rIsE K Z a) (tCons (tVar 2) (tCons (tC (.ref Z)) tNil)))
  (tAndV (tCB (rIsE K Z a) (tCons (tVar 2) (tCons (tC (.ty "ValueError")) tNil))) (tNotV (tCB (rIsE K Z a) (tCons (tVar 2) (tCons (tC (.ref TX)) tNil))))))
theorem ok_refused {f fF Z TE TX : Addr} {fd fdF : FuncData} (F : Fun K "_law_refused" "_law_refused" sRefused f fd) (T : TxtE K mg Z TE TX)
    (GF : FnOk P w K mg base (L2.CX P w) 1 fF fdF ["numerator", "denominator"] (spFrac Z)) (kF : PySem.W.keepIn K (.ref fF) = true) (bF : Binds K fdF ["numerator", "denominator"] []) (gF : mg "fraction" = some (.ref fF)) :
    FnOk P w K mg base CX0 2 f fd ["a"] spRefused := by
  refine F.ok scR (fun vs H Q E h => ?_) (fun cdv A outer s H vs Q E hr h => ?_)
  · obtain ⟨a, rfl, _⟩ := h
    rfl
  · obtain ⟨a, rfl, ha, q⟩ := h
    refine ⟨_, pss_cons (ps_try_as (i := 2) (tb := fun W => tAsg (tCallS (spFrac Z) (WE W) (tCons (tVar 0) (tCons (tC (.int 0)) tNil))) (gName 1)) (ts := fun a cls d => fun D σ H => (cls = .ref Z ∧ d = none) ∧ tSuite K Z TX a D σ H) (Wout := fun _ _ _ _ => False) rfl rfl scR.nd rfl rfl ⟨rfl, by decide, Or.inl T.nT.g⟩ takes0
        (fun W pn xe tk _ => pss_one (ps_set (i := 1) scR.nd rfl (.inl rfl) (by exact (pe_callS GF hr (by rfl) gF kF bF (fun σ => passAt tk σ) (by exact (pa_cons (pv 0) (pa_cons pe_int pa_nil)))))))
        (fun a oe cls d pn hz hf => pss_if fun hh => by
          obtain ⟨rfl, rfl⟩ := hh
          exact pss_one (ps_ret (pe_and (pe_callB (call_isE T.c hz hf) (by rfl) T.isi (by decide +kernel) (pa_cons (pv 2) (pa_cons (pe_glob (by rfl) T.r.g rfl) pa_nil)))
            (pe_and (pe_callB (call_isE T.c hz hf) (by rfl) T.isi (by decide +kernel) (pa_cons (pv 2) (pa_cons (pe_bltn (v := .ty "ValueError") (by rfl) T.ve (by decide +kernel) rfl) pa_nil)))
            (pe_one (pe_not (pe_callB (call_isE T.c hz hf) (by rfl) T.isi (by decide +kernel) (pa_cons (pv 2) (pa_cons (pe_glob (by rfl) T.gX rfl) pa_nil))))))))))
      (pss_one (ps_ret pe_bl)), ?_⟩
    refine ⟨_, rfl, a, 0, rfl, ha, by unfold Bg; decide, fun _ => ?_, fun z => absurd rfl z⟩
    refine ⟨true, T.nT.ex T.sZT, fun _ ax hax => ?_, fun z => nomatch z⟩
    refine ⟨⟨rfl, rfl⟩, ?_⟩
    refine ⟨_, rfl, _, _, true, rfl, fun _ h => h, T.kZZ, _, rfl, iteT ?_⟩
    refine ⟨_, rfl, _, _, true, rfl, fun _ h => h, T.kZV, _, rfl, iteT ?_⟩
    exact ⟨_, rfl, _, _, false, rfl, fun _ h => h, T.kZX, _, rfl, q⟩
theorem scQ : FnScope ["a", "b", "found"] ["a", "b"] (defScope sOverIs) := ⟨rfl, rfl, rfl, by decide +kernel, rfl, by decide +kernel, by decide +kernel⟩
def spOverIs : Sp := fun vs H Q _ => ∃ (pa pb : Addr) (n m n' m' : Int), vs = [.ref pa, .ref pb] ∧ FrT H pa n m ∧ FrT H pb n' m' ∧ Bg 200 n ∧ Bg 200 m ∧ Bg 200 n' ∧ Bg 200 m' ∧ 1 ≤ m ∧ ∀ H', Same H H' → Q (.bl true) H'
theorem ok_overis {f fO fI Z TE TX : Addr} {fd fdO fdI : FuncData} (F : Fun K "_law_over_is" "_law_over_is" sOverIs f fd) (T : TxtE K mg Z TE TX)
    (GO : FnOk P w K mg base (L2.CX P w) 2 fO fdO ["a", "b"] (spOver Z)) (kO : PySem.W.keepIn K (.ref fO) = true) (bO : Binds K fdO ["a", "b"] []) (gO : mg "over" = some (.ref fO))
    (GI : FnOk P w K mg base CX0 2 fI fdI ["actual", "top", "bottom"] spIs) (kI : PySem.W.keepIn K (.ref fI) = true) (bI : Binds K fdI ["actual", "top", "bottom"] []) (gI : mg "_law_is" = some (.ref fI)) :
    FnOk P w K mg base CX0 3 f fd ["a", "b"] spOverIs := by
  refine F.ok scQ (fun vs H Q E h => ?_) (fun cdv A outer s H vs Q E hr h => ?_)
  · obtain ⟨pa, pb, _, _, _, _, rfl, _⟩ := h
    rfl
  · obtain ⟨pa, pb, n, m, n', m', rfl, ha, hb, b1, b2, b3, b4, hm, q⟩ := h
    have c1 := b1.cmul b4 (by decide) (by decide) (by decide)
    have c3 := b2.cmul b3 (by decide) (by decide) (by decide)
    refine ⟨_, pss_cons (ps_if (pt_cmpR op_ne (pe_ix ix_tup (pv 1) pe_int (fun _ _ => rfl)) pe_int (nomark _))
        (pss_one (ps_ret (pe_call GI hr (by rfl) gI kI bI .nil pass0 (pa_cons (pe_call GO hr (by rfl) gO kO bO .nil passL (pa_cons (pv 0) (pa_cons (pv 1) pa_nil)))
          (pa_cons (pe_op op_mulW (pe_ix ix_tup (pv 0) pe_int (fun _ _ => rfl)) (pe_ix ix_tup (pv 1) pe_int (fun _ _ => rfl))) (pa_cons (pe_op op_mulW (pe_ix ix_tup (pv 0) pe_int (fun _ _ => rfl)) (pe_ix ix_tup (pv 1) pe_int (fun _ _ => rfl))) pa_nil)))))) pss_nil)
      (pss_cons (ps_try_only (tb := fun W => tAsg (tCallS (spOver Z) (WE W) (tCons (tVar 0) (tCons (tVar 1) tNil))) (gName 2)) (ts := fun _ _ _ => tRet (tC (.bl true))) (Wout := fun _ _ _ _ => False) rfl rfl ⟨rfl, by decide, Or.inl T.nZ.g⟩ takes0
        (fun W pn xe tk _ => pss_one (ps_set (i := 2) scQ.nd rfl (.inl rfl) (by exact (pe_callS GO hr (by rfl) gO kO bO (fun σ => passAt tk σ) (by exact (pa_cons (pv 0) (pa_cons (pv 1) pa_nil)))))))
        (fun a oe cls d pn hz hf => pss_one (ps_ret pe_bl)))
      (pss_one (ps_ret pe_bl))), ?_⟩
    refine ⟨_, rfl, pb, _, _, _, rfl, rfl, SqT.of hb, f0, rfl, _, rfl, ite2 (fun e => ?_) (fun e => ?_)⟩
    · have hn' : n' ≠ 0 := fun z => by
        subst z
        exact absurd e (by decide)
      have h0 : m * n' ≠ 0 := Int.mul_ne_zero (by omega) hn'
      have hF := frc (a := n * m') h0
      have d0 := dv_ne (a := n * m') h0
      have x1 := fdiv_bg (b1.mul b4) (dv_l (n * m') (m * n')) d0
      have x2 := fdiv_bg (b2.mul b3) (dv_r (n * m') (m * n')) d0
      refine ⟨_, rfl, _, rfl, pa, pb, n, m, n', m', rfl, ha, hb, b1, b2, b3, b4, fun z => absurd z h0, fun _ p np => ?_⟩
      have s1 := new_tup (o := .tup [.int ((n * m').fdiv (dv (n * m') (m * n'))), .int ((m * n').fdiv (dv (n * m') (m * n')))]) np
      refine ⟨_, rfl, pa, _, _, _, rfl, rfl, SqT.of (s1 _ _ ha), f0, _, rfl, pb, _, _, _, rfl, rfl, SqT.of (s1 _ _ hb), f1, _, _, rfl, rfl, c1, _, rfl, pa, _, _, _, rfl, rfl, SqT.of (s1 _ _ ha), f1, _, rfl, pb, _, _, _, rfl, rfl, SqT.of (s1 _ _ hb), f0, _, _, rfl, rfl, c3, ?_⟩
      exact ⟨p, _, _, _, _, rfl, upd_same, hF, x1.mono (by decide), x2.mono (by decide), (b1.mul b4).mono (by decide), (b2.mul b3).mono (by decide), q _ s1⟩
    · have hn' : n' = 0 := by
        by_cases z : n' = 0
        · exact z
        · exact absurd (show (!decide (V.int n' = V.int 0)) = true by rw [decide_eq_false (fun y => z (V.int.inj y))]; rfl) e
      subst hn'
      refine ⟨_, rfl, _, rfl, pa, pb, n, m, 0, m', rfl, ha, hb, b1, b2, b3, b4, fun _ => ?_, fun z => absurd (Int.mul_zero m) z⟩
      exact ⟨true, T.nZ.ex T.sZZ, fun _ ax hax => q _ (Same.refl H), fun z => nomatch z⟩
theorem scU : FnScope ["a", "floor", "near"] ["a"] (defScope sRounded) := ⟨rfl, rfl, rfl, by decide +kernel, rfl, by decide +kernel, by decide +kernel⟩
def spRounded : Sp := fun vs H Q _ => ∃ (pa : Addr) (n m : Int), vs = [.ref pa] ∧ FrT H pa n m ∧ 1 ≤ m ∧ Bg 200 n ∧ Bg 200 m ∧ Q (.bl true) H
theorem div_fits {n m : Int} (h : 1 ≤ m) : n / m * m ≤ n ∧ n < (n / m + 1) * m := by
  have e := Int.emod_add_mul_ediv n m
  have h0 := Int.emod_nonneg n (show m ≠ 0 by omega)
  have h1 := Int.emod_lt_of_pos n (show 0 < m by omega)
  rw [Int.mul_comm m (n / m)] at e
  rw [Int.add_mul, Int.one_mul]
  omega
theorem near_fits {n m : Int} (h : 1 ≤ m) : (2 * ((2 * n + m) / (2 * m)) - 1) * m ≤ 2 * n ∧ 2 * n < (2 * ((2 * n + m) / (2 * m)) + 1) * m := by
  have e := div_fits (n := 2 * n + m) (m := 2 * m) (by omega)
  generalize (2 * n + m) / (2 * m) = z at *
  rw [Int.add_mul, Int.one_mul, ← Int.mul_assoc, Int.mul_comm z 2] at e
  rw [Int.sub_mul, Int.one_mul, Int.add_mul, Int.one_mul]
  omega
theorem div_bg {n m : Int} {k : Nat} (h : Bg k n) (hm : 1 ≤ m) : Bg (k + 1) (n / m) := by
  have := Int.natAbs_ediv_le_natAbs n m
  unfold Bg at *
  rw [Nat.pow_succ]
  omega
theorem ok_rounded {f fW fE fN : Addr} {fd fdW fdE fdN : FuncData} (F : Fun K "_law_rounded" "_law_rounded" sRounded f fd)
    (GW : FnOk P w K mg base CX0 1 fW fdW ["a"] spWhole) (kW : PySem.W.keepIn K (.ref fW) = true) (bW : Binds K fdW ["a"] []) (gW : mg "whole" = some (.ref fW))
    (GE : FnOk P w K mg base CX0 1 fE fdE ["a"] spNear) (kE : PySem.W.keepIn K (.ref fE) = true) (bE : Binds K fdE ["a"] []) (gE : mg "nearest" = some (.ref fE))
    (GN : FnOk P w K mg base CX0 1 fN fdN ["actual"] spInt) (kN : PySem.W.keepIn K (.ref fN) = true) (bN : Binds K fdN ["actual"] []) (gN : mg "_law_int" = some (.ref fN)) :
    FnOk P w K mg base CX0 2 f fd ["a"] spRounded := by
  refine F.ok scU (fun vs H Q E h => ?_) (fun cdv A outer s H vs Q E hr h => ?_)
  · obtain ⟨pa, _, _, rfl, _⟩ := h
    rfl
  · obtain ⟨pa, n, m, rfl, ha, hm, b1, b2, q⟩ := h
    refine ⟨_, pss_cons (ps_set (i := 1) scU.nd rfl (.inl rfl) (pe_call GW hr (by rfl) gW kW bW .nil pass0 (pa_cons (pv 0) pa_nil)))
      (pss_cons (ps_set (i := 2) scU.nd rfl (.inl rfl) (pe_call GE hr (by rfl) gE kE bE .nil pass0 (pa_cons (pv 0) pa_nil)))
      (pss_cons (ps_if (PW.pt (pw_or (pt_not (pt_val (pe_call GN hr (by rfl) gN kN bN .nil pass0 (pa_cons (pv 1) pa_nil)))) (pw_or1 (pt_not (pt_val (pe_call GN hr (by rfl) gN kN bN .nil pass0 (pa_cons (pv 2) pa_nil))))))) (pss_one (ps_ret pe_bl)) pss_nil)
      (pss_cons (ps_if (pt_not (pt_chain op_le op_lt (pe_op op_mulW (pv 1) (pe_ix ix_tup (pv 0) pe_int (fun _ _ => rfl))) (pe_ix ix_tup (pv 0) pe_int (fun _ _ => rfl)) (pe_op op_mulW (pe_op op_add (pv 1) pe_int) (pe_ix ix_tup (pv 0) pe_int (fun _ _ => rfl))))) (pss_one (ps_ret pe_bl)) pss_nil)
      (pss_one (ps_ret (pe_chain op_le op_lt (pe_op op_mulW (pe_op op_sub (pe_op op_mul pe_int (pv 2)) pe_int) (pe_ix ix_tup (pv 0) pe_int (fun _ _ => rfl))) (pe_op op_mul pe_int (pe_ix ix_tup (pv 0) pe_int (fun _ _ => rfl)))
        (pe_op op_mulW (pe_op op_add (pe_op op_mul pe_int (pv 2)) pe_int) (pe_ix ix_tup (pv 0) pe_int (fun _ _ => rfl))))))))), ?_⟩
    have d1 := div_fits (n := n) hm
    have d2 := near_fits (n := n) hm
    have bf := div_bg b1 hm
    have bn : Bg 500 ((2 * n + m) / (2 * m)) := (div_bg (((two.mul b1).add (b2.mono (by decide : 200 ≤ 2 + 200)))) (show 1 ≤ 2 * m by omega)).mono (by decide)
    refine ⟨_, rfl, pa, n, m, rfl, ha, hm, b2, ?_⟩
    refine ⟨_, rfl, pa, n, m, rfl, ha, hm, b2, ?_⟩
    generalize n / m = z at *
    generalize (2 * n + m) / (2 * m) = y at *
    refine ⟨_, rfl, _, rfl, _, rfl, iteF ⟨_, rfl, _, rfl, _, rfl, iteF ?_⟩⟩
    have c1 : CMulW z m := bf.cmul b2 (by decide) (by decide) (by decide)
    have c2 : CMulW (z + 1) m := (bf.add (show Bg (200 + 1) 1 by unfold Bg; decide +kernel)).cmul b2 (by decide) (by decide) (by decide)
    have k1 : Bg 503 (2 * y - 1) := ((two.mul bn).sub (show Bg (2 + 500) 1 by unfold Bg; decide +kernel))
    have k2 : Bg 503 (2 * y + 1) := ((two.mul bn).add (show Bg (2 + 500) 1 by unfold Bg; decide +kernel))
    refine ⟨_, rfl, _, rfl, pa, _, _, _, rfl, rfl, SqT.of ha, f1, _, _, rfl, rfl, c1, _, rfl, pa, _, _, _, rfl, rfl, SqT.of ha, f0, _, _, rfl, rfl, _, rfl, ?_⟩
    rw [decide_eq_true d1.1]
    refine iteT ⟨_, rfl, _, _, rfl, rfl, _, rfl, pa, _, _, _, rfl, rfl, SqT.of ha, f1, _, _, rfl, rfl, c2, _, _, rfl, rfl, _, rfl, ?_⟩
    rw [decide_eq_true d1.2]
    refine iteF ?_
    refine ⟨_, rfl, _, _, rfl, rfl, .inl ⟨by decide, by decide⟩, _, _, rfl, rfl, _, rfl, pa, _, _, _, rfl, rfl, SqT.of ha, f1, _, _, rfl, rfl, k1.cmul b2 (by decide) (by decide) (by decide),
      _, rfl, pa, _, _, _, rfl, rfl, SqT.of ha, f0, _, _, rfl, rfl, .inl ⟨by decide, by decide⟩, _, _, rfl, rfl, _, rfl, ?_⟩
    rw [decide_eq_true d2.1]
    refine iteT ⟨_, rfl, _, _, rfl, rfl, .inl ⟨by decide, by decide⟩, _, _, rfl, rfl, _, rfl, pa, _, _, _, rfl, rfl, SqT.of ha, f1, _, _, rfl, rfl, k2.cmul b2 (by decide) (by decide) (by decide), _, _, rfl, rfl, ?_⟩
    show Q (.bl (decide (2 * n < (2 * y + 1) * m))) H
    rw [decide_eq_true d2.2]
    exact q

/-! ### the law -/
def spLaw (K : PySem.W.Frag) : Sp := fun vs H Q _ => ∃ (a : Addr) (ns : List Int), vs = [.ref a] ∧ SqL K H a (ns.map V.int) ∧ ns.length ≤ 63 ∧ ∀ H', Q (.bl true) H'
theorem scL : FnScope ["script", "d", "tops", "bottoms", "made", "k", "bottom", "found", "a", "b", "left", "right", "due", "actual"] ["script"] (defScope sLaw) := ⟨rfl, rfl, rfl, by decide +kernel, rfl, by decide +kernel, by decide +kernel⟩
/-- what the law calls, each proved -/
structure Calls (P : Program) (w : World) (K : PySem.W.Frag) (mg : Str → Option Value) (base : Heap) (CX : CXT) (k : Nat) (name : Str) (ps : List Str) (sp : Sp) : Prop where
  ex : ∃ (f : Addr) (fd : FuncData), FnOk P w K mg base CX k f fd ps sp ∧ PySem.W.keepIn K (.ref f) = true ∧ Binds K fd ps [] ∧ mg name = some (.ref f)
theorem l0 {a b : V} : atI [a, b] (0 : Int) = some a := rfl
theorem l1 {a b : V} : atI [a, b] (1 : Int) = some b := rfl
/-- a made fraction -/
def Good (H : Hp) (x : V) : Prop := ∃ (p : Addr) (n m : Int), x = .ref p ∧ FrT H p n m ∧ 1 ≤ m ∧ Bg 200 n ∧ Bg 200 m ∧ gi n m = 1
theorem Good.same {H H' : Hp} {x : V} (g : Good H x) (s : ∀ b xs, H b = some (.tup xs) → H' b = some (.tup xs)) : Good H' x := by
  obtain ⟨p, n, m, e, h, r⟩ := g
  exact ⟨p, n, m, e, s _ _ h, r⟩
theorem ok_law {f : Addr} {fd : FuncData} {Z TE TX : Addr} (F : Fun K "law" "law" sLaw f fd) (T : TxtE K mg Z TE TX)
    (cB : Calls P w K mg base CX0 1 "_law_begin" ["script"] (spBegin K)) (cK : Calls P w K mg base CX0 3 "_law_number" ["d", "most"] spNumber) (cR : Calls P w K mg base CX0 2 "_law_refused" ["a"] spRefused)
    (cF : Calls P w K mg base (L2.CX P w) 1 "fraction" ["numerator", "denominator"] (spFrac Z)) (cI : Calls P w K mg base CX0 2 "_law_is" ["actual", "top", "bottom"] spIs)
    (cP : Calls P w K mg base CX0 2 "plus" ["a", "b"] (spOp (fun n m n' m' => n * m' + n' * m) (fun n m n' m' => m * m'))) (cM : Calls P w K mg base CX0 2 "minus" ["a", "b"] (spOp (fun n m n' m' => n * m' - n' * m) (fun n m n' m' => m * m')))
    (cX : Calls P w K mg base CX0 2 "times" ["a", "b"] (spOp (fun n m n' m' => n * n') (fun n m n' m' => m * m'))) (cO : Calls P w K mg base CX0 3 "_law_over_is" ["a", "b"] spOverIs)
    (cC : Calls P w K mg base CX0 1 "compare" ["a", "b"] spCompare) (cN : Calls P w K mg base CX0 1 "_law_int" ["actual"] spInt) (cG : Calls P w K mg base CX0 1 "magnitude" ["a"] spMag) (cU : Calls P w K mg base CX0 2 "_law_rounded" ["a"] spRounded) :
    FnOk P w K mg base CX0 4 f fd ["script"] (spLaw K) := by
  obtain ⟨fB, dB, GB, kB, bB, gB⟩ := cB.ex
  obtain ⟨fK, dK, GK, kK, bK, gK⟩ := cK.ex
  obtain ⟨fR, dR, GR, kR, bR, gR⟩ := cR.ex
  obtain ⟨fF, dF, GF, kF, bF, gF⟩ := cF.ex
  obtain ⟨fI, dI, GI, kI, bI, gI⟩ := cI.ex
  obtain ⟨fP, dP, GP, kP, bP, gP⟩ := cP.ex
  obtain ⟨fM, dM, GM, kM, bM, gM⟩ := cM.ex
  obtain ⟨fX, dX, GX, kX, bX, gX⟩ := cX.ex
  obtain ⟨fO, dO, GO, kO, bO, gO⟩ := cO.ex
  obtain ⟨fC, dC, GC, kC, bC, gC⟩ := cC.ex
  obtain ⟨fN, dN, GN, kN, bN, gN⟩ := cN.ex
  obtain ⟨fG, dG, GG, kG, bG, gG⟩ := cG.ex
  obtain ⟨fU, dU, GU, kU, bU, gU⟩ := cU.ex
  clear cB cK cR cF cI cP cM cX cO cC cN cG cU
  refine F.ok scL (fun vs H Q E h => ?_) (fun cdv A outer s H vs Q E hr h => ?_)
  · obtain ⟨a, ns, rfl, _⟩ := h
    rfl
  · obtain ⟨a, ns, rfl, hS, hlen, q⟩ := h
    have hr1 : Room 1 _ := hr.mono (by decide)
    have hr2 : Room 2 _ := hr.mono (by decide)
    refine ⟨_, pss_cons (ps_set (i := 1) scL.nd rfl (.inl rfl) (pe_call GB hr1 (by rfl) gB kB bB .nil pass0 (pa_cons (pv 0) pa_nil)))
      (pss_cons (ps_set (i := 2) scL.nd rfl (.inl rfl) (pe_lst (pa_cons (pe_call GK hr (by rfl) gK kK bK .nil pass0 (pa_cons (pv 1) (pa_cons pe_int pa_nil))) (pa_cons (pe_call GK hr (by rfl) gK kK bK .nil pass0 (pa_cons (pv 1) (pa_cons pe_int pa_nil))) pa_nil))))
      (pss_cons (ps_set (i := 3) scL.nd rfl (.inl rfl) (pe_lst (pa_cons (pe_call GK hr (by rfl) gK kK bK .nil pass0 (pa_cons (pv 1) (pa_cons pe_int pa_nil))) (pa_cons (pe_call GK hr (by rfl) gK kK bK .nil pass0 (pa_cons (pv 1) (pa_cons pe_int pa_nil))) pa_nil))))
      (pss_cons (ps_if (PW.pt (pw_or (pt_not (pt_val (pe_call GR hr2 (by rfl) gR kR bR .nil pass0 (pa_cons (pe_ix ix_list (pv 2) pe_int (fun _ _ => rfl)) pa_nil)))) (pw_or1 (pt_not (pt_val (pe_call GR hr2 (by rfl) gR kR bR .nil pass0 (pa_cons pe_int pa_nil))))))) (pss_one (ps_ret pe_bl)) pss_nil)
      (pss_cons (ps_set (i := 4) scL.nd rfl (.inl rfl) (pe_lst pa_nil))
      (pss_cons (ps_for PassesOwn.never rfl (pi_range1 rfl T.range (pa_cons pe_int pa_nil)) (pg_name (i := 5) scL.nd rfl (.inl rfl))
        (Evl.pss_cut (ps_set (i := 6) scL.nd rfl (.inl rfl) (pe_ifExp (pt_cmpR op_ne (pe_ix ix_list (pv 3) (pv 5) (fun _ _ => rfl)) pe_int (nomark _)) (pe_ix ix_list (pv 3) (pv 5) (fun _ _ => rfl)) pe_int))
        (pss_cons (ps_set (i := 7) scL.nd rfl (.inl rfl) (pe_call GF hr1 (by rfl) gF kF bF .nil passL (pa_cons (pe_ix ix_list (pv 2) (pv 5) (fun _ _ => rfl)) (pa_cons (pv 6) pa_nil))))
        (pss_cons (ps_if (pt_not (pt_val (pe_call GI hr2 (by rfl) gI kI bI .nil pass0 (pa_cons (pv 7) (pa_cons (pe_ix ix_list (pv 2) (pv 5) (fun _ _ => rfl)) (pa_cons (pv 6) pa_nil)))))) (pss_one (ps_ret pe_bl)) pss_nil)
        (pss_one (ps_expr (pe_bm PySem.F.plainAttrs_list PySem.F.slot_list_append PySem.F.type_list_append mt_append (pv 4) (pa_cons (pv 7) pa_nil))))))))
      (pss_cons (ps_asg (pv 4) (pg_lst rfl (pgs_cons (pg_name (i := 8) scL.nd rfl (.inl rfl)) (pgs_cons (pg_name (i := 9) scL.nd rfl (.inl rfl)) pgs_nil))))
      (pss_cons (ps_if (pt_not (pt_val (pe_call GI hr2 (by rfl) gI kI bI .nil pass0 (pa_cons (pe_call GP hr2 (by rfl) gP kP bP .nil pass0 (pa_cons (pv 8) (pa_cons (pv 9) pa_nil)))
          (pa_cons (pe_op op_add (pe_op op_mulW (pe_ix ix_tup (pv 8) pe_int (fun _ _ => rfl)) (pe_ix ix_tup (pv 9) pe_int (fun _ _ => rfl))) (pe_op op_mulW (pe_ix ix_tup (pv 9) pe_int (fun _ _ => rfl)) (pe_ix ix_tup (pv 8) pe_int (fun _ _ => rfl)))) (pa_cons (pe_op op_mulW (pe_ix ix_tup (pv 8) pe_int (fun _ _ => rfl)) (pe_ix ix_tup (pv 9) pe_int (fun _ _ => rfl))) pa_nil)))))) (pss_one (ps_ret pe_bl)) pss_nil)
      (pss_cons (ps_if (pt_not (pt_val (pe_call GI hr2 (by rfl) gI kI bI .nil pass0 (pa_cons (pe_call GM hr2 (by rfl) gM kM bM .nil pass0 (pa_cons (pv 8) (pa_cons (pv 9) pa_nil)))
          (pa_cons (pe_op op_sub (pe_op op_mulW (pe_ix ix_tup (pv 8) pe_int (fun _ _ => rfl)) (pe_ix ix_tup (pv 9) pe_int (fun _ _ => rfl))) (pe_op op_mulW (pe_ix ix_tup (pv 9) pe_int (fun _ _ => rfl)) (pe_ix ix_tup (pv 8) pe_int (fun _ _ => rfl)))) (pa_cons (pe_op op_mulW (pe_ix ix_tup (pv 8) pe_int (fun _ _ => rfl)) (pe_ix ix_tup (pv 9) pe_int (fun _ _ => rfl))) pa_nil)))))) (pss_one (ps_ret pe_bl)) pss_nil)
      (pss_cons (ps_if (PW.pt (pw_or (pt_not (pt_val (pe_call GI hr2 (by rfl) gI kI bI .nil pass0 (pa_cons (pe_call GX hr2 (by rfl) gX kX bX .nil pass0 (pa_cons (pv 8) (pa_cons (pv 9) pa_nil)))
          (pa_cons (pe_op op_mulW (pe_ix ix_tup (pv 8) pe_int (fun _ _ => rfl)) (pe_ix ix_tup (pv 9) pe_int (fun _ _ => rfl))) (pa_cons (pe_op op_mulW (pe_ix ix_tup (pv 8) pe_int (fun _ _ => rfl)) (pe_ix ix_tup (pv 9) pe_int (fun _ _ => rfl))) pa_nil))))))
          (pw_or1 (pt_not (pt_val (pe_call GO hr (by rfl) gO kO bO .nil pass0 (pa_cons (pv 8) (pa_cons (pv 9) pa_nil)))))))) (pss_one (ps_ret pe_bl)) pss_nil)
      (pss_cons (ps_set (i := 10) scL.nd rfl (.inl rfl) (pe_op op_mulW (pe_ix ix_tup (pv 8) pe_int (fun _ _ => rfl)) (pe_ix ix_tup (pv 9) pe_int (fun _ _ => rfl))))
      (pss_cons (ps_set (i := 11) scL.nd rfl (.inl rfl) (pe_op op_mulW (pe_ix ix_tup (pv 9) pe_int (fun _ _ => rfl)) (pe_ix ix_tup (pv 8) pe_int (fun _ _ => rfl))))
      (Evl.pss_cut (ps_set (i := 12) scL.nd rfl (.inl rfl) (pe_ifExp (pt_cmpR op_eq (pv 10) (pv 11) (nomark _)) pe_int (pe_ifExp (pt_cmpR op_gt (pv 10) (pv 11) (nomark _)) pe_int (pe_un un_neg pe_int))))
      (pss_cons (ps_set (i := 13) scL.nd rfl (.inl rfl) (pe_call GC hr1 (by rfl) gC kC bC .nil pass0 (pa_cons (pv 8) (pa_cons (pv 9) pa_nil))))
      (pss_cons (ps_if (PW.pt (pw_or (pt_not (pt_val (pe_call GN hr1 (by rfl) gN kN bN .nil pass0 (pa_cons (pv 13) pa_nil)))) (pw_or (pt_cmpR op_ne (pv 13) (pv 12) (nomark _))
          (pw_or1 (pt_cmpR op_ne (pe_call GC hr1 (by rfl) gC kC bC .nil pass0 (pa_cons (pv 8) (pa_cons (pv 8) pa_nil))) pe_int (nomark _)))))) (pss_one (ps_ret pe_bl)) pss_nil)
      (pss_one (ps_ret (pe_and (pe_call GI hr2 (by rfl) gI kI bI .nil pass0 (pa_cons (pe_call GG hr1 (by rfl) gG kG bG .nil pass0 (pa_cons (pv 8) pa_nil)) (pa_cons (pe_callB call_abs (by rfl) T.abs (by decide +kernel) (pa_cons (pe_ix ix_tup (pv 8) pe_int (fun _ _ => rfl)) pa_nil)) (pa_cons (pe_ix ix_tup (pv 8) pe_int (fun _ _ => rfl)) pa_nil))))
        (pe_and (pe_call GU hr2 (by rfl) gU kU bU .nil pass0 (pa_cons (pv 8) pa_nil)) (pe_one (pe_call GU hr2 (by rfl) gU kU bU .nil pass0 (pa_cons (pv 9) pa_nil))))))))))))))))))))), ?_⟩
    refine ⟨_, rfl, a, ns, rfl, hS, hlen, fun H1 d c sm1 nd nc dr => ?_⟩
    refine ⟨_, rfl, d, c, 999, rfl, dr, by decide, by decide, fun H2 t0 k2 dr2 g0 => ⟨_, rfl, d, c, 999, rfl, dr2, by decide, by decide, fun H3 t1 k3 dr3 g1 => ⟨by show 2 ≤ sizeLine; decide, fun pt npt => ?_⟩⟩⟩
    have hpd : pt ≠ d := (ne_of_none dr3.lst.choose_spec npt).symm
    have hpc : pt ≠ c := (ne_of_none dr3.lstc.choose_spec npt).symm
    have dr4 := dr3.upd (.lst [.int t0, .int t1]) hpd hpc
    refine ⟨_, rfl, d, c, 60, rfl, dr4, by decide, by decide, fun H5 b0 k5 dr5 g2 => ⟨_, rfl, d, c, 60, rfl, dr5, by decide, by decide, fun H6 b1 k6 dr6 g3 => ⟨by show 2 ≤ sizeLine; decide, fun pb npb => ?_⟩⟩⟩
    have hT6 : H6 pt = some (.lst [.int t0, .int t1]) := by rw [(k5.trans k6) pt hpd, upd_same]
    clear dr dr2 dr3 dr4 dr5 dr6 k2 k3 k5 k6
    have hT7 : (upd H6 pb (.lst [.int b0, .int b1])) pt = some (.lst [.int t0, .int t1]) := new_tup npb _ _ hT6
    have hB7 : (upd H6 pb (.lst [.int b0, .int b1])) pb = some (.lst [.int b0, .int b1]) := upd_same
    generalize upd H6 pb (.lst [.int b0, .int b1]) = H7 at *
    refine ⟨_, rfl, pt, _, _, _, rfl, rfl, SqL.of hT7, l0, t0, rfl, g0.mono (by decide), _, rfl, iteF ⟨0, rfl, by unfold Bg; decide, _, rfl, iteF ?_⟩⟩
    refine ⟨Nat.zero_le _, fun pm npm => ?_⟩
    have hTm : pt ≠ pm := ne_of_none hT7 npm
    have hBm : pb ≠ pm := ne_of_none hB7 npm
    have hT8 : (upd H7 pm (.lst [])) pt = some (.lst [.int t0, .int t1]) := new_tup npm _ _ hT7
    have hB8 : (upd H7 pm (.lst [])) pb = some (.lst [.int b0, .int b1]) := new_tup npm _ _ hB7
    refine ⟨2, rfl, by decide, by decide, for_range (lo := 0) (n := 2) (fun i σ H' => ∃ (xs : List V) (v5 v6 v7 : Option V), σ = [some (.ref a), some (.ref d), some (.ref pt), some (.ref pb), some (.ref pm), v5, v6, v7, none, none, none, none, none, none] ∧
        H' pt = some (.lst [.int t0, .int t1]) ∧ H' pb = some (.lst [.int b0, .int b1]) ∧ H' pm = some (.lst xs) ∧ xs.length = i ∧ ∀ x ∈ xs, Good H' x)
      ⟨[], _, _, _, rfl, hT8, hB8, upd_same, rfl, fun x hx => by cases hx⟩ ?_ ?_⟩
    · rintro i σ H' hi ⟨xs, v5, v6, v7, rfl, hT, hB, hM, hxl, hgood⟩
      obtain ⟨ti, hti, gti⟩ : ∃ t, atI [V.int t0, V.int t1] ((0 : Int) + i) = some (.int t) ∧ Bg 200 t := by
        rcases i with _ | _ | i
        · exact ⟨t0, rfl, g0⟩
        · exact ⟨t1, rfl, g1⟩
        · omega
      obtain ⟨bi, hbi, gbi⟩ : ∃ t, atI [V.int b0, V.int b1] ((0 : Int) + i) = some (.int t) ∧ Bg 200 t := by
        rcases i with _ | _ | i
        · exact ⟨b0, rfl, g2⟩
        · exact ⟨b1, rfl, g3⟩
        · omega
      generalize (0 : Int) + i = ii at *
      refine ⟨fun σ' H'' => ∃ b : Int, σ' = [some (.ref a), some (.ref d), some (.ref pt), some (.ref pb), some (.ref pm), some (.int ii), some (.int b), v7, none, none, none, none, none, none] ∧ H'' = H' ∧ b ≠ 0 ∧ Bg 200 b, ?_, ?_⟩
      · refine ⟨_, rfl, _, rfl, pb, _, _, _, rfl, rfl, SqL.of hB, hbi, rfl, _, rfl, ite2 (fun e => ?_) (fun e => ?_)⟩
        · refine ⟨_, rfl, _, rfl, pb, _, _, _, rfl, rfl, SqL.of hB, hbi, bi, rfl, rfl, fun z => ?_, gbi⟩
          subst z
          exact absurd e (by decide)
        · exact ⟨1, rfl, rfl, by decide, by unfold Bg; decide +kernel⟩
      · rintro σ' H'' ⟨b, rfl, rfl, hb0, gb⟩
        have hF := frc (a := ti) hb0
        have d0 := dv_ne (a := ti) hb0
        have x1 := fdiv_bg gti (dv_l ti b) d0
        have x2 := fdiv_bg gb (dv_r ti b) d0
        refine ⟨_, rfl, _, rfl, pt, _, _, _, rfl, rfl, SqL.of hT, hti, _, rfl, ti, b, rfl, gti.mono (by decide), gb.mono (by decide), fun z => absurd z hb0, fun _ p np => ?_⟩
        have s9 := new_tup (o := .tup [.int (ti.fdiv (dv ti b)), .int (b.fdiv (dv ti b))]) np
        generalize ti.fdiv (dv ti b) = n at *
        generalize b.fdiv (dv ti b) = m at *
        have hmp : pm ≠ p := ne_of_none hM np
        refine ⟨_, rfl, _, rfl, _, rfl, pt, _, _, _, rfl, rfl, SqL.of (s9 _ _ hT), hti, _, rfl, p, n, m, ti, b, rfl, upd_same, hF, x1.mono (by decide), x2.mono (by decide), gti.mono (by decide), gb.mono (by decide), _, rfl, iteF ?_⟩
        refine ⟨_, rfl, .inl ⟨rfl, _, SqL.of (s9 _ _ hM)⟩, _, rfl, pm, _, _, rfl, rfl, s9 _ _ hM, small1000 (by omega), ?_⟩
        have keep : ∀ q xs', H'' q = some (.tup xs') → (upd (upd H'' p (.tup [.int n, .int m])) pm (.lst (xs ++ [.ref p]))) q = some (.tup xs') := fun q xs' e => by
          rw [upd_ne (ne_of e hM (fun w => nomatch w))]
          exact s9 _ _ e
        refine ⟨xs ++ [.ref p], _, _, _, rfl, ?_, ?_, upd_same, by rw [List.length_append, hxl]; rfl, ?_⟩
        · rw [upd_ne hTm]; exact s9 _ _ hT
        · rw [upd_ne hBm]; exact s9 _ _ hB
        · intro x hx
          rcases List.mem_append.mp hx with h | h
          · exact (hgood x h).same keep
          · rw [List.mem_singleton] at h
            subst h
            exact ⟨p, n, m, rfl, by rw [FrT, upd_ne hmp.symm, upd_same], hF.pos, x1, x2, hF.low⟩
    · rintro σ H' ⟨xs, v5, v6, v7, rfl, hT, hB, hM, hxl, hgood⟩
      obtain ⟨x0, x1, rfl⟩ : ∃ x0 x1, xs = [x0, x1] := by
        match xs, hxl with
        | [x0, x1], _ => exact ⟨x0, x1, rfl⟩
      obtain ⟨pa, n, m, rfl, ha, hm, gn, gm, glow⟩ := hgood x0 (by simp)
      obtain ⟨pz, n', m', rfl, hz, hm', gn', gm', _⟩ := hgood x1 (by simp)
      refine ⟨_, rfl, pm, _, rfl, SqL.of hM, rfl, _, _, rfl, _, _, rfl, rfl, ?_⟩
      have hmm : m * m' ≠ 0 := Int.mul_ne_zero (by omega) (by omega)
      have c1 := gn.cmul gm' (by decide) (by decide) (by decide)
      have c2 := gn'.cmul gm (by decide) (by decide) (by decide)
      have c3 := gm.cmul gm' (by decide) (by decide) (by decide)
      have c4 := gn.cmul gn' (by decide) (by decide) (by decide)
      have fin : ∀ {t b : Int}, Bg 401 t → Bg 400 b → b ≠ 0 → Frc (t.fdiv (dv t b)) (b.fdiv (dv t b)) t b ∧ Bg 1000 (t.fdiv (dv t b)) ∧ Bg 1000 (b.fdiv (dv t b)) ∧ Bg 1000 t ∧ Bg 1000 b := fun gt gb h0 =>
        ⟨frc h0, (fdiv_bg gt (dv_l _ _) (dv_ne h0)).mono (by decide), (fdiv_bg gb (dv_r _ _) (dv_ne h0)).mono (by decide), gt.mono (by decide), gb.mono (by decide)⟩
      clear hT hB hM hgood hT7 hB7 hT8 hB8 hT6 npm npb npt
      -- plus
      obtain ⟨y1, y2, y3, y4, y5⟩ := fin ((gn.mul gm').add (gn'.mul gm)) (gm.mul gm') hmm
      refine ⟨_, rfl, _, rfl, pa, pz, n, m, n', m', rfl, ha, hz, gn, gm, gn', gm', hmm, fun p1 np1 => ?_⟩
      have s1 := new_tup (o := .tup [.int ((n * m' + n' * m).fdiv (dv (n * m' + n' * m) (m * m'))), .int ((m * m').fdiv (dv (n * m' + n' * m) (m * m')))]) np1
      refine ⟨_, rfl, pa, _, _, _, rfl, rfl, SqT.of (s1 _ _ ha), f0, _, rfl, pz, _, _, _, rfl, rfl, SqT.of (s1 _ _ hz), f1, _, _, rfl, rfl, c1, _, rfl, pz, _, _, _, rfl, rfl, SqT.of (s1 _ _ hz), f0, _, rfl, pa, _, _, _, rfl, rfl, SqT.of (s1 _ _ ha), f1, _, _, rfl, rfl, c2, _, _, rfl, rfl,
        _, rfl, pa, _, _, _, rfl, rfl, SqT.of (s1 _ _ ha), f1, _, rfl, pz, _, _, _, rfl, rfl, SqT.of (s1 _ _ hz), f1, _, _, rfl, rfl, c3, p1, _, _, _, _, rfl, upd_same, y1, y2, y3, y4, y5, _, rfl, iteF ?_⟩
      replace ha := s1 _ _ ha
      replace hz := s1 _ _ hz
      clear y1 y2 y3 y4 y5 s1 np1
      generalize upd H' p1 _ = Ha at *
      -- minus
      obtain ⟨y1, y2, y3, y4, y5⟩ := fin ((gn.mul gm').sub (gn'.mul gm)) (gm.mul gm') hmm
      refine ⟨_, rfl, _, rfl, pa, pz, n, m, n', m', rfl, ha, hz, gn, gm, gn', gm', hmm, fun p1 np1 => ?_⟩
      have s1 := new_tup (o := .tup [.int ((n * m' - n' * m).fdiv (dv (n * m' - n' * m) (m * m'))), .int ((m * m').fdiv (dv (n * m' - n' * m) (m * m')))]) np1
      refine ⟨_, rfl, pa, _, _, _, rfl, rfl, SqT.of (s1 _ _ ha), f0, _, rfl, pz, _, _, _, rfl, rfl, SqT.of (s1 _ _ hz), f1, _, _, rfl, rfl, c1, _, rfl, pz, _, _, _, rfl, rfl, SqT.of (s1 _ _ hz), f0, _, rfl, pa, _, _, _, rfl, rfl, SqT.of (s1 _ _ ha), f1, _, _, rfl, rfl, c2, _, _, rfl, rfl,
        _, rfl, pa, _, _, _, rfl, rfl, SqT.of (s1 _ _ ha), f1, _, rfl, pz, _, _, _, rfl, rfl, SqT.of (s1 _ _ hz), f1, _, _, rfl, rfl, c3, p1, _, _, _, _, rfl, upd_same, y1, y2, y3, y4, y5, _, rfl, iteF ?_⟩
      replace ha := s1 _ _ ha
      replace hz := s1 _ _ hz
      clear y1 y2 y3 y4 y5 s1 np1
      generalize upd Ha p1 _ = Hb at *
      -- times
      obtain ⟨y1, y2, y3, y4, y5⟩ := fin ((gn.mul gn').mono (by decide)) (gm.mul gm') hmm
      refine ⟨_, rfl, _, rfl, pa, pz, n, m, n', m', rfl, ha, hz, gn, gm, gn', gm', hmm, fun p1 np1 => ?_⟩
      have s1 := new_tup (o := .tup [.int ((n * n').fdiv (dv (n * n') (m * m'))), .int ((m * m').fdiv (dv (n * n') (m * m')))]) np1
      refine ⟨_, rfl, pa, _, _, _, rfl, rfl, SqT.of (s1 _ _ ha), f0, _, rfl, pz, _, _, _, rfl, rfl, SqT.of (s1 _ _ hz), f0, _, _, rfl, rfl, c4,
        _, rfl, pa, _, _, _, rfl, rfl, SqT.of (s1 _ _ ha), f1, _, rfl, pz, _, _, _, rfl, rfl, SqT.of (s1 _ _ hz), f1, _, _, rfl, rfl, c3, p1, _, _, _, _, rfl, upd_same, y1, y2, y3, y4, y5, _, rfl, iteF ?_⟩
      replace ha := s1 _ _ ha
      replace hz := s1 _ _ hz
      clear y1 y2 y3 y4 y5 s1 np1
      generalize upd Hb p1 _ = Hc at *
      -- over
      refine ⟨_, rfl, _, rfl, pa, pz, n, m, n', m', rfl, ha, hz, gn, gm, gn', gm', hm, fun Hd sd => ⟨_, rfl, iteF ?_⟩⟩
      replace ha := sd _ _ ha
      replace hz := sd _ _ hz
      -- compare
      refine ⟨_, rfl, pa, _, _, _, rfl, rfl, SqT.of ha, f0, _, rfl, pz, _, _, _, rfl, rfl, SqT.of hz, f1, _, _, rfl, rfl, c1, _, rfl, pz, _, _, _, rfl, rfl, SqT.of hz, f0, _, rfl, pa, _, _, _, rfl, rfl, SqT.of ha, f1, _, _, rfl, rfl, c2, ?_⟩
      refine ⟨fun σ' H'' => σ' = [some (.ref a), some (.ref d), some (.ref pt), some (.ref pb), some (.ref pm), v5, v6, v7, some (.ref pa), some (.ref pz), some (.int (n * m')), some (.int (n' * m)), some (.int (if n * m' = n' * m then 0 else if n' * m < n * m' then 1 else -1)), none] ∧ H'' = Hd, ?_, ?_⟩
      · refine ⟨_, rfl, _, rfl, rfl, _, rfl, ite2 (fun e => ?_) (fun e => ?_)⟩
        · rw [if_pos (V.int.inj (of_decide_eq_true e))]
          exact ⟨rfl, rfl⟩
        · rw [if_neg (fun z => e (decide_eq_true (congrArg V.int z)))]
          refine ⟨_, rfl, _, rfl, _, _, rfl, rfl, _, rfl, ite2 (fun e2 => ?_) (fun e2 => ?_)⟩
          · rw [if_pos (of_decide_eq_true e2)]
            exact ⟨rfl, rfl⟩
          · rw [if_neg (fun z => e2 (decide_eq_true z))]
            exact ⟨1, rfl, rfl, rfl⟩
      · rintro σ' H'' ⟨rfl, rfl⟩
        refine ⟨_, rfl, _, rfl, pa, pz, n, m, n', m', rfl, ha, hz, gn, gm, gn', gm', ?_⟩
        refine ⟨_, rfl, _, rfl, _, rfl, iteF ⟨_, rfl, _, rfl, rfl, _, rfl, ?_⟩⟩
        rw [decide_eq_true rfl]
        refine iteF ⟨_, rfl, _, rfl, pa, pa, n, m, n, m, rfl, ha, ha, gn, gm, gn, gm, rfl, _, rfl, ?_⟩
        rw [if_pos rfl]
        refine iteF ?_
        -- magnitude and the roundings
        refine ⟨_, rfl, pa, n, m, rfl, ha, fun p1 np1 => ?_⟩
        have s1 := new_tup (o := .tup [.int (if n < 0 then -n else n), .int m]) np1
        have hab : (if n < 0 then -n else n).natAbs = n.natAbs := by split <;> omega
        have gab : Bg 200 (if n < 0 then -n else n) := by unfold Bg; rw [hab]; exact gn
        have hfr : Frc (if n < 0 then -n else n) m (if n < 0 then -n else n) m := ⟨hm, rfl, by unfold gi at *; rw [hab]; exact glow⟩
        refine ⟨_, rfl, pa, _, _, _, rfl, rfl, SqT.of (s1 _ _ ha), f0, n, rfl, _, rfl, pa, _, _, _, rfl, rfl, SqT.of (s1 _ _ ha), f1, p1, _, _, _, _, rfl, upd_same, hfr, gab.mono (by decide), gm.mono (by decide), gab.mono (by decide), gm.mono (by decide), _, rfl, iteT ?_⟩
        refine ⟨_, rfl, pa, n, m, rfl, s1 _ _ ha, hm, gn, gm, _, rfl, iteT ?_⟩
        exact ⟨_, rfl, pz, n', m', rfl, s1 _ _ hz, hm', gn', gm', q _⟩
end
/-! ### what the top has written, the head -/
theorem all_mk {l : PySem.W.OpenLaw} {w : World} {K : PySem.W.Frag} {h : Heap} {mg : Str → Option Value} {fa f1 f2 f3 f4 f5 f6 f7 f8 f9 f10 f11 f12 f13 f14 f15 f16 f17 f18 f19 f20 cZ cT cX : Addr} (X : K.In h) (G : h.Ns mainGlobals mg) (hfa : mg "law" = some (.ref fa))
    {od1 an1 od2 an2 od3 an3 od4 an4 od5 an5 od6 an6 od7 an7 od8 an8 od9 an9 od10 an10 od11 an11 od12 an12 od13 an13 od14 an14 od15 an15 od16 an16 od17 an17 od18 an18 od19 an19 od20 an20 : Option Addr} {sl1 sl2 sl3 sl4 sl5 sl6 sl7 sl8 sl9 sl10 sl11 sl12 sl13 sl14 sl15 sl16 sl17 sl18 sl19 sl20 : Array (Option Value)} {oc1 kV1 dc1 pm1 cd1 ct1 oc2 kV2 dc2 pm2 cd2 ct2 oc3 kV3 dc3 pm3 cd3 ct3 oc4 kV4 dc4 pm4 cd4 ct4 oc5 kV5 dc5 pm5 cd5 ct5 oc6 kV6 dc6 pm6 cd6 ct6 oc7 kV7 dc7 pm7 cd7 ct7 oc8 kV8 dc8 pm8 cd8 ct8 oc9 kV9 dc9 pm9 cd9 ct9 oc10 kV10 dc10 pm10 cd10 ct10 oc11 kV11 dc11 pm11 cd11 ct11 oc12 kV12 dc12 pm12 cd12 ct12 oc13 kV13 dc13 pm13 cd13 ct13 oc14 kV14 dc14 pm14 cd14 ct14 oc15 kV15 dc15 pm15 cd15 ct15 oc16 kV16 dc16 pm16 cd16 ct16 oc17 kV17 dc17 pm17 cd17 ct17 oc18 kV18 dc18 pm18 cd18 ct18 oc19 kV19 dc19 pm19 cd19 ct19 oc20 kV20 dc20 pm20 cd20 ct20 : Value}
    (a1 : PySem.W.nsIn K mainGlobals "fraction" = some (some (.ref f1))) (l1 : K.lookup f1 = some ⟨oc1, od1, .func (PySem.W.fnOf "fraction" "fraction" (defArgs sFrac) (defBody sFrac) (defScope sFrac) .none kV1 dc1 pm1 an1 cd1 ct1), sl1⟩) (c1 : PySem.W.codeIn K cd1 "fraction" = true) (k1 : PySem.W.keepIn K (.ref f1) = true)
    (a2 : PySem.W.nsIn K mainGlobals "plus" = some (some (.ref f2))) (l2 : K.lookup f2 = some ⟨oc2, od2, .func (PySem.W.fnOf "plus" "plus" (defArgs sPlus) (defBody sPlus) (defScope sPlus) .none kV2 dc2 pm2 an2 cd2 ct2), sl2⟩) (c2 : PySem.W.codeIn K cd2 "plus" = true) (k2 : PySem.W.keepIn K (.ref f2) = true)
    (a3 : PySem.W.nsIn K mainGlobals "minus" = some (some (.ref f3))) (l3 : K.lookup f3 = some ⟨oc3, od3, .func (PySem.W.fnOf "minus" "minus" (defArgs sMinus) (defBody sMinus) (defScope sMinus) .none kV3 dc3 pm3 an3 cd3 ct3), sl3⟩) (c3 : PySem.W.codeIn K cd3 "minus" = true) (k3 : PySem.W.keepIn K (.ref f3) = true)
    (a4 : PySem.W.nsIn K mainGlobals "times" = some (some (.ref f4))) (l4 : K.lookup f4 = some ⟨oc4, od4, .func (PySem.W.fnOf "times" "times" (defArgs sTimes) (defBody sTimes) (defScope sTimes) .none kV4 dc4 pm4 an4 cd4 ct4), sl4⟩) (c4 : PySem.W.codeIn K cd4 "times" = true) (k4 : PySem.W.keepIn K (.ref f4) = true)
    (a5 : PySem.W.nsIn K mainGlobals "over" = some (some (.ref f5))) (l5 : K.lookup f5 = some ⟨oc5, od5, .func (PySem.W.fnOf "over" "over" (defArgs sOver) (defBody sOver) (defScope sOver) .none kV5 dc5 pm5 an5 cd5 ct5), sl5⟩) (c5 : PySem.W.codeIn K cd5 "over" = true) (k5 : PySem.W.keepIn K (.ref f5) = true)
    (a6 : PySem.W.nsIn K mainGlobals "compare" = some (some (.ref f6))) (l6 : K.lookup f6 = some ⟨oc6, od6, .func (PySem.W.fnOf "compare" "compare" (defArgs sCompare) (defBody sCompare) (defScope sCompare) .none kV6 dc6 pm6 an6 cd6 ct6), sl6⟩) (c6 : PySem.W.codeIn K cd6 "compare" = true) (k6 : PySem.W.keepIn K (.ref f6) = true)
    (a7 : PySem.W.nsIn K mainGlobals "magnitude" = some (some (.ref f7))) (l7 : K.lookup f7 = some ⟨oc7, od7, .func (PySem.W.fnOf "magnitude" "magnitude" (defArgs sMag) (defBody sMag) (defScope sMag) .none kV7 dc7 pm7 an7 cd7 ct7), sl7⟩) (c7 : PySem.W.codeIn K cd7 "magnitude" = true) (k7 : PySem.W.keepIn K (.ref f7) = true)
    (a8 : PySem.W.nsIn K mainGlobals "whole" = some (some (.ref f8))) (l8 : K.lookup f8 = some ⟨oc8, od8, .func (PySem.W.fnOf "whole" "whole" (defArgs sWhole) (defBody sWhole) (defScope sWhole) .none kV8 dc8 pm8 an8 cd8 ct8), sl8⟩) (c8 : PySem.W.codeIn K cd8 "whole" = true) (k8 : PySem.W.keepIn K (.ref f8) = true)
    (a9 : PySem.W.nsIn K mainGlobals "nearest" = some (some (.ref f9))) (l9 : K.lookup f9 = some ⟨oc9, od9, .func (PySem.W.fnOf "nearest" "nearest" (defArgs sNear) (defBody sNear) (defScope sNear) .none kV9 dc9 pm9 an9 cd9 ct9), sl9⟩) (c9 : PySem.W.codeIn K cd9 "nearest" = true) (k9 : PySem.W.keepIn K (.ref f9) = true)
    (a10 : PySem.W.nsIn K mainGlobals "_law_begin" = some (some (.ref f10))) (l10 : K.lookup f10 = some ⟨oc10, od10, .func (PySem.W.fnOf "_law_begin" "_law_begin" (defArgs sBegin) (defBody sBegin) (defScope sBegin) .none kV10 dc10 pm10 an10 cd10 ct10), sl10⟩) (c10 : PySem.W.codeIn K cd10 "_law_begin" = true) (k10 : PySem.W.keepIn K (.ref f10) = true)
    (a11 : PySem.W.nsIn K mainGlobals "_law_take" = some (some (.ref f11))) (l11 : K.lookup f11 = some ⟨oc11, od11, .func (PySem.W.fnOf "_law_take" "_law_take" (defArgs sTake) (defBody sTake) (defScope sTake) .none kV11 dc11 pm11 an11 cd11 ct11), sl11⟩) (c11 : PySem.W.codeIn K cd11 "_law_take" = true) (k11 : PySem.W.keepIn K (.ref f11) = true)
    (a12 : PySem.W.nsIn K mainGlobals "_law_signed" = some (some (.ref f12))) (l12 : K.lookup f12 = some ⟨oc12, od12, .func (PySem.W.fnOf "_law_signed" "_law_signed" (defArgs sSigned) (defBody sSigned) (defScope sSigned) .none kV12 dc12 pm12 an12 cd12 ct12), sl12⟩) (c12 : PySem.W.codeIn K cd12 "_law_signed" = true) (k12 : PySem.W.keepIn K (.ref f12) = true)
    (a13 : PySem.W.nsIn K mainGlobals "_law_int" = some (some (.ref f13))) (l13 : K.lookup f13 = some ⟨oc13, od13, .func (PySem.W.fnOf "_law_int" "_law_int" (defArgs sInt) (defBody sInt) (defScope sInt) .none kV13 dc13 pm13 an13 cd13 ct13), sl13⟩) (c13 : PySem.W.codeIn K cd13 "_law_int" = true) (k13 : PySem.W.keepIn K (.ref f13) = true)
    (a14 : PySem.W.nsIn K mainGlobals "_law_divisor" = some (some (.ref f14))) (l14 : K.lookup f14 = some ⟨oc14, od14, .func (PySem.W.fnOf "_law_divisor" "_law_divisor" (defArgs sDiv) (defBody sDiv) (defScope sDiv) .none kV14 dc14 pm14 an14 cd14 ct14), sl14⟩) (c14 : PySem.W.codeIn K cd14 "_law_divisor" = true) (k14 : PySem.W.keepIn K (.ref f14) = true)
    (a15 : PySem.W.nsIn K mainGlobals "_law_is" = some (some (.ref f15))) (l15 : K.lookup f15 = some ⟨oc15, od15, .func (PySem.W.fnOf "_law_is" "_law_is" (defArgs sIs) (defBody sIs) (defScope sIs) .none kV15 dc15 pm15 an15 cd15 ct15), sl15⟩) (c15 : PySem.W.codeIn K cd15 "_law_is" = true) (k15 : PySem.W.keepIn K (.ref f15) = true)
    (a16 : PySem.W.nsIn K mainGlobals "_law_number" = some (some (.ref f16))) (l16 : K.lookup f16 = some ⟨oc16, od16, .func (PySem.W.fnOf "_law_number" "_law_number" (defArgs sNumber) (defBody sNumber) (defScope sNumber) .none kV16 dc16 pm16 an16 cd16 ct16), sl16⟩) (c16 : PySem.W.codeIn K cd16 "_law_number" = true) (k16 : PySem.W.keepIn K (.ref f16) = true)
    (a17 : PySem.W.nsIn K mainGlobals "_law_refused" = some (some (.ref f17))) (l17 : K.lookup f17 = some ⟨oc17, od17, .func (PySem.W.fnOf "_law_refused" "_law_refused" (defArgs sRefused) (defBody sRefused) (defScope sRefused) .none kV17 dc17 pm17 an17 cd17 ct17), sl17⟩) (c17 : PySem.W.codeIn K cd17 "_law_refused" = true) (k17 : PySem.W.keepIn K (.ref f17) = true)
    (a18 : PySem.W.nsIn K mainGlobals "_law_over_is" = some (some (.ref f18))) (l18 : K.lookup f18 = some ⟨oc18, od18, .func (PySem.W.fnOf "_law_over_is" "_law_over_is" (defArgs sOverIs) (defBody sOverIs) (defScope sOverIs) .none kV18 dc18 pm18 an18 cd18 ct18), sl18⟩) (c18 : PySem.W.codeIn K cd18 "_law_over_is" = true) (k18 : PySem.W.keepIn K (.ref f18) = true)
    (a19 : PySem.W.nsIn K mainGlobals "_law_rounded" = some (some (.ref f19))) (l19 : K.lookup f19 = some ⟨oc19, od19, .func (PySem.W.fnOf "_law_rounded" "_law_rounded" (defArgs sRounded) (defBody sRounded) (defScope sRounded) .none kV19 dc19 pm19 an19 cd19 ct19), sl19⟩) (c19 : PySem.W.codeIn K cd19 "_law_rounded" = true) (k19 : PySem.W.keepIn K (.ref f19) = true)
    (a20 : PySem.W.nsIn K mainGlobals "law" = some (some (.ref f20))) (l20 : K.lookup f20 = some ⟨oc20, od20, .func (PySem.W.fnOf "law" "law" (defArgs sLaw) (defBody sLaw) (defScope sLaw) .none kV20 dc20 pm20 an20 cd20 ct20), sl20⟩) (c20 : PySem.W.codeIn K cd20 "law" = true) (k20 : PySem.W.keepIn K (.ref f20) = true)
    (aEcZ : PySem.W.nsIn K mainGlobals "ZeroDenominator" = some (some (.ref cZ)))
    (kEcZ : PySem.W.keepIn K (.ref cZ) = true)
    (bEcZ : PySem.W.subIn K (.ref cZ) (.type "BaseException") = some true)
    (tEcZ : PySem.W.typeIn K (.ref cZ) = some (.type "type"))
    (hEcZ : PySem.W.hasDictIn K cZ = true)
    (aEcT : PySem.W.nsIn K mainGlobals "TensorError" = some (some (.ref cT)))
    (kEcT : PySem.W.keepIn K (.ref cT) = true)
    (bEcT : PySem.W.subIn K (.ref cT) (.type "BaseException") = some true)
    (tEcT : PySem.W.typeIn K (.ref cT) = some (.type "type"))
    (hEcT : PySem.W.hasDictIn K cT = true)
    (aEcX : PySem.W.nsIn K mainGlobals "TextError" = some (some (.ref cX)))
    (xZ : PySem.W.excIn K cZ valErr "ValueError.__new__" = true)
    (sZT : PySem.W.subIn K (.ref cZ) (.ref cT) = some true)
    (sZZ : PySem.W.subIn K (.ref cZ) (.ref cZ) = some true)
    (i1 : PySem.W.findIn K (.ref cZ) "__getattribute__" = some (some (.builtin "BaseException.__getattribute__")))
    (i2 : PySem.W.findIn K (.ref cZ) "__getattr__" = some none)
    (i3 : PySem.W.findIn K (.ref cZ) "__class__" = some (some (.builtin "object.__class__")))
    (i4 : PySem.W.specialIn K (.builtin "object.__class__") "__get__" = some (some (.builtin "getset_descriptor.__get__")))
    (i5 : PySem.W.takesIn K (.builtin "object.__class__") = some true)
    (i6 : PySem.W.mroIn K cZ (.type "object") = some true)
    (sZV : PySem.W.subIn K (.ref cZ) (.type "ValueError") = some true)
    (sZX : PySem.W.subIn K (.ref cZ) (.ref cX) = some false)
    (hEcX : PySem.W.hasDictIn K cX = true)
    (tEcX : PySem.W.typeIn K (.ref cX) = some (.type "type"))
    (gcd : PySem.W.nsIn K mainGlobals "gcd" = some (some (.builtin "math.gcd")))
    (z_int : PySem.W.nsIn K mainGlobals "int" = some none)
    (z_abs : PySem.W.nsIn K mainGlobals "abs" = some none)
    (z_len : PySem.W.nsIn K mainGlobals "len" = some none)
    (z_list : PySem.W.nsIn K mainGlobals "list" = some none)
    (z_tuple : PySem.W.nsIn K mainGlobals "tuple" = some none)
    (z_range : PySem.W.nsIn K mainGlobals "range" = some none)
    (z_isinstance : PySem.W.nsIn K mainGlobals "isinstance" = some none)
    (z_bool : PySem.W.nsIn K mainGlobals "bool" = some none)
    (z_ValueError : PySem.W.nsIn K mainGlobals "ValueError" = some none)
    : ∃ fd : FuncData, (∀ (s : Shared) (v : Value), BindsTo s fd ⟨[v], []⟩ [("script", v)]) ∧ ∀ base : Heap, K.In base → base.Ns mainGlobals mg → FnOk l.prog w K mg base CX0 4 fa fd ["script"] (spLaw K) := by
  have e := hfa.symm.trans (PySem.W.mg_of X G a20)
  cases e
  have F1 := fun_mk (st := sFrac) l1 c1 k1
  have m1 := PySem.W.mg_of X G a1
  have b1 := F1.binds (ps := ["numerator", "denominator"]) fun _ _ _ _ _ _ us hl => match us, hl with | [_, _], _ => rfl
  have F2 := fun_mk (st := sPlus) l2 c2 k2
  have m2 := PySem.W.mg_of X G a2
  have b2 := F2.binds (ps := ["a", "b"]) fun _ _ _ _ _ _ us hl => match us, hl with | [_, _], _ => rfl
  have F3 := fun_mk (st := sMinus) l3 c3 k3
  have m3 := PySem.W.mg_of X G a3
  have b3 := F3.binds (ps := ["a", "b"]) fun _ _ _ _ _ _ us hl => match us, hl with | [_, _], _ => rfl
  have F4 := fun_mk (st := sTimes) l4 c4 k4
  have m4 := PySem.W.mg_of X G a4
  have b4 := F4.binds (ps := ["a", "b"]) fun _ _ _ _ _ _ us hl => match us, hl with | [_, _], _ => rfl
  have F5 := fun_mk (st := sOver) l5 c5 k5
  have m5 := PySem.W.mg_of X G a5
  have b5 := F5.binds (ps := ["a", "b"]) fun _ _ _ _ _ _ us hl => match us, hl with | [_, _], _ => rfl
  have F6 := fun_mk (st := sCompare) l6 c6 k6
  have m6 := PySem.W.mg_of X G a6
  have b6 := F6.binds (ps := ["a", "b"]) fun _ _ _ _ _ _ us hl => match us, hl with | [_, _], _ => rfl
  have F7 := fun_mk (st := sMag) l7 c7 k7
  have m7 := PySem.W.mg_of X G a7
  have b7 := F7.binds (ps := ["a"]) fun _ _ _ _ _ _ us hl => match us, hl with | [_], _ => rfl
  have F8 := fun_mk (st := sWhole) l8 c8 k8
  have m8 := PySem.W.mg_of X G a8
  have b8 := F8.binds (ps := ["a"]) fun _ _ _ _ _ _ us hl => match us, hl with | [_], _ => rfl
  have F9 := fun_mk (st := sNear) l9 c9 k9
  have m9 := PySem.W.mg_of X G a9
  have b9 := F9.binds (ps := ["a"]) fun _ _ _ _ _ _ us hl => match us, hl with | [_], _ => rfl
  have F10 := fun_mk (st := sBegin) l10 c10 k10
  have m10 := PySem.W.mg_of X G a10
  have b10 := F10.binds (ps := ["script"]) fun _ _ _ _ _ _ us hl => match us, hl with | [_], _ => rfl
  have F11 := fun_mk (st := sTake) l11 c11 k11
  have m11 := PySem.W.mg_of X G a11
  have b11 := F11.binds (ps := ["d", "many"]) fun _ _ _ _ _ _ us hl => match us, hl with | [_, _], _ => rfl
  have F12 := fun_mk (st := sSigned) l12 c12 k12
  have m12 := PySem.W.mg_of X G a12
  have b12 := F12.binds (ps := ["d", "most"]) fun _ _ _ _ _ _ us hl => match us, hl with | [_, _], _ => rfl
  have F13 := fun_mk (st := sInt) l13 c13 k13
  have m13 := PySem.W.mg_of X G a13
  have b13 := F13.binds (ps := ["actual"]) fun _ _ _ _ _ _ us hl => match us, hl with | [_], _ => rfl
  have F14 := fun_mk (st := sDiv) l14 c14 k14
  have m14 := PySem.W.mg_of X G a14
  have b14 := F14.binds (ps := ["a", "b"]) fun _ _ _ _ _ _ us hl => match us, hl with | [_, _], _ => rfl
  have F15 := fun_mk (st := sIs) l15 c15 k15
  have m15 := PySem.W.mg_of X G a15
  have b15 := F15.binds (ps := ["actual", "top", "bottom"]) fun _ _ _ _ _ _ us hl => match us, hl with | [_, _, _], _ => rfl
  have F16 := fun_mk (st := sNumber) l16 c16 k16
  have m16 := PySem.W.mg_of X G a16
  have b16 := F16.binds (ps := ["d", "most"]) fun _ _ _ _ _ _ us hl => match us, hl with | [_, _], _ => rfl
  have F17 := fun_mk (st := sRefused) l17 c17 k17
  have m17 := PySem.W.mg_of X G a17
  have b17 := F17.binds (ps := ["a"]) fun _ _ _ _ _ _ us hl => match us, hl with | [_], _ => rfl
  have F18 := fun_mk (st := sOverIs) l18 c18 k18
  have m18 := PySem.W.mg_of X G a18
  have b18 := F18.binds (ps := ["a", "b"]) fun _ _ _ _ _ _ us hl => match us, hl with | [_, _], _ => rfl
  have F19 := fun_mk (st := sRounded) l19 c19 k19
  have m19 := PySem.W.mg_of X G a19
  have b19 := F19.binds (ps := ["a"]) fun _ _ _ _ _ _ us hl => match us, hl with | [_], _ => rfl
  have F20 := fun_mk (st := sLaw) l20 c20 k20
  have m20 := PySem.W.mg_of X G a20
  have n_int := PySem.W.mg_none_of X G z_int
  have n_abs := PySem.W.mg_none_of X G z_abs
  have n_len := PySem.W.mg_none_of X G z_len
  have n_list := PySem.W.mg_none_of X G z_list
  have n_tuple := PySem.W.mg_none_of X G z_tuple
  have n_range := PySem.W.mg_none_of X G z_range
  have n_isinstance := PySem.W.mg_none_of X G z_isinstance
  have n_bool := PySem.W.mg_none_of X G z_bool
  have n_ValueError := PySem.W.mg_none_of X G z_ValueError
  have TD : TxtD mg := ⟨n_int, n_abs, n_len, n_list⟩
  have T0 : Txt mg := ⟨TD, n_tuple, n_range, n_isinstance, n_bool⟩
  have gZ := PySem.W.mg_of X G aEcZ
  have gT := PySem.W.mg_of X G aEcT
  have R : ErrR K mg "ZeroDenominator" cZ := ⟨gZ, xZ, kEcZ, bEcZ, tEcZ⟩
  have T : TxtE K mg cZ cT cX := ⟨T0, R, ⟨gZ, bEcZ, hEcZ, tEcZ⟩, ⟨gT, bEcT, hEcT, tEcT⟩, PySem.W.mg_of X G aEcX, n_ValueError, sZT, sZZ, ⟨i1, i2, bEcZ, hEcZ, i3, i4, i5, i6⟩, kit_rr sZZ sZZ hEcZ tEcZ, kit_rt sZV (by decide +kernel), kit_rr sZX sZZ hEcX tEcX⟩
  refine ⟨PySem.W.fnOf "law" "law" (defArgs sLaw) (defBody sLaw) (defScope sLaw) .none kV20 dc20 pm20 an20 cd20 ct20, fun s v => .of_eq rfl, fun base _ _ => ?_⟩
  have gF : FnOk l.prog w K mg base (L2.CX l.prog w) 1 _ _ ["numerator", "denominator"] (spFrac cZ) := ok_frac F1 R (PySem.W.mg_of X G gcd)
  have gP : FnOk l.prog w K mg base CX0 2 _ _ ["a", "b"] (spOp (fun n m n' m' => n * m' + n' * m) (fun n m n' m' => m * m')) := ok_plus gF k1 b1 m1 F2
  have gM : FnOk l.prog w K mg base CX0 2 _ _ ["a", "b"] (spOp (fun n m n' m' => n * m' - n' * m) (fun n m n' m' => m * m')) := ok_minus gF k1 b1 m1 F3
  have gX : FnOk l.prog w K mg base CX0 2 _ _ ["a", "b"] (spOp (fun n m n' m' => n * n') (fun n m n' m' => m * m')) := ok_times gF k1 b1 m1 F4
  have gO : FnOk l.prog w K mg base (L2.CX l.prog w) 2 _ _ ["a", "b"] (spOver cZ) := ok_over gF k1 b1 m1 F5
  have gC : FnOk l.prog w K mg base CX0 1 _ _ ["a", "b"] spCompare := ok_compare F6
  have gG : FnOk l.prog w K mg base CX0 1 _ _ ["a"] spMag := ok_mag F7 n_abs
  have gW : FnOk l.prog w K mg base CX0 1 _ _ ["a"] spWhole := ok_whole F8
  have gE : FnOk l.prog w K mg base CX0 1 _ _ ["a"] spNear := ok_near F9
  have gB : FnOk l.prog w K mg base CX0 1 _ _ ["script"] (spBegin K) := ok_begin F10 TD
  have gT : FnOk l.prog w K mg base CX0 1 _ _ ["d", "many"] spTake := ok_take F11 TD
  have gS : FnOk l.prog w K mg base CX0 2 _ _ ["d", "most"] spSigned := ok_signed F12 gT k11 b11 m11
  have gN : FnOk l.prog w K mg base CX0 1 _ _ ["actual"] spInt := ok_int F13 n_isinstance n_int n_bool
  have gD : FnOk l.prog w K mg base CX0 1 _ _ ["a", "b"] spDiv := ok_div F14 n_abs n_int
  have gI : FnOk l.prog w K mg base CX0 2 _ _ ["actual", "top", "bottom"] spIs := ok_is F15 T0 gN k13 b13 m13 gD k14 b14 m14
  have gK : FnOk l.prog w K mg base CX0 3 _ _ ["d", "most"] spNumber := ok_number F16 gT k11 b11 m11 gS k12 b12 m12
  have gR : FnOk l.prog w K mg base CX0 2 _ _ ["a"] spRefused := ok_refused F17 T gF k1 b1 m1
  have gQ : FnOk l.prog w K mg base CX0 3 _ _ ["a", "b"] spOverIs := ok_overis F18 T gO k5 b5 m5 gI k15 b15 m15
  have gU : FnOk l.prog w K mg base CX0 2 _ _ ["a"] spRounded := ok_rounded F19 gW k8 b8 m8 gE k9 b9 m9 gN k13 b13 m13
  exact ok_law F20 T ⟨_, _, gB, k10, b10, m10⟩ ⟨_, _, gK, k16, b16, m16⟩ ⟨_, _, gR, k17, b17, m17⟩ ⟨_, _, gF, k1, b1, m1⟩ ⟨_, _, gI, k15, b15, m15⟩ ⟨_, _, gP, k2, b2, m2⟩ ⟨_, _, gM, k3, b3, m3⟩ ⟨_, _, gX, k4, b4, m4⟩ ⟨_, _, gQ, k18, b18, m18⟩ ⟨_, _, gC, k6, b6, m6⟩ ⟨_, _, gN, k13, b13, m13⟩ ⟨_, _, gG, k7, b7, m7⟩ ⟨_, _, gU, k19, b19, m19⟩
end My
open PySem PySem.W PyProof.Rows
set_option maxRecDepth 100000 in
set_option maxHeartbeats 0 in
theorem PySem.Challenge.cw_tensorcompiler_k01_fractions_are_exact_holds : PySem.Challenge.rw_tensorcompiler_k01_fractions_are_exact.Holds := by
  w_on; o_law; k_head; (case hw => w_witness2)
  k_fill
  refine L2.walk_of (l := PySem.Challenge.rw_tensorcompiler_k01_fractions_are_exact) (n := 63) (k := 4) (x := "script") (CX := fun _ => L2.CX0) (sp := fun w => My.spLaw _) rfl (by decide) rfl ⟨rfl, by decide, by decide⟩ (fun w h Y => PySem.W.kIn_of Y) ?F (fun _ _ a ns hl _ hS => ⟨a, ns, rfl, hS, hl, fun _ => rfl⟩) (fun _ _ _ _ _ h => h)
  case F =>
    intro w mg fa h KX G hmg
    refine' My.all_mk KX G hmg ?a1 ?l1 ?c1 ?k1 ?a2 ?l2 ?c2 ?k2 ?a3 ?l3 ?c3 ?k3 ?a4 ?l4 ?c4 ?k4 ?a5 ?l5 ?c5 ?k5 ?a6 ?l6 ?c6 ?k6 ?a7 ?l7 ?c7 ?k7 ?a8 ?l8 ?c8 ?k8 ?a9 ?l9 ?c9 ?k9 ?a10 ?l10 ?c10 ?k10 ?a11 ?l11 ?c11 ?k11 ?a12 ?l12 ?c12 ?k12 ?a13 ?l13 ?c13 ?k13 ?a14 ?l14 ?c14 ?k14 ?a15 ?l15 ?c15 ?k15 ?a16 ?l16 ?c16 ?k16 ?a17 ?l17 ?c17 ?k17 ?a18 ?l18 ?c18 ?k18 ?a19 ?l19 ?c19 ?k19 ?a20 ?l20 ?c20 ?k20 ?aEcZ ?kEcZ ?bEcZ ?tEcZ ?hEcZ ?aEcT ?kEcT ?bEcT ?tEcT ?hEcT ?aEcX ?xZ ?sZT ?sZZ ?i1 ?i2 ?i3 ?i4 ?i5 ?i6 ?sZV ?sZX ?hEcX ?tEcX ?gcd ?z_int ?z_abs ?z_len ?z_list ?z_tuple ?z_range ?z_isinstance ?z_bool ?z_ValueError
    (case a1 => k_is); (case l1 => k_is); (case c1 => k_is); (case k1 => k_is); (case a2 => k_is); (case l2 => k_is); (case c2 => k_is); (case k2 => k_is); (case a3 => k_is); (case l3 => k_is); (case c3 => k_is); (case k3 => k_is); (case a4 => k_is); (case l4 => k_is); (case c4 => k_is); (case k4 => k_is); (case a5 => k_is); (case l5 => k_is); (case c5 => k_is); (case k5 => k_is); (case a6 => k_is); (case l6 => k_is); (case c6 => k_is); (case k6 => k_is); (case a7 => k_is); (case l7 => k_is); (case c7 => k_is); (case k7 => k_is); (case a8 => k_is); (case l8 => k_is); (case c8 => k_is); (case k8 => k_is); (case a9 => k_is); (case l9 => k_is); (case c9 => k_is); (case k9 => k_is); (case a10 => k_is); (case l10 => k_is); (case c10 => k_is); (case k10 => k_is); (case a11 => k_is); (case l11 => k_is); (case c11 => k_is); (case k11 => k_is); (case a12 => k_is); (case l12 => k_is); (case c12 => k_is); (case k12 => k_is); (case a13 => k_is); (case l13 => k_is); (case c13 => k_is); (case k13 => k_is); (case a14 => k_is); (case l14 => k_is); (case c14 => k_is); (case k14 => k_is); (case a15 => k_is); (case l15 => k_is); (case c15 => k_is); (case k15 => k_is); (case a16 => k_is); (case l16 => k_is); (case c16 => k_is); (case k16 => k_is); (case a17 => k_is); (case l17 => k_is); (case c17 => k_is); (case k17 => k_is); (case a18 => k_is); (case l18 => k_is); (case c18 => k_is); (case k18 => k_is); (case a19 => k_is); (case l19 => k_is); (case c19 => k_is); (case k19 => k_is); (case a20 => k_is); (case l20 => k_is); (case c20 => k_is); (case k20 => k_is); (case aEcZ => k_is); (case kEcZ => k_is); (case bEcZ => k_is); (case tEcZ => k_is); (case hEcZ => k_is); (case aEcT => k_is); (case kEcT => k_is); (case bEcT => k_is); (case tEcT => k_is); (case hEcT => k_is); (case aEcX => k_is); (case xZ => k_exc); (case sZT => k_is); (case sZZ => first | rfl | k_is); (case i1 => k_is); (case i2 => k_is); (case i3 => k_is); (case i4 => k_is); (case i5 => k_is); (case i6 => k_is); (case sZV => k_is); (case sZX => k_is); (case hEcX => k_is); (case tEcX => k_is); (case gcd => k_is); (case z_int => k_is); (case z_abs => k_is); (case z_len => k_is); (case z_list => k_is); (case z_tuple => k_is); (case z_range => k_is); (case z_isinstance => k_is); (case z_bool => k_is); (case z_ValueError => k_is)
