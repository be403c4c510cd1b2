import PyProof.Rows.All
import Wide.All
import OpenK.AllK
import Wide.FinOn
import HandS.ForMost
import HandS.Wide
import HandS.Evl
import HandS.Exc
import HandS.ExcOwn
import HandS.TryOnly
import HandS.WordsExc
import HandS.ExcIs
import HandS.IsInst
import HandS.RaiseMore
import HandS.FStr
import HandS.Zip
import HandS.Gcd
import HandS.Wide
import HandS.Walk
import HandS.RevRange
import PySem.Challenge.RW_tensorcompiler_k62_multipliers_and_codes
set_option Elab.async false
set_option linter.all false
set_option maxRecDepth 100000
set_option maxHeartbeats 4000000
namespace My
open PySem L2
/-! ### the text -/
def topS (i : Nat) : Stmt := PySem.Challenge.pw_tensorcompiler_k62_multipliers_and_codes.main.body.getD i (.Pass ⟨0, 0, 0, 0⟩)
abbrev sLimit : Stmt := topS 7
abbrev sBits : Stmt := topS 9
abbrev sEnds : Stmt := topS 10
abbrev sFrac : Stmt := topS 12
abbrev sTimes : Stmt := topS 13
abbrev sOver : Stmt := topS 14
abbrev sNear : Stmt := topS 15
abbrev sMult : Stmt := topS 19
abbrev sCode : Stmt := topS 20
abbrev sMean : Stmt := topS 21
abbrev sBegin : Stmt := topS 23
abbrev sTake : Stmt := topS 24
abbrev sSigned : Stmt := topS 25
abbrev sInt : Stmt := topS 26
abbrev sLGcd : Stmt := topS 27
abbrev sLFrac : Stmt := topS 28
abbrev sLSum : Stmt := topS 29
abbrev sLGap : Stmt := topS 30
abbrev sLOver : Stmt := topS 31
abbrev sLNear : Stmt := topS 32
abbrev sLMult : Stmt := topS 33
abbrev sLEnds : Stmt := topS 34
abbrev sLMeans : Stmt := topS 35
abbrev sTold : Stmt := topS 36
abbrev sCoded : Stmt := topS 37
abbrev sDrawn : Stmt := topS 38
abbrev sLaw : Stmt := topS 39
structure Calls (P : Program) (w : World) (K : PySem.W.Frag) (mg : Str → Option Value) (base : Heap) (CX : CXT) (k : Nat) (name : Str) (ps : List Str) (sp : Sp) : Prop where
  ex : ∃ (f : Addr) (fd : FuncData), FnOk P w K mg base CX k f fd ps sp ∧ PySem.W.keepIn K (.ref f) = true ∧ Binds K fd ps [] ∧ mg name = some (.ref f)
/-! ### own errors -/
abbrev valErr : List Value := [.type "ValueError", .type "Exception", .type "BaseException", .type "object"]
/-- what the written part says of an error class that is raised -/
structure ErrR (K : PySem.W.Frag) (mg : Str → Option Value) (n : Str) (C : Addr) : Prop where
  g : mg n = some (.ref C)
  x : PySem.W.excIn K C valErr "ValueError.__new__" = true
  k : PySem.W.keepIn K (.ref C) = true
  b : PySem.W.subIn K (.ref C) (.type "BaseException") = some true
  t : PySem.W.typeIn K (.ref C) = some (.type "type")
/-- of one that an except clause names -/
structure ErrN (K : PySem.W.Frag) (mg : Str → Option Value) (n : Str) (C : Addr) : Prop where
  g : mg n = some (.ref C)
  b : PySem.W.subIn K (.ref C) (.type "BaseException") = some true
  h : PySem.W.hasDictIn K C = true
  t : PySem.W.typeIn K (.ref C) = some (.type "type")
theorem ErrN.ex {K : PySem.W.Frag} {mg : Str → Option Value} {n : Str} {C : Addr} (e : ErrN K mg n C) {cls : Value} {r : Bool} (s : PySem.W.subIn K cls (.ref C) = some r) : PySem.W.exmOne K cls (.ref C) = some r := PySem.W.exm_ref e.b e.h e.t s
theorem pss_if {X : Cx} {sts : List Stmt} {t : TS} {P : Prop} (h : P → PSs X sts t) : PSs X sts (fun D σ H => P ∧ t D σ H) := ⟨fun pins s σ H D I hh => (h hh.1).run pins s σ H D I hh.2⟩
theorem kit_rr {K : PySem.W.Frag} {Z C : Addr} {r : Bool} (s : PySem.W.subIn K (.ref Z) (.ref C) = some r) (z : PySem.W.subIn K (.ref Z) (.ref Z) = some true) (h : PySem.W.hasDictIn K C = true) (t : PySem.W.typeIn K (.ref C) = some (.type "type")) : PySem.W.kitOne K (.ref Z) (.ref C) = some r := by
  have hc : (PySem.W.clsIn K C).isSome = true := by
    unfold PySem.W.hasDictIn at h
    cases e : PySem.W.clsIn K C with
    | none => rw [e] at h; cases h
    | some _ => rfl
  have e2 : ((PySem.W.clsIn K C).isSome && PySem.W.typeIn K (.ref C) == some (.type "type")) = true := by rw [hc, t] <;> rfl
  show (if (Value.ref Z == Value.ref C) = true then some true else (if ((PySem.W.clsIn K C).isSome && PySem.W.typeIn K (.ref C) == some (.type "type")) = true then PySem.W.subIn K (.ref Z) (.ref C) else none)) = some r
  by_cases g : (Value.ref Z == Value.ref C) = true
  · rw [if_pos g]
    have e : Value.ref Z = Value.ref C := beq_iff_eq.mp g
    rw [← e, z] at s
    exact s
  · rw [if_neg g, if_pos e2]
    exact s
theorem kit_rt {K : PySem.W.Frag} {Z : Addr} {T : String} {r : Bool} (s : PySem.W.subIn K (.ref Z) (.type T) = some r) (m : PySem.W.kitMeta T = true) : PySem.W.kitOne K (.ref Z) (.type T) = some r := by
  have g : (Value.ref Z == Value.type T) = false := rfl
  show (if (Value.ref Z == Value.type T) = true then some true else (if PySem.W.kitMeta T = true then PySem.W.subIn K (.ref Z) (.type T) else none)) = some r
  rw [g, if_neg Bool.false_ne_true, if_pos m]
  exact s
/-- the suite of an except clause, by what is known when it is reached -/
def tSu (X : Cx) (sts : List Stmt) : Addr → Value → Option Addr → TS := fun a cls d D σ H => ∀ (oe : Obj) (pn : List (Addr × Obj)), Zc cls d oe → (∃ vs, oe.data = .fields vs) → ∃ t, PSs (X.suite a ((a, oe) :: pn)) sts t ∧ t D σ H
theorem su_ok {X : Cx} {sts : List Stmt} {a : Addr} {cls : Value} {d : Option Addr} {oe : Obj} {pn : List (Addr × Obj)} (hz : Zc cls d oe) (hf : ∃ vs, oe.data = .fields vs) : PSs (X.suite a ((a, oe) :: pn)) sts (tSu X sts a cls d) :=
  ⟨fun pins s σ H D I h => by
    obtain ⟨t, p, q⟩ := h oe pn hz hf
    exact p.run pins s σ H D I q⟩
/-! ### bounds -/
/-- below 2 ^ n in size -/
def Bg (n : Nat) (x : Int) : Prop := x.natAbs < 2 ^ n
theorem Bg.mono {n m : Nat} {x : Int} (h : Bg n x) (l : n ≤ m) : Bg m x := Nat.lt_of_lt_of_le h (Nat.pow_le_pow_right (by decide) l)
theorem Bg.mul {n m : Nat} {x y : Int} (h : Bg n x) (k : Bg m y) : Bg (n + m) (x * y) := wide_lt h k
theorem Bg.add {n : Nat} {x y : Int} (h : Bg n x) (k : Bg n y) : Bg (n + 1) (x + y) := by
  unfold Bg at *
  rw [Nat.pow_succ]
  omega
theorem Bg.sub {n : Nat} {x y : Int} (h : Bg n x) (k : Bg n y) : Bg (n + 1) (x - y) := by
  unfold Bg at *
  rw [Nat.pow_succ]
  omega
theorem Bg.cmul {n m : Nat} {x y : Int} (h : Bg n x) (k : Bg m y) (n0 : 0 < n) (m0 : 0 < m) (l : n + m ≤ 1000000) : CMulW x y := wide_mul h k n0 m0 l
def CDivX (_ j : Int) : Prop := j ≠ 0 ∧ j.natAbs.log2 < 9000
theorem op_fdivX {X : Cx} : OpR X (binaryOp .FloorDiv) (rI CDivX fun i j => .int (i.fdiv j)) := opI fun i j _ _ _ _ _ hc q =>
  PyProof.Rows.floordiv_int hc.1 q (.inl (PyProof.noPylong_of_log2 hc.2))
theorem Bg.div {n : Nat} {x y : Int} (h : Bg n y) (h0 : y ≠ 0) (n0 : 0 < n) (l : n ≤ 9000) : CDivX x y := ⟨h0, Nat.lt_of_lt_of_le (PySem.Flt.log2_lt_of n0 h) l⟩
theorem Bg.divW {n : Nat} {x y : Int} (h : Bg n y) (h0 : 0 < y) (n0 : 0 < n) (l : n ≤ 9000) : CDivW x y := wide_div h0 h n0 l
def gi (a b : Int) : Int := ((Nat.gcd a.natAbs b.natAbs : Nat) : Int)
def dv (a b : Int) : Int := if b < 0 then -(gi a b) else gi a b
/-- n / m is t / b in lowest terms -/
structure Frc (n m t b : Int) : Prop where
  pos : 1 ≤ m
  eq : n * b = t * m
  low : gi n m = 1
theorem gi_pos {a b : Int} (h : b ≠ 0) : 1 ≤ gi a b := by
  have : 0 < Nat.gcd a.natAbs b.natAbs := Nat.gcd_pos_of_pos_right _ (by omega)
  unfold gi
  omega
theorem gi_dvd_l (a b : Int) : gi a b ∣ a := Int.natAbs_dvd_natAbs.mp (by unfold gi; rw [Int.natAbs_natCast]; exact Nat.gcd_dvd_left _ _)
theorem gi_dvd_r (a b : Int) : gi a b ∣ b := Int.natAbs_dvd_natAbs.mp (by unfold gi; rw [Int.natAbs_natCast]; exact Nat.gcd_dvd_right _ _)
theorem dv_ne {a b : Int} (h : b ≠ 0) : dv a b ≠ 0 := by
  have := gi_pos (a := a) h
  unfold dv
  split <;> omega
theorem dv_abs (a b : Int) : (dv a b).natAbs = Nat.gcd a.natAbs b.natAbs := by
  unfold dv gi
  split
  · rw [Int.natAbs_neg, Int.natAbs_natCast]
  · rw [Int.natAbs_natCast]
theorem dv_l (a b : Int) : a.fdiv (dv a b) * dv a b = a := by
  have : dv a b ∣ a := by
    unfold dv
    split
    · exact Int.neg_dvd.mpr (gi_dvd_l a b)
    · exact gi_dvd_l a b
  exact Int.fdiv_mul_cancel this
theorem dv_r (a b : Int) : b.fdiv (dv a b) * dv a b = b := by
  have : dv a b ∣ b := by
    unfold dv
    split
    · exact Int.neg_dvd.mpr (gi_dvd_r a b)
    · exact gi_dvd_r a b
  exact Int.fdiv_mul_cancel this
theorem frc {a b : Int} (h : b ≠ 0) : Frc (a.fdiv (dv a b)) (b.fdiv (dv a b)) a b := by
  have e1 := dv_l a b
  have e2 := dv_r a b
  have h0 := dv_ne (a := a) h
  have hg := gi_pos (a := a) h
  have hd : (0 < dv a b ∧ 0 < b) ∨ (dv a b < 0 ∧ b < 0) := by
    unfold dv
    split
    · right; omega
    · left; omega
  have ha := dv_abs a b
  generalize dv a b = d at *
  generalize a.fdiv d = n at *
  generalize b.fdiv d = m at *
  refine ⟨?_, ?_, ?_⟩
  · rcases hd with ⟨d0, b0⟩ | ⟨d0, b0⟩
    · by_cases g : 1 ≤ m
      · exact g
      · have : m * d ≤ 0 * d := Int.mul_le_mul_of_nonneg_right (by omega) (by omega)
        omega
    · by_cases g : 1 ≤ m
      · exact g
      · have : m * d ≥ 0 := by
          have := Int.mul_nonneg (show 0 ≤ -m by omega) (show 0 ≤ -d by omega)
          rw [Int.neg_mul_neg] at this
          exact this
        omega
  · rw [← e1, ← e2, Int.mul_left_comm n m d, Int.mul_comm m (n * d)]
  · have k : Nat.gcd n.natAbs m.natAbs * d.natAbs = d.natAbs := by
      rw [← Nat.gcd_mul_right, ← Int.natAbs_mul, ← Int.natAbs_mul, e1, e2, ha]
    have k0 : 0 < d.natAbs := by omega
    have : Nat.gcd n.natAbs m.natAbs = 1 := Nat.eq_of_mul_eq_mul_right k0 (by rw [k, Nat.one_mul])
    unfold gi
    omega
/-- the parts are not greater than what was given -/
theorem fdiv_bg {n : Nat} {a d : Int} (h : Bg n a) (e : a.fdiv d * d = a) (h0 : d ≠ 0) : Bg n (a.fdiv d) := by
  unfold Bg at *
  have : a.natAbs = (a.fdiv d).natAbs * d.natAbs := by rw [← Int.natAbs_mul, e]
  have k : (a.fdiv d).natAbs * 1 ≤ (a.fdiv d).natAbs * d.natAbs := Nat.mul_le_mul_left _ (by omega)
  omega
theorem dv_bg {n : Nat} {a b : Int} (h : Bg n b) (h0 : b ≠ 0) : Bg n (dv a b) := by
  unfold Bg at *
  rw [dv_abs]
  exact Nat.lt_of_le_of_lt (Nat.gcd_le_right _ (by omega)) h
theorem gi_step {a b : Int} (ha : 0 ≤ a) (hb : 0 < b) : gi b (a % b) = gi a b := by
  unfold gi
  have e : (a % b).natAbs = a.natAbs % b.natAbs := by
    have h1 : ((a % b).natAbs : Int) = ((a.natAbs % b.natAbs : Nat) : Int) := by
      rw [Int.natCast_emod, Int.natAbs_of_nonneg (Int.emod_nonneg _ (by omega)), Int.natAbs_of_nonneg ha, Int.natAbs_of_nonneg (by omega)]
    exact Int.ofNat.inj h1
  rw [e, Nat.gcd_comm b.natAbs, ← Nat.gcd_rec, Nat.gcd_comm]
theorem gi_abs (a b : Int) : gi (if a < 0 then -a else a) (if b < 0 then -b else b) = gi a b := by
  unfold gi
  have e : ∀ x : Int, (if x < 0 then -x else x).natAbs = x.natAbs := fun x => by split <;> omega
  rw [e, e]
theorem gi_zero {a : Int} (ha : 0 ≤ a) : gi a 0 = a := by
  unfold gi
  rw [Int.natAbs_zero, Nat.gcd_zero_right]
  omega
/-! ### drawing -/
/-- all but one place stands as it was -/
def But (d : Addr) (H H' : Hp) : Prop := ∀ b, b ≠ d → H' b = H b
theorem But.refl (d : Addr) (H : Hp) : But d H H := fun _ _ => rfl
theorem But.trans {d : Addr} {H H1 H2 : Hp} (a : But d H H1) (b : But d H1 H2) : But d H H2 := fun c h => (b c h).trans (a c h)
theorem But.upd {d : Addr} {H : Hp} {o : HO} : But d H (upd H d o) := fun _ h => upd_ne h
/-- the drawing state -/
def DrAt (H : Hp) (d c : Addr) : Prop := ∃ (ns : List Int) (i : Nat) (r s : Int), c ≠ d ∧ H d = some (.lst [.ref c, .int i, .int r, .int s]) ∧ H c = some (.lst (ns.map V.int)) ∧ i ≤ ns.length ∧ 0 ≤ r ∧ 0 ≤ s ∧ s < 2147483647
theorem DrAt.same {H H' : Hp} {d c : Addr} (h : DrAt H d c) (s : Same H H') : DrAt H' d c := by
  obtain ⟨ns, i, r, sd, n, h1, h2, h3⟩ := h
  exact ⟨ns, i, r, sd, n, s _ _ h1, s _ _ h2, h3⟩
theorem DrAt.lst {H : Hp} {d c : Addr} (h : DrAt H d c) : ∃ xs, H d = some (.lst xs) := by
  obtain ⟨ns, i, r, sd, n, h1, _⟩ := h
  exact ⟨_, h1⟩
theorem DrAt.lstc {H : Hp} {d c : Addr} (h : DrAt H d c) : ∃ xs, H c = some (.lst xs) := by
  obtain ⟨ns, i, r, sd, n, _, h1, _⟩ := h
  exact ⟨_, h1⟩
/-- another list may be changed -/
theorem DrAt.upd {H : Hp} {d c p : Addr} (h : DrAt H d c) (o : HO) (nd : p ≠ d) (nc : p ≠ c) : DrAt (upd H p o) d c := by
  obtain ⟨ns, i, r, sd, n, h1, h2, h3⟩ := h
  exact ⟨ns, i, r, sd, n, by rw [upd_ne nd.symm]; exact h1, by rw [upd_ne nc.symm]; exact h2, h3⟩
/-- what is no list is kept by a draw -/
theorem But.tup {d c b : Addr} {H H' : Hp} {xs : List V} (k : But d H H') (h : DrAt H d c) (hb : H b = some (.tup xs)) : H' b = some (.tup xs) := by
  obtain ⟨ys, hd⟩ := h.lst
  rw [k b (ne_of hb hd (fun z => nomatch z))]
  exact hb
def Bnd (m : Int) : Prop := m < 2 ^ 400
structure TxtD (mg : Str → Option Value) : Prop where
  int : mg "int" = none
  abs : mg "abs" = none
  len : mg "len" = none
  list : mg "list" = none
section
variable {P : Program} {w : World} {K : PySem.W.Frag} {mg : Str → Option Value} {base : Heap}
def spBegin (K : PySem.W.Frag) : Sp := fun vs H Q _ => ∃ (a : Addr) (ns : List Int), vs = [.ref a] ∧ SqL K H a (ns.map V.int) ∧ ns.length ≤ 63 ∧
  ∀ H' d c, Same H H' → H d = none → H c = none → DrAt H' d c → Q (.ref d) H'
theorem scB : FnScope ["script", "seed", "cell"] ["script"] (defScope sBegin) := ⟨rfl, rfl, rfl, by decide +kernel, rfl, by decide +kernel, by decide +kernel⟩
theorem ok_begin {f : Addr} {fd : FuncData} (F : Fun K "_law_begin" "_law_begin" sBegin f fd) (T : TxtD mg) : FnOk P w K mg base CX0 1 f fd ["script"] (spBegin K) := by
  refine F.ok scB (fun vs H Q E h => ?_) (fun cdv A outer s H vs Q E hr h => ?_)
  · obtain ⟨a, ns, rfl, _⟩ := h
    rfl
  · obtain ⟨a, ns, rfl, hS, hlen, q⟩ := h
    refine ⟨_, pss_cons (ps_set (i := 1) scB.nd rfl (.inl rfl) pe_int)
      (pss_cons (ps_for PassesOwn.never rfl (pi_list (pv 0)) (pg_name (i := 2) scB.nd rfl (.inl rfl))
        (pss_one (ps_set (i := 1) scB.nd rfl (.inl rfl)
          (pe_op op_mod (pe_op op_add (pe_op op_add (pe_op op_mul (pv 1) pe_int) (pe_op op_mod (pe_callTy call_int1 (by rfl) T.int (by decide +kernel) (pa_cons (pv 2) pa_nil)) pe_int)) pe_int) pe_int))))
      (pss_one (ps_ret (pe_lst (pa_cons (pe_callTy call_list_of (by rfl) T.list (by decide +kernel) (pa_cons (pv 0) pa_nil)) (pa_cons pe_int (pa_cons pe_int (pa_cons (pv 1) pa_nil)))))))), ?_⟩
    refine ⟨_, rfl, a, rfl, ⟨_, hS⟩, for_list (K := K) (a := a) (xs := ns.map V.int) (fun i σ H' => ∃ (z : Int) (v : Option V), σ = [some (.ref a), some (.int z), v] ∧ H' = H ∧ 0 ≤ z ∧ z < 2147483647)
      ⟨1, none, rfl, rfl, by decide, by decide⟩ (fun i σ H' _ ⟨_, _, _, e, _⟩ => by rw [e]; exact hS) ?_ ?_⟩
    · rintro i x σ H' hi ⟨z, v, rfl, rfl, h0, h1⟩
      obtain ⟨u, rfl⟩ : ∃ u, x = V.int u := by
        rw [List.getElem?_map] at hi
        cases e : ns[i]? with
        | none => rw [e] at hi; cases hi
        | some u => rw [e] at hi; exact ⟨u, (Option.some.inj hi).symm⟩
      refine ⟨_, rfl, _, _, rfl, rfl, .inl ⟨by omega, by omega⟩, _, rfl, .inl ⟨_, rfl, _, _, rfl, rfl, (by show (0 : Int) < 2147483629; decide), _, _, rfl, rfl, _, _, rfl, rfl, _, _, rfl, rfl, (by show (0 : Int) < 2147483647; decide), ?_⟩⟩
      exact ⟨_, _, rfl, rfl, Int.emod_nonneg _ (by decide), Int.emod_lt_of_pos _ (by decide)⟩
    · rintro σ H' ⟨z, v, rfl, rfl, h0, h1⟩
      refine ⟨_, rfl, a, _, rfl, .inl hS, fun c nc => ⟨_, rfl, by show 4 ≤ sizeLine; decide, fun d nd => ?_⟩⟩
      have ndc : d ≠ c := fun e => by
        rw [e, upd_same] at nd
        cases nd
      have nd0 : H' d = none := by
        rw [upd_ne ndc] at nd
        exact nd
      refine q _ d c (fun b o e => ?_) nd0 nc ⟨ns, 0, 0, z, ndc.symm, upd_same, ?_, Nat.zero_le _, by decide, h0, h1⟩
      · rw [upd_ne (ne_of_none e nd0), upd_ne (ne_of_none e nc)]
        exact e
      · rw [upd_ne ndc.symm, upd_same]
def spTake : Sp := fun vs H Q _ => ∃ (d c : Addr) (m : Int), vs = [.ref d, .int m] ∧ DrAt H d c ∧ 0 < m ∧ Bnd m ∧
  ∀ H' v, But d H H' → DrAt H' d c → 0 ≤ v → v < m → Q (.int v) H'
theorem scT : FnScope ["d", "many", "small", "digit"] ["d", "many"] (defScope sTake) := ⟨rfl, rfl, rfl, by decide +kernel, rfl, by decide +kernel, by decide +kernel⟩
theorem at0 {a b c e : V} : atI [a, b, c, e] (0 : Int) = some a := rfl
theorem at1 {a b c e : V} : atI [a, b, c, e] (1 : Int) = some b := rfl
theorem at2 {a b c e : V} : atI [a, b, c, e] (2 : Int) = some c := rfl
theorem at3 {a b c e : V} : atI [a, b, c, e] (3 : Int) = some e := rfl
theorem bnd_nat {m : Int} (h0 : 0 < m) (h : Bnd m) : m.natAbs < 2 ^ 400 := by
  have e : ((2 ^ 400 : Nat) : Int) = 2 ^ 400 := by decide +kernel
  unfold Bnd at h
  generalize (2 ^ 400 : Nat) = B at *
  omega
theorem bndW {r m : Int} (h0 : 0 < m) (h : Bnd m) : CDivW r m := wide_div (b := 400) h0 (bnd_nat h0 h) (by decide) (by decide)
theorem ok_take {f : Addr} {fd : FuncData} (F : Fun K "_law_take" "_law_take" sTake f fd) (T : TxtD mg) : FnOk P w K mg base CX0 1 f fd ["d", "many"] spTake := by
  refine F.ok scT (fun vs H Q E h => ?_) (fun cdv A outer s H vs Q E hr h => ?_)
  · obtain ⟨d, c, m, rfl, _⟩ := h
    rfl
  · obtain ⟨d, c, m, rfl, ⟨ns, i, r, sd, ncd, hd, hc, hi, hr0, hs0, hs1⟩, hm, hb, q⟩ := h
    refine ⟨_, Evl.pss_cut (ps_if (PW.pt (pw_and (pt_cmpR op_eq (pe_ix ix_list (pv 0) pe_int (fun _ _ => rfl)) pe_int (nomark _))
        (pw_and1 (pt_cmpR op_lt (pe_ix ix_list (pv 0) pe_int (fun _ _ => rfl)) (pe_callB call_len_seq (by rfl) T.len PySem.boot_len (pa_cons (pe_ix ix_list (pv 0) pe_int (fun _ _ => rfl)) pa_nil)) (nomark _)))))
        (pss_cons (ps_asg (pe_callB call_abs (by rfl) T.abs (by decide +kernel) (pa_cons (pe_callTy call_int1 (by rfl) T.int (by decide +kernel) (pa_cons (pe_ix ix_list (pe_ix ix_list (pv 0) pe_int (fun _ _ => rfl)) (pe_ix ix_list (pv 0) pe_int (fun _ _ => rfl)) (fun _ _ => rfl)) pa_nil)) pa_nil)) (pg_sub (pv 0) pe_int set_list))
        (pss_cons (ps_asg (pe_op op_add (pe_ix ix_list (pv 0) pe_int (fun _ _ => rfl)) pe_int) (pg_sub (pv 0) pe_int set_list))
        (pss_one (ps_if (pt_cmpR op_lt (pe_ix ix_list (pv 0) pe_int (fun _ _ => rfl)) (pe_op op_pow pe_int pe_int) (nomark _))
          (pss_cons (ps_set (i := 2) scT.nd rfl (.inl rfl) (pe_callTy call_int1 (by rfl) T.int (by decide +kernel) (pa_cons (pe_ix ix_list (pv 0) pe_int (fun _ _ => rfl)) pa_nil)))
          (pss_cons (ps_asg pe_int (pg_sub (pv 0) pe_int set_list))
          (pss_one (ps_ret (pe_op op_mod (pv 2) (pv 1))))))
          pss_nil))))
        pss_nil)
      (pss_cons (ps_if (pt_cmpR op_gt (pe_ix ix_list (pv 0) pe_int (fun _ _ => rfl)) pe_int (nomark _))
        (pss_cons (ps_set (i := 3) scT.nd rfl (.inl rfl) (pe_op op_mod (pe_callTy call_int1 (by rfl) T.int (by decide +kernel) (pa_cons (pe_ix ix_list (pv 0) pe_int (fun _ _ => rfl)) pa_nil)) (pv 1)))
        (pss_cons (ps_asg (pe_op op_fdivW (pe_callTy call_int1 (by rfl) T.int (by decide +kernel) (pa_cons (pe_ix ix_list (pv 0) pe_int (fun _ _ => rfl)) pa_nil)) (pv 1)) (pg_sub (pv 0) pe_int set_list))
        (pss_one (ps_ret (pv 3)))))
        pss_nil)
      (pss_cons (ps_asg (pe_op op_mod (pe_callTy call_int1 (by rfl) T.int (by decide +kernel) (pa_cons (pe_op op_add (pe_op op_mul (pe_ix ix_list (pv 0) pe_int (fun _ _ => rfl)) pe_int) pe_int) pa_nil)) pe_int) (pg_sub (pv 0) pe_int set_list))
      (pss_one (ps_ret (pe_op op_mod (pe_callTy call_int1 (by rfl) T.int (by decide +kernel) (pa_cons (pe_op op_fdiv (pe_ix ix_list (pv 0) pe_int (fun _ _ => rfl)) pe_int) pa_nil)) (pv 1)))))), ?_⟩
    refine ⟨fun σ' H' => ∃ (i r sd : Int) (x2 : Option V) (i' : Nat), σ' = [some (.ref d), some (.int m), x2, none] ∧ H' = upd H d (.lst [.ref c, .int i, .int r, .int sd]) ∧ i = i' ∧ i' ≤ ns.length ∧ 0 ≤ r ∧ 0 ≤ sd ∧ sd < 2147483647, ?_, ?_⟩
    · have same : H = upd H d (.lst [.ref c, .int i, .int r, .int sd]) := by
        funext b
        by_cases e : b = d
        · rw [e, upd_same, hd]
        · rw [upd_ne e]
      refine ⟨_, rfl, d, _, 2, _, rfl, rfl, SqL.of hd, at2, rfl, _, rfl, ite2 (fun e => ?_) (fun e => ?_)⟩
      · refine ⟨_, rfl, d, _, 1, _, rfl, rfl, SqL.of hd, at1, _, rfl, d, _, 0, _, rfl, rfl, SqL.of hd, at0, c, _, rfl, .inl (SqL.of hc), _, _, rfl, rfl, _, rfl, ite2 (fun e2 => ?_) (fun e2 => ?_)⟩
        · have hlt : i < ns.length := by
            have := of_decide_eq_true e2
            rw [List.length_map] at this
            omega
          have hx : (ns.map V.int)[i]? = some (.int ns[i]) := by
            rw [List.getElem?_map, List.getElem?_eq_getElem hlt]
            rfl
          generalize ns[i] = x at hx
          have hcd : ∀ o, (upd H d o) c = some (.lst (ns.map V.int)) := fun o => by rw [upd_ne ncd]; exact hc
          have habs : 0 ≤ (if x < 0 then -x else x) := by split <;> omega
          -- d[2] = abs(int(d[0][d[1]]))
          refine ⟨_, rfl, d, _, 0, _, rfl, rfl, SqL.of hd, at0, _, rfl, d, _, 1, _, rfl, rfl, SqL.of hd, at1, c, _, _, _, rfl, rfl, SqL.of hc, atI_nat hx, .inl ⟨x, rfl, x, rfl, _, rfl, d, _, 2, 2, rfl, rfl, hd, rfl, ?_⟩⟩
          generalize (if x < 0 then -x else x) = y at habs
          -- d[1] = d[1] + 1
          refine ⟨_, rfl, d, _, 1, _, rfl, rfl, SqL.of upd_same, at1, _, _, rfl, rfl, _, rfl, d, _, 1, 1, rfl, rfl, upd_same, rfl, ?_⟩
          rw [upd_upd]
          -- if d[2] < 10 ** 18
          refine ⟨_, rfl, d, _, 2, _, rfl, rfl, SqL.of upd_same, at2, 10, 18, rfl, rfl, ⟨by decide, by decide, by decide⟩, _, _, rfl, rfl, _, rfl, ite2 (fun e3 => ?_) (fun e3 => ?_)⟩
          · refine ⟨_, rfl, d, _, 2, _, rfl, rfl, SqL.of upd_same, at2, .inl ⟨_, rfl, _, rfl, d, _, 2, 2, rfl, rfl, upd_same, rfl, ?_⟩⟩
            rw [upd_upd]
            refine ⟨_, rfl, _, rfl, _, _, rfl, rfl, hm, ?_⟩
            exact q _ _ But.upd ⟨ns, i + 1, 0, sd, ncd, upd_same, hcd _, hlt, by decide, hs0, hs1⟩ (Int.emod_nonneg _ (by omega)) (Int.emod_lt_of_pos _ hm)
          · exact ⟨_, _, _, _, i + 1, rfl, rfl, rfl, hlt, habs, hs0, hs1⟩
        · exact ⟨_, _, _, _, i, rfl, same, rfl, hi, hr0, hs0, hs1⟩
      · exact iteF ⟨_, _, _, _, i, rfl, same, rfl, hi, hr0, hs0, hs1⟩
    · clear hd hi hr0 hs0 hs1
      rintro σ' H' ⟨i, r, sd, x2, i', rfl, rfl, rfl, hi, hr0, hs0, hs1⟩
      have hcd : ∀ o, (upd H d o) c = some (.lst (ns.map V.int)) := fun o => by rw [upd_ne ncd]; exact hc
      refine ⟨_, rfl, d, _, 2, _, rfl, rfl, SqL.of upd_same, at2, _, _, rfl, rfl, _, rfl, ite2 (fun e => ?_) (fun e => ?_)⟩
      · refine ⟨_, rfl, d, _, 2, _, rfl, rfl, SqL.of upd_same, at2, .inl ⟨_, rfl, _, rfl, _, _, rfl, rfl, hm, ?_⟩⟩
        refine ⟨_, rfl, d, _, 2, _, rfl, rfl, SqL.of upd_same, at2, .inl ⟨_, rfl, _, rfl, _, _, rfl, rfl, bndW hm hb, _, rfl, d, _, 2, 2, rfl, rfl, upd_same, rfl, ?_⟩⟩
        rw [upd_upd]
        refine ⟨_, rfl, ?_⟩
        exact q _ _ But.upd ⟨ns, i', _, sd, ncd, upd_same, hcd _, hi, Int.ediv_nonneg hr0 (by omega), hs0, hs1⟩ (Int.emod_nonneg _ (by omega)) (Int.emod_lt_of_pos _ hm)
      · refine ⟨_, rfl, d, _, 3, _, rfl, rfl, SqL.of upd_same, at3, _, _, rfl, rfl, .inl ⟨by omega, by omega⟩, _, _, rfl, rfl, .inl ⟨_, rfl, _, _, rfl, rfl, (by show (0 : Int) < 2147483647; decide), _, rfl, d, _, 3, 3, rfl, rfl, upd_same, rfl, ?_⟩⟩
        rw [upd_upd]
        refine ⟨_, rfl, d, _, 3, _, rfl, rfl, SqL.of upd_same, at3, _, _, rfl, rfl, ⟨by decide, by decide⟩, .inl ⟨_, rfl, _, rfl, _, _, rfl, rfl, hm, ?_⟩⟩
        exact q _ _ But.upd ⟨ns, i', r, _, ncd, upd_same, hcd _, hi, hr0, Int.emod_nonneg _ (by decide), Int.emod_lt_of_pos _ (by decide)⟩ (Int.emod_nonneg _ (by omega)) (Int.emod_lt_of_pos _ hm)
def spSigned : Sp := fun vs H Q _ => ∃ (d c : Addr) (m : Int), vs = [.ref d, .int m] ∧ DrAt H d c ∧ 0 ≤ m ∧ Bnd (2 * m + 1) ∧
  ∀ H' v, But d H H' → DrAt H' d c → -m ≤ v → v ≤ m → Q (.int v) H'
theorem scS : FnScope ["d", "most"] ["d", "most"] (defScope sSigned) := ⟨rfl, rfl, rfl, by decide +kernel, rfl, by decide +kernel, by decide +kernel⟩
theorem ok_signed {f fT : Addr} {fd fdT : FuncData} (F : Fun K "_law_signed" "_law_signed" sSigned f fd) (GT : FnOk P w K mg base CX0 1 fT fdT ["d", "many"] spTake) (kT : PySem.W.keepIn K (.ref fT) = true) (bT : Binds K fdT ["d", "many"] []) (gT : mg "_law_take" = some (.ref fT)) : FnOk P w K mg base CX0 2 f fd ["d", "most"] spSigned := by
  refine F.ok scS (fun vs H Q E h => ?_) (fun cdv A outer s H vs Q E hr h => ?_)
  · obtain ⟨d, c, m, rfl, _⟩ := h
    rfl
  · obtain ⟨d, c, m, rfl, dr, h0, hb, q⟩ := h
    refine ⟨_, pss_one (ps_ret (pe_op op_sub (pe_call GT hr (by rfl) gT kT bT .nil pass0 (pa_cons (pv 0) (pa_cons (pe_op op_add (pe_op op_mul pe_int (pv 1)) pe_int) pa_nil))) (pv 1))), ?_⟩
    refine ⟨_, rfl, _, rfl, _, _, rfl, rfl, .inl ⟨by omega, by omega⟩, _, _, rfl, rfl, d, c, _, rfl, dr, by omega, hb, fun H' v k dr' v0 v1 => ?_⟩
    exact ⟨_, rfl, _, _, rfl, rfl, q _ _ k dr' (by omega) (by omega)⟩
def spInt : Sp := fun vs H Q _ => ∃ (i : Int), vs = [.int i] ∧ Q (.bl true) H
theorem scN : FnScope ["actual"] ["actual"] (defScope sInt) := ⟨rfl, rfl, rfl, by decide +kernel, rfl, by decide +kernel, by decide +kernel⟩
theorem ok_int {f : Addr} {fd : FuncData} (F : Fun K "_law_int" "_law_int" sInt f fd) (mi : mg "isinstance" = none) (mn : mg "int" = none) (mb : mg "bool" = none) : FnOk P w K mg base CX0 1 f fd ["actual"] spInt := by
  refine F.ok scN (fun vs H Q E h => ?_) (fun cdv A outer s H vs Q E hr h => ?_)
  · obtain ⟨i, rfl, _⟩ := h
    rfl
  · obtain ⟨i, rfl, q⟩ := h
    refine ⟨_, pss_one (ps_ret (pe_and (pe_callB call_isi (by rfl) mi (by decide +kernel) (pa_cons (pv 0) (pa_cons (pe_bltn (v := .ty "int") (by rfl) mn (by decide +kernel) rfl) pa_nil)))
      (pe_one (pe_not (pe_callB call_isi (by rfl) mi (by decide +kernel) (pa_cons (pv 0) (pa_cons (pe_bltn (v := .ty "bool") (by rfl) mb (by decide +kernel) rfl) pa_nil))))))), ?_⟩
    refine ⟨_, rfl, _, _, _, _, true, rfl, ClsV.ty "int", TyX.base (TyOf.int i), kit_ty (by decide +kernel), _, rfl, iteT ?_⟩
    exact ⟨_, rfl, _, _, _, _, false, rfl, ClsV.ty "bool", TyX.base (TyOf.int i), kit_ty (by decide +kernel), _, rfl, q⟩
abbrev FrT (H : Hp) (p : Addr) (n m : Int) : Prop := H p = some (.tup [.int n, .int m])
theorem new_tup {H : Hp} {p : Addr} {o : HO} (h : H p = none) : Same H (upd H p o) := fun b x e => by
  rw [upd_ne (ne_of_none e h)]
  exact e
def spFrac (Z : Addr) : Sp := fun vs H Q E => ∃ a b : Int, vs = [.int a, .int b] ∧ Bg 1000 a ∧ Bg 1000 b ∧ (b = 0 → E (.ref Z) none H) ∧
  (b ≠ 0 → ∀ p, H p = none → Q (.ref p) (upd H p (.tup [.int (a.fdiv (dv a b)), .int (b.fdiv (dv a b))])))
theorem scF : FnScope ["numerator", "denominator", "divisor"] ["numerator", "denominator"] (defScope sFrac) := ⟨rfl, rfl, rfl, by decide +kernel, rfl, by decide +kernel, by decide +kernel⟩
theorem ok_frac {f Z : Addr} {fd : FuncData} (F : Fun K "fraction" "fraction" sFrac f fd) (R : ErrR K mg "ZeroDenominator" Z) (mg0 : mg "gcd" = some (.builtin "math.gcd")) :
    FnOk P w K mg base (L2.CX P w) 1 f fd ["numerator", "denominator"] (spFrac Z) := by
  refine F.okX scF (fun vs H Q E h => ?_) (fun cdv A outer s H vs Q E hr h => ?_)
  · obtain ⟨a, b, rfl, _⟩ := h
    rfl
  · obtain ⟨a, b, rfl, ha, hb, hz, q⟩ := h
    refine ⟨_, pss_cons (ps_if (pt_cmpR op_eq (pv 1) pe_int (nomark _)) (pss_one (ps_raise rfl (takes_of rfl rfl rfl rfl) (pmk_own PySem.F.excBase_ValueError R.x R.g R.k (raises_own R.b R.t) rfl))) pss_nil)
      (pss_cons (ps_set (i := 2) scF.nd rfl (.inl rfl) (pe_callBfun cr_gcd (by rfl) mg0 (pa_cons (pv 0) (pa_cons (pv 1) pa_nil))))
      (Evl.pss_cut (ps_if (pt_cmpR op_lt (pv 1) pe_int (nomark _)) (pss_one (ps_set (i := 2) scF.nd rfl (.inl rfl) (pe_un un_neg (pv 2)))) pss_nil)
      (pss_one (ps_ret (pe_tup (pa_cons (pe_op op_fdivX (pv 0) (pv 2)) (pa_cons (pe_op op_fdivX (pv 1) (pv 2)) pa_nil))))))), ?_⟩
    refine ⟨_, rfl, rfl, _, rfl, ite2 (fun e => ?_) (fun e => ?_)⟩
    · exact hz (V.int.inj (of_decide_eq_true e))
    · have hb0 : b ≠ 0 := fun z => e (decide_eq_true (by rw [z]))
      refine ⟨_, rfl, _, rfl, a, b, rfl, ?_⟩
      refine ⟨fun σ' H' => σ' = [some (.int a), some (.int b), some (.int (dv a b))] ∧ H' = H, ?_, ?_⟩
      · refine ⟨_, rfl, _, _, rfl, rfl, _, rfl, ite2 (fun e2 => ?_) (fun e2 => ?_)⟩
        · refine ⟨_, rfl, _, rfl, ?_, rfl⟩
          unfold dv
          rw [if_pos (of_decide_eq_true e2)]
          rfl
        · refine ⟨?_, rfl⟩
          unfold dv
          rw [if_neg (fun z => e2 (decide_eq_true z))]
          rfl
      · rintro σ' H' ⟨rfl, rfl⟩
        have hd := dv_bg (a := a) hb hb0
        have h0 := dv_ne (a := a) hb0
        refine ⟨_, rfl, _, rfl, _, _, rfl, rfl, hd.div h0 (by decide) (by decide), _, rfl, _, rfl, _, _, rfl, rfl, hd.div h0 (by decide) (by decide), by show 2 ≤ sizeLine; decide, fun p np => ?_⟩
        exact q hb0 p np
end
/-! ### small facts -/
theorem same_upd {H : Hp} {p : Addr} {o : HO} (h : H p = none) : Same H (upd H p o) := fun b x e => by
  rw [upd_ne (ne_of_none e h)]
  exact e
theorem sqT_same {K : PySem.W.Frag} {H H' : Hp} {a : Addr} {xs : List V} (h : SqT K H a xs) (s : Same H H') : SqT K H' a xs := by
  rcases h with (h | ⟨o, h⟩) | h
  · exact .inl (.inl (s _ _ h))
  · exact .inl (.inr ⟨o, s _ _ h⟩)
  · exact .inr h
theorem sqL_same {K : PySem.W.Frag} {H H' : Hp} {a : Addr} {xs : List V} (h : SqL K H a xs) (s : Same H H') : SqL K H' a xs := by
  rcases h with (h | ⟨o, h⟩) | h
  · exact .inl (.inl (s _ _ h))
  · exact .inl (.inr ⟨o, s _ _ h⟩)
  · exact .inr h
theorem map_int_at {ns : List Int} {i : Nat} {x : V} (h : (ns.map V.int)[i]? = some x) : ∃ n, x = .int n ∧ ns[i]? = some n := by
  rw [List.getElem?_map] at h
  cases e : ns[i]? with
  | none => rw [e] at h; cases h
  | some n => rw [e] at h; exact ⟨n, (Option.some.inj h).symm, rfl⟩
theorem map_ref_at {ns : List Addr} {i : Nat} {x : V} (h : (ns.map V.ref)[i]? = some x) : ∃ n, x = .ref n ∧ ns[i]? = some n := by
  rw [List.getElem?_map] at h
  cases e : ns[i]? with
  | none => rw [e] at h; cases h
  | some n => rw [e] at h; exact ⟨n, (Option.some.inj h).symm, rfl⟩
theorem drop_at {α : Type} {l : List α} {i : Nat} {x : α} (h : l[i]? = some x) : l.drop i = x :: l.drop (i + 1) := by
  obtain ⟨hi, e⟩ := List.getElem?_eq_some_iff.mp h
  rw [List.drop_eq_getElem_cons hi, e]
theorem take_snoc {α : Type} {l : List α} {i : Nat} {x : α} (h : l[i]? = some x) : l.take (i + 1) = l.take i ++ [x] := by
  rw [List.take_add_one, h]
  rfl
theorem txt_len (a b : Str) : (a ++ b).length = a.length + b.length := PySem.Str.length_append a b
theorem bnd_le {m : Int} (h : m ≤ 1000000) : Bnd m := by
  unfold Bnd
  have : (1000000 : Int) < 2 ^ 400 := by decide +kernel
  omega
theorem keepD {d b : Addr} {H H' : Hp} {o : HO} (k : But d H H') (h : b ≠ d) (hb : H b = some o) : H' b = some o := by rw [k b h]; exact hb
theorem atI_zero {α : Type} {x : α} {xs : List α} : atI (x :: xs) (0 : Int) = some x := by
  show ((if (0 : Int) ≤ 0 then (if (0 : Int) < ((x :: xs).length : Int) then some (Int.toNat 0) else none) else _).bind _) = _
  rw [if_pos (Int.le_refl 0), if_pos (by rw [List.length_cons]; omega)]
  rfl

/-! ### fractions -/
theorem f0 {a b : V} : atI [a, b] (0 : Int) = some a := rfl
theorem f1 {a b : V} : atI [a, b] (1 : Int) = some b := rfl
/-- the parts of t / b in lowest terms -/
abbrev fa (t b : Int) : Int := t.fdiv (dv t b)
abbrev fb (t b : Int) : Int := b.fdiv (dv t b)
def near (t b : Int) : Int := (2 * t + b) / (2 * b)
theorem dvp {t b : Int} (h : 0 < b) : dv t b = gi t b := by unfold dv; rw [if_neg (by omega)]
theorem fab {t b : Int} (h : 0 < b) : ∃ g, 0 < g ∧ fa t b * g = t ∧ fb t b * g = b ∧ 0 < fb t b := by
  have hg := gi_pos (a := t) (b := b) (by omega)
  have h1 := (frc (a := t) (b := b) (by omega)).pos
  refine ⟨gi t b, by omega, ?_, ?_, ?_⟩
  · rw [← dvp h]; exact dv_l t b
  · rw [← dvp h]; exact dv_r t b
  · show 0 < b.fdiv (dv t b)
    omega
theorem near_fab {t b : Int} (h : 0 < b) : near (fa t b) (fb t b) = near t b := by
  obtain ⟨g, hg, h1, h2, _⟩ := fab (t := t) h
  unfold near
  generalize fa t b = x at *
  generalize fb t b = y at *
  subst h1 h2
  have e1 : 2 * (x * g) + y * g = (2 * x + y) * g := by rw [Int.add_mul, Int.mul_assoc]
  have e2 : 2 * (y * g) = (2 * y) * g := by rw [Int.mul_assoc]
  rw [e1, e2, Int.mul_ediv_mul_of_pos_left _ _ hg]
theorem bga {n : Nat} {t b : Int} (h : 0 < b) (k : Bg n t) : Bg n (fa t b) := fdiv_bg k (dv_l t b) (dv_ne (by omega))
theorem bgb {n : Nat} {t b : Int} (h : 0 < b) (k : Bg n b) : Bg n (fb t b) := fdiv_bg k (dv_r t b) (dv_ne (by omega))
theorem fa_pos {t b : Int} (ht : 0 < t) (h : 0 < b) : 0 < fa t b := by
  obtain ⟨g, hg, h1, h2, _⟩ := fab (t := t) h
  by_cases e : 0 < fa t b
  · exact e
  · have : fa t b * g ≤ 0 * g := Int.mul_le_mul_of_nonneg_right (by omega) (by omega)
    rw [h1] at this
    omega
def lim (n lo hi : Int) : Int := if n < lo then lo else if n > hi then hi else n
/-- the multiplier -/
def fac (n m : Int) (s : Nat) : Int := near (n * 2 ^ s) m
def mul (n m : Int) : Nat → Option (Int × Nat)
  | 0 => none
  | s + 1 => if fac n m (s + 1) ≤ 65535 then (if fac n m (s + 1) = 0 then none else some (fac n m (s + 1), s + 1)) else mul n m s
section
variable {P : Program} {w : World} {K : PySem.W.Frag} {mg : Str → Option Value} {base : Heap}
structure Txt (mg : Str → Option Value) extends TxtD mg where
  max : mg "max" = none
  min : mg "min" = none
  range : mg "range" = none
  tuple : mg "tuple" = none
  isi : mg "isinstance" = none
  reversed : mg "reversed" = none
/-! ### the program's own defs -/
def spLimit : Sp := fun vs H Q _ => ∃ (n lo hi : Int), vs = [.int n, .int lo, .int hi] ∧ Q (.int (lim n lo hi)) H
abbrev nLi : List Str := ["n", "low", "high"]
theorem scLi : FnScope nLi ["n", "low", "high"] (defScope sLimit) := ⟨rfl, rfl, rfl, by decide +kernel, rfl, by decide +kernel, by decide +kernel⟩
theorem ok_limit {f : Addr} {fd : FuncData} (F : Fun K "limit" "limit" sLimit f fd) : FnOk P w K mg base CX0 1 f fd ["n", "low", "high"] spLimit := by
  refine F.ok scLi (fun vs H Q E h => ?_) (fun cdv A outer s H vs Q E hr h => ?_)
  · obtain ⟨n, lo, hi, rfl, _⟩ := h
    rfl
  · obtain ⟨n, lo, hi, rfl, q⟩ := h
    refine ⟨_, (pss_cons (ps_if (pt_cmpR op_lt (pv 0) (pv 1) (nomark _)) (pss_one (ps_ret (pv 1))) pss_nil)
      (pss_cons (ps_if (pt_cmpR op_gt (pv 0) (pv 2) (nomark _)) (pss_one (ps_ret (pv 2))) pss_nil)
      (pss_one (ps_ret (pv 0))))), ?_⟩
    unfold lim at q
    refine ⟨_, rfl, _, rfl, _, _, rfl, rfl, _, rfl, ite2 (fun e => ?_) (fun e => ?_)⟩
    · rw [if_pos (of_decide_eq_true e)] at q
      exact ⟨_, rfl, q⟩
    · rw [if_neg (fun z => e (decide_eq_true z))] at q
      refine ⟨_, rfl, _, rfl, _, _, rfl, rfl, _, rfl, ite2 (fun e => ?_) (fun e => ?_)⟩
      · rw [if_pos (of_decide_eq_true e)] at q
        exact ⟨_, rfl, q⟩
      · rw [if_neg (fun z => e (decide_eq_true z))] at q
        exact ⟨_, rfl, q⟩
def spBits (Z : Addr) : Sp := fun vs H Q E => ∃ (n : Int), vs = [.int n] ∧ (n < 3 ∨ 12 < n → E (.ref Z) none H) ∧ (3 ≤ n → n ≤ 12 → Q .non H)
abbrev nCb : List Str := ["bits"]
theorem scCb : FnScope nCb ["bits"] (defScope sBits) := ⟨rfl, rfl, rfl, by decide +kernel, rfl, by decide +kernel, by decide +kernel⟩
theorem ok_bits {f Z : Addr} {fd : FuncData} (F : Fun K "check_bits" "check_bits" sBits f fd) (RR : ErrR K mg "RangeError" Z) : FnOk P w K mg base (L2.CX P w) 1 f fd ["bits"] (spBits Z) := by
  refine F.okX scCb (fun vs H Q E h => ?_) (fun cdv A outer s H vs Q E hr h => ?_)
  · obtain ⟨n, rfl, _⟩ := h
    rfl
  · obtain ⟨n, rfl, hx, q⟩ := h
    refine ⟨_, (pss_one (ps_if (PW.pt (pw_or (pt_cmpR op_lt (pv 0) pe_int (nomark _)) (pw_or1 (pt_cmpR op_gt (pv 0) pe_int (nomark _))))) (pss_one (ps_raise rfl (takes_of rfl rfl rfl rfl) (pmk_own PySem.F.excBase_ValueError RR.x RR.g RR.k (raises_own RR.b RR.t) rfl))) pss_nil)), ?_⟩
    refine ⟨_, rfl, _, _, rfl, rfl, _, rfl, ite2 (fun e => ?_) (fun e => ?_)⟩
    · exact hx (.inl (of_decide_eq_true e))
    · have e : ¬ n < 3 := fun z => e (decide_eq_true z)
      refine ⟨_, rfl, _, _, rfl, rfl, _, rfl, ite2 (fun e2 => ?_) (fun e2 => ?_)⟩
      · exact hx (.inr (of_decide_eq_true e2))
      · have e2 : ¬ 12 < n := fun z => e2 (decide_eq_true z)
        exact q (by omega) (by omega)
def spEnds : Sp := fun vs H Q _ => ∃ (k : Nat), vs = [.int ((k : Int) + 1)] ∧ 2 ≤ k ∧ k ≤ 11 ∧ ∀ H' p, Same H H' → H' p = some (.tup [.int (-(2 ^ k)), .int (2 ^ k - 1)]) → Q (.ref p) H'
theorem k1 (k : Nat) : ((k : Int) + 1 - 1).toNat = k := by omega
abbrev nCe : List Str := ["bits"]
theorem scCe : FnScope nCe ["bits"] (defScope sEnds) := ⟨rfl, rfl, rfl, by decide +kernel, rfl, by decide +kernel, by decide +kernel⟩
theorem ok_ends {f : Addr} {fd : FuncData} (F : Fun K "code_bounds" "code_bounds" sEnds f fd) : FnOk P w K mg base CX0 1 f fd ["bits"] spEnds := by
  refine F.ok scCe (fun vs H Q E h => ?_) (fun cdv A outer s H vs Q E hr h => ?_)
  · obtain ⟨k, rfl, _⟩ := h
    rfl
  · obtain ⟨k, rfl, k0, k9, q⟩ := h
    refine ⟨_, (pss_one (ps_ret (pe_tup (pa_cons (pe_un un_neg (pe_op op_shl pe_int (pe_op op_sub (pv 0) pe_int))) (pa_cons (pe_op op_sub (pe_op op_shl pe_int (pe_op op_sub (pv 0) pe_int)) pe_int) pa_nil))))), ?_⟩
    have t2 : 2 ≤ sizeLine := by decide
    refine ⟨_, rfl, _, _, rfl, rfl, _, _, rfl, rfl, ⟨by omega, by omega, by decide⟩, _, rfl, _, rfl, _, _, rfl, rfl, _, _, rfl, rfl, ⟨by omega, by omega, by decide⟩, _, _, rfl, rfl, t2, fun p np => ?_⟩
    refine q _ p (same_upd np) ?_
    rw [upd_same, k1, Int.one_mul]
def spTimes : Sp := fun vs H Q _ => ∃ (pa pb : Addr) (n m n' m' : Int), vs = [.ref pa, .ref pb] ∧ FrT H pa n m ∧ FrT H pb n' m' ∧ Bg 200 n ∧ Bg 200 m ∧ Bg 200 n' ∧ Bg 200 m' ∧ 0 < m ∧ 0 < m' ∧ ∀ H' p, Same H H' → FrT H' p (fa (n * n') (m * m')) (fb (n * n') (m * m')) → Q (.ref p) H'
abbrev nTi : List Str := ["a", "b"]
theorem scTi : FnScope nTi ["a", "b"] (defScope sTimes) := ⟨rfl, rfl, rfl, by decide +kernel, rfl, by decide +kernel, by decide +kernel⟩
theorem ok_times {f Z : Addr} {fd : FuncData} (F : Fun K "times" "times" sTimes f fd) (cF : Calls P w K mg base (L2.CX P w) 1 "fraction" ["numerator", "denominator"] (spFrac Z)) : FnOk P w K mg base CX0 2 f fd ["a", "b"] spTimes := by
  obtain ⟨fF, dF, GF, kF, bF, gF⟩ := cF.ex
  refine F.ok scTi (fun vs H Q E h => ?_) (fun cdv A outer s H vs Q E hr1 h => ?_)
  · obtain ⟨a, b, _, _, _, _, rfl, _⟩ := h
    rfl
  · obtain ⟨pa, pb, n, m, n', m', rfl, ha, hb, b1, b2, b3, b4, m0, m0', q⟩ := h
    have c1 := b1.cmul b3 (by decide) (by decide) (by decide)
    have c3 := b2.cmul b4 (by decide) (by decide) (by decide)
    have h0 : m * m' ≠ 0 := by have := Int.mul_pos m0 m0'; omega
    refine ⟨_, (pss_one (ps_ret (pe_call GF hr1 (by rfl) gF kF bF .nil passL (pa_cons (pe_op op_mulW (pe_ix ix_tup (pv 0) pe_int (fun _ _ => rfl)) (pe_ix ix_tup (pv 1) pe_int (fun _ _ => rfl))) (pa_cons (pe_op op_mulW (pe_ix ix_tup (pv 0) pe_int (fun _ _ => rfl)) (pe_ix ix_tup (pv 1) pe_int (fun _ _ => rfl))) pa_nil))))), ?_⟩
    refine ⟨_, rfl, pa, _, _, _, rfl, rfl, SqT.of ha, f0, _, rfl, pb, _, _, _, rfl, rfl, SqT.of hb, f0, _, _, rfl, rfl, c1, _, rfl, pa, _, _, _, rfl, rfl, SqT.of ha, f1, _, rfl, pb, _, _, _, rfl, rfl, SqT.of hb, f1, _, _, rfl, rfl, c3,
      _, _, rfl, (b1.mul b3).mono (by decide), (b2.mul b4).mono (by decide), fun z => absurd z h0, fun _ p np => q _ p (same_upd np) upd_same⟩
def spOver : Sp := fun vs H Q _ => ∃ (pa pb : Addr) (n m n' m' : Int), vs = [.ref pa, .ref pb] ∧ FrT H pa n m ∧ FrT H pb n' m' ∧ Bg 200 n ∧ Bg 200 m ∧ Bg 200 n' ∧ Bg 200 m' ∧ 0 < m ∧ 0 < n' ∧ ∀ H' p, Same H H' → FrT H' p (fa (n * m') (m * n')) (fb (n * m') (m * n')) → Q (.ref p) H'
abbrev nOv : List Str := ["a", "b"]
theorem scOv : FnScope nOv ["a", "b"] (defScope sOver) := ⟨rfl, rfl, rfl, by decide +kernel, rfl, by decide +kernel, by decide +kernel⟩
theorem ok_over {f Z : Addr} {fd : FuncData} (F : Fun K "over" "over" sOver f fd) (cF : Calls P w K mg base (L2.CX P w) 1 "fraction" ["numerator", "denominator"] (spFrac Z)) : FnOk P w K mg base CX0 2 f fd ["a", "b"] spOver := by
  obtain ⟨fF, dF, GF, kF, bF, gF⟩ := cF.ex
  refine F.ok scOv (fun vs H Q E h => ?_) (fun cdv A outer s H vs Q E hr1 h => ?_)
  · obtain ⟨a, b, _, _, _, _, rfl, _⟩ := h
    rfl
  · obtain ⟨pa, pb, n, m, n', m', rfl, ha, hb, b1, b2, b3, b4, m0, m0', q⟩ := h
    have c1 := b1.cmul b4 (by decide) (by decide) (by decide)
    have c3 := b2.cmul b3 (by decide) (by decide) (by decide)
    have h0 : m * n' ≠ 0 := by have := Int.mul_pos m0 m0'; omega
    refine ⟨_, (pss_one (ps_ret (pe_call GF hr1 (by rfl) gF kF bF .nil passL (pa_cons (pe_op op_mulW (pe_ix ix_tup (pv 0) pe_int (fun _ _ => rfl)) (pe_ix ix_tup (pv 1) pe_int (fun _ _ => rfl))) (pa_cons (pe_op op_mulW (pe_ix ix_tup (pv 0) pe_int (fun _ _ => rfl)) (pe_ix ix_tup (pv 1) pe_int (fun _ _ => rfl))) pa_nil))))), ?_⟩
    refine ⟨_, rfl, pa, _, _, _, rfl, rfl, SqT.of ha, f0, _, rfl, pb, _, _, _, rfl, rfl, SqT.of hb, f1, _, _, rfl, rfl, c1, _, rfl, pa, _, _, _, rfl, rfl, SqT.of ha, f1, _, rfl, pb, _, _, _, rfl, rfl, SqT.of hb, f0, _, _, rfl, rfl, c3,
      _, _, rfl, (b1.mul b4).mono (by decide), (b2.mul b3).mono (by decide), fun z => absurd z h0, fun _ p np => q _ p (same_upd np) upd_same⟩
def spNear : Sp := fun vs H Q _ => ∃ (pa : Addr) (n m : Int), vs = [.ref pa] ∧ FrT H pa n m ∧ 0 < m ∧ Bg 1000 n ∧ Bg 1000 m ∧ Q (.int (near n m)) H
theorem two : Bg 2 2 := by unfold Bg; decide
abbrev nNe : List Str := ["a"]
theorem scNe : FnScope nNe ["a"] (defScope sNear) := ⟨rfl, rfl, rfl, by decide +kernel, rfl, by decide +kernel, by decide +kernel⟩
theorem ok_near {f : Addr} {fd : FuncData} (F : Fun K "nearest" "nearest" sNear f fd) : FnOk P w K mg base CX0 1 f fd ["a"] spNear := by
  refine F.ok scNe (fun vs H Q E h => ?_) (fun cdv A outer s H vs Q E hr h => ?_)
  · obtain ⟨a, _, _, rfl, _⟩ := h
    rfl
  · obtain ⟨pa, n, m, rfl, ha, hm, hb0, hb, q⟩ := h
    refine ⟨_, (pss_one (ps_ret (pe_op op_fdivW (pe_op op_add (pe_op op_mulW pe_int (pe_ix ix_tup (pv 0) pe_int (fun _ _ => rfl))) (pe_ix ix_tup (pv 0) pe_int (fun _ _ => rfl))) (pe_op op_mulW pe_int (pe_ix ix_tup (pv 0) pe_int (fun _ _ => rfl)))))), ?_⟩
    exact ⟨_, rfl, pa, _, _, _, rfl, rfl, SqT.of ha, f0, _, _, rfl, rfl, two.cmul hb0 (by decide) (by decide) (by decide), _, rfl, pa, _, _, _, rfl, rfl, SqT.of ha, f1, _, _, rfl, rfl, _, rfl, pa, _, _, _, rfl, rfl, SqT.of ha, f1, _, _, rfl, rfl, two.cmul hb (by decide) (by decide) (by decide),
      _, _, rfl, rfl, (two.mul hb).divW (by omega) (by decide) (by decide), q⟩
def spMult (Z : Addr) : Sp := fun vs H Q E => ∃ (pa : Addr) (n m : Int), vs = [.ref pa] ∧ FrT H pa n m ∧ Bg 100 n ∧ Bg 100 m ∧ 0 < m ∧ (mul n m 30 = none → ∀ H', Same H H' → E (.ref Z) none H') ∧ (∀ f s, mul n m 30 = some (f, s) → ∀ H' p, Same H H' → H' p = some (.tup [.int f, .int (s : Int)]) → Q (.ref p) H')
theorem pow_bg {s : Nat} (h : s ≤ 30) : Bg 31 ((2 : Int) ^ s) := by
  unfold Bg
  have e : ((2 : Int) ^ s).natAbs = 2 ^ s := by
    rw [Int.natAbs_pow]
    rfl
  rw [e]
  exact Nat.pow_lt_pow_right (by decide) (by omega)
theorem one_bg {n : Nat} (h : 0 < n) : Bg n 1 := by
  unfold Bg
  exact Nat.one_lt_two_pow (by omega)
abbrev nMu : List Str := ["a", "shift", "factor"]
theorem scMu : FnScope nMu ["a"] (defScope sMult) := ⟨rfl, rfl, rfl, by decide +kernel, rfl, by decide +kernel, by decide +kernel⟩
theorem ok_mult {f Z : Addr} {fd : FuncData} (F : Fun K "multiplier" "multiplier" sMult f fd) (T : Txt mg) (RT : ErrR K mg "TableError" Z) (l1 : ∃ u, mg "_SHIFT_LIMIT" = some u ∧ RelV (.int 30) u) (l2 : ∃ u, mg "_FACTOR_LIMIT" = some u ∧ RelV (.int 65535) u) (cNe : Calls P w K mg base CX0 1 "nearest" ["a"] spNear) (cTi : Calls P w K mg base CX0 2 "times" ["a", "b"] spTimes) : FnOk P w K mg base (L2.CX P w) 3 f fd ["a"] (spMult Z) := by
  obtain ⟨fNe, dNe, GNe, kNe, bNe, gNe⟩ := cNe.ex
  obtain ⟨fTi, dTi, GTi, kTi, bTi, gTi⟩ := cTi.ex
  obtain ⟨u1, gl1, rl1⟩ := l1
  obtain ⟨u2, gl2, rl2⟩ := l2
  refine F.okX scMu (fun vs H Q E h => ?_) (fun cdv A outer s H vs Q E hr2 h => ?_)
  · obtain ⟨a, _, _, rfl, _⟩ := h
    rfl
  · obtain ⟨pa, n, m, rfl, ha, b1, b2, m0, qe, q⟩ := h
    have hr1 : Room 1 _ := hr2.mono (by decide)
    refine ⟨_, (pss_cons (ps_for (passes_of rfl) rfl (pi_revR (by rfl) T.reversed (prg_2 (by rfl) T.range pe_int (pe_op op_add (pe_glob (v := (.int 30)) (by rfl) gl1 rl1) pe_int))) (pg_name (i := 1) scMu.nd rfl (.inl rfl)) (pss_cons (ps_set (i := 2) scMu.nd rfl (.inl rfl) (pe_call GNe hr1 (by rfl) gNe kNe bNe .nil pass0 (pa_cons (pe_call GTi hr2 (by rfl) gTi kTi bTi .nil pass0 (pa_cons (pv 0) (pa_cons (pe_tup (pa_cons (pe_op op_shl pe_int (pv 1)) (pa_cons pe_int pa_nil))) pa_nil))) pa_nil)))
      (pss_one (ps_if (pt_cmpR op_le (pv 2) (pe_glob (v := (.int 65535)) (by rfl) gl2 rl2) (nomark _)) (pss_cons (ps_if (pt_cmpR op_eq (pv 2) pe_int (nomark _)) (pss_one (ps_raise rfl (takes_of rfl rfl rfl rfl) (pmk_own PySem.F.excBase_ValueError RT.x RT.g RT.k (raises_own RT.b RT.t) rfl))) pss_nil)
      (pss_one (ps_ret (pe_tup (pa_cons (pv 2) (pa_cons (pv 1) pa_nil)))))) pss_nil))))
      (pss_one (ps_raise rfl (takes_of rfl rfl rfl rfl) (pmk_own PySem.F.excBase_ValueError RT.x RT.g RT.k (raises_own RT.b RT.t) rfl)))), ?_⟩
    refine ⟨_, _, rfl, rfl, _, _, rfl, rfl, by decide, by decide, by decide, by decide, for_it walk_rangeC (fun i σ H' => ∃ (v1 v2 : Option V), σ = [some (.ref pa), v1, v2] ∧ Same H H' ∧ mul n m 30 = mul n m (30 - i)) ⟨_, _, rfl, Same.refl H, rfl⟩ (fun _ _ _ _ _ => trivial) ?_ ?_⟩
    · rintro i x σ H' H'' hi ⟨v1, v2, rfl, sm, hm⟩ ⟨rfl, hx⟩
      have hi : i < 30 := hi
      obtain ⟨s, hs⟩ : ∃ s, 30 - i = s + 1 := ⟨29 - i, by omega⟩
      have hx : x = .int ((s + 1 : Nat) : Int) := by
        rw [hx]
        show V.int _ = V.int _
        congr 1
        omega
      subst hx
      rw [hs] at hm
      have hs30 : s + 1 ≤ 30 := by omega
      have t2 : 2 ≤ sizeLine := by decide
      refine ⟨_, rfl, _, rfl, _, _, rfl, rfl, ⟨by omega, by omega, by decide⟩, t2, fun p np => ?_⟩
      have s1 := sm.trans (same_upd (o := .tup [.int (1 * 2 ^ (((s + 1 : Nat) : Int)).toNat), .int 1]) np)
      refine ⟨pa, p, n, m, 2 ^ (s + 1), 1, rfl, s1 _ _ ha, ?_, b1.mono (by decide), b2.mono (by decide), (pow_bg hs30).mono (by decide), one_bg (by decide), m0, by decide, fun H3 p3 s3 h3 => ?_⟩
      · show upd H'' p _ p = _
        rw [upd_same]
        show some (HO.tup [V.int (1 * 2 ^ (((s + 1 : Nat) : Int)).toNat), V.int 1]) = _
        rw [Int.toNat_natCast, Int.one_mul]
      rw [Int.mul_one] at h3
      obtain ⟨_, _, _, _, hpos⟩ := fab (t := n * 2 ^ (s + 1)) m0
      refine ⟨p3, _, _, rfl, h3, hpos, (bga m0 (b1.mul (pow_bg hs30))).mono (by decide), (bgb m0 b2).mono (by decide), ?_⟩
      rw [near_fab m0]
      have hm' : mul n m 30 = if fac n m (s + 1) ≤ 65535 then (if fac n m (s + 1) = 0 then none else some (fac n m (s + 1), s + 1)) else mul n m s := hm
      have ef : near (n * 2 ^ (s + 1)) m = fac n m (s + 1) := rfl
      rw [ef]
      refine ⟨_, rfl, _, _, rfl, rfl, _, rfl, ite2 (fun e => ?_) (fun e => ?_)⟩
      · rw [if_pos (of_decide_eq_true e)] at hm'
        refine ⟨_, rfl, rfl, _, rfl, ite2 (fun e => ?_) (fun e => ?_)⟩
        · rw [if_pos (V.int.inj (of_decide_eq_true e))] at hm'
          exact qe hm' _ (s1.trans s3)
        · rw [if_neg (fun z => e (decide_eq_true (by rw [z])))] at hm'
          exact ⟨_, rfl, _, rfl, t2, fun p4 n4 => q _ _ hm' _ p4 ((s1.trans s3).trans (same_upd n4)) upd_same⟩
      · rw [if_neg (fun z => e (decide_eq_true z))] at hm'
        exact ⟨_, _, rfl, s1.trans s3, by rw [hm', show 30 - (i + 1) = s by omega]⟩
    · rintro σ H' ⟨v1, v2, rfl, sm, hm⟩
      exact qe hm _ sm
def spCode (Z : Addr) : Sp := fun vs H Q E => ∃ (pp ps px : Addr) (n m z xn xm b : Int), vs = [.ref pp, .int b, .ref px] ∧ H pp = some (.tup [.ref ps, .int z]) ∧ FrT H ps n m ∧ FrT H px xn xm ∧ Bg 100 n ∧ Bg 100 m ∧ Bg 100 xn ∧ Bg 100 xm ∧ 0 < n ∧ 0 < m ∧ 0 < xm ∧ (b < 3 ∨ 12 < b → E (.ref Z) none H) ∧
  (∀ k : Nat, b = (k : Int) + 1 → 2 ≤ k → k ≤ 11 → ∀ H', Same H H' → Q (.int (lim (near (xn * m) (xm * n) + z) (-(2 ^ k)) (2 ^ k - 1))) H')
abbrev nCo : List Str := ["pair", "bits", "x", "scale", "zero", "least", "most"]
theorem scCo : FnScope nCo ["pair", "bits", "x"] (defScope sCode) := ⟨rfl, rfl, rfl, by decide +kernel, rfl, by decide +kernel, by decide +kernel⟩
theorem ok_code {f ZR : Addr} {fd : FuncData} (F : Fun K "code_of" "code_of" sCode f fd) (cCb : Calls P w K mg base (L2.CX P w) 1 "check_bits" ["bits"] (spBits ZR)) (cCe : Calls P w K mg base CX0 1 "code_bounds" ["bits"] spEnds) (cLi : Calls P w K mg base CX0 1 "limit" ["n", "low", "high"] spLimit) (cNe : Calls P w K mg base CX0 1 "nearest" ["a"] spNear) (cOv : Calls P w K mg base CX0 2 "over" ["a", "b"] spOver) : FnOk P w K mg base (L2.CX P w) 3 f fd ["pair", "bits", "x"] (spCode ZR) := by
  obtain ⟨fCb, dCb, GCb, kCb, bCb, gCb⟩ := cCb.ex
  obtain ⟨fCe, dCe, GCe, kCe, bCe, gCe⟩ := cCe.ex
  obtain ⟨fLi, dLi, GLi, kLi, bLi, gLi⟩ := cLi.ex
  obtain ⟨fNe, dNe, GNe, kNe, bNe, gNe⟩ := cNe.ex
  obtain ⟨fOv, dOv, GOv, kOv, bOv, gOv⟩ := cOv.ex
  refine F.okX scCo (fun vs H Q E h => ?_) (fun cdv A outer s H vs Q E hr2 h => ?_)
  · obtain ⟨_, _, _, _, _, _, _, _, _, rfl, _⟩ := h
    rfl
  · obtain ⟨pp, ps, px, n, m, z, xn, xm, b, rfl, hp, hs, hx, b1, b2, b3, b4, n0, m0, xm0, qe, q⟩ := h
    have hr1 : Room 1 _ := hr2.mono (by decide)
    refine ⟨_, (pss_cons (ps_expr (pe_callS GCb hr1 (by rfl) gCb kCb bCb (fun σ => passAt (takes_of rfl rfl rfl rfl) σ) (pa_cons (pv 1) pa_nil)))
      (pss_cons (ps_asg (pv 0) (pg_tup rfl (pgs_cons (pg_name (i := 3) scCo.nd rfl (.inl rfl)) (pgs_cons (pg_name (i := 4) scCo.nd rfl (.inl rfl)) pgs_nil))))
      (pss_cons (ps_asg (pe_call GCe hr1 (by rfl) gCe kCe bCe .nil pass0 (pa_cons (pv 1) pa_nil)) (pg_tup rfl (pgs_cons (pg_name (i := 5) scCo.nd rfl (.inl rfl)) (pgs_cons (pg_name (i := 6) scCo.nd rfl (.inl rfl)) pgs_nil))))
      (pss_one (ps_ret (pe_call GLi hr1 (by rfl) gLi kLi bLi .nil pass0 (pa_cons (pe_op op_add (pe_call GNe hr1 (by rfl) gNe kNe bNe .nil pass0 (pa_cons (pe_call GOv hr2 (by rfl) gOv kOv bOv .nil pass0 (pa_cons (pv 2) (pa_cons (pv 3) pa_nil))) pa_nil)) (pv 4)) (pa_cons (pv 5) (pa_cons (pv 6) pa_nil))))))))), ?_⟩
    refine ⟨_, rfl, b, rfl, fun hb => qe hb, fun h3 h12 => ?_⟩
    obtain ⟨k, rfl⟩ : ∃ k : Nat, b = (k : Int) + 1 := ⟨(b - 1).toNat, by omega⟩
    refine ⟨_, rfl, pp, _, rfl, SqT.of hp, rfl, _, _, rfl, _, _, rfl, rfl, ?_⟩
    refine ⟨_, rfl, k, rfl, by omega, by omega, fun H1 p1 s1 h1 => ?_⟩
    refine ⟨p1, _, rfl, SqT.of h1, rfl, _, _, rfl, _, _, rfl, rfl, ?_⟩
    refine ⟨_, rfl, _, rfl, px, ps, xn, xm, n, m, rfl, s1 _ _ hx, s1 _ _ hs, b3.mono (by decide), b4.mono (by decide), b1.mono (by decide), b2.mono (by decide), xm0, n0, fun H2 p2 s2 h2 => ?_⟩
    have h0 : 0 < xm * n := Int.mul_pos xm0 n0
    obtain ⟨_, _, _, _, hpos⟩ := fab (t := xn * m) h0
    refine ⟨p2, _, _, rfl, h2, hpos, (bga h0 (b3.mul b2)).mono (by decide), (bgb h0 (b4.mul b1)).mono (by decide), ?_⟩
    rw [near_fab h0]
    exact ⟨_, rfl, _, _, rfl, rfl, _, rfl, _, rfl, _, _, _, rfl, q k rfl (by omega) (by omega) _ (s1.trans s2)⟩
def spMean : Sp := fun vs H Q _ => ∃ (pp ps : Addr) (n m z c : Int), vs = [.ref pp, .int c] ∧ H pp = some (.tup [.ref ps, .int z]) ∧ FrT H ps n m ∧ Bg 100 n ∧ Bg 100 m ∧ Bg 50 z ∧ Bg 50 c ∧ 0 < m ∧ ∀ H' p, Same H H' → FrT H' p (fa (n * (c - z)) m) (fb (n * (c - z)) m) → Q (.ref p) H'
abbrev nMe : List Str := ["pair", "code", "scale", "zero"]
theorem scMe : FnScope nMe ["pair", "code"] (defScope sMean) := ⟨rfl, rfl, rfl, by decide +kernel, rfl, by decide +kernel, by decide +kernel⟩
theorem ok_mean {f : Addr} {fd : FuncData} (F : Fun K "meaning_of" "meaning_of" sMean f fd) (cTi : Calls P w K mg base CX0 2 "times" ["a", "b"] spTimes) : FnOk P w K mg base CX0 3 f fd ["pair", "code"] spMean := by
  obtain ⟨fTi, dTi, GTi, kTi, bTi, gTi⟩ := cTi.ex
  refine F.ok scMe (fun vs H Q E h => ?_) (fun cdv A outer s H vs Q E hr2 h => ?_)
  · obtain ⟨_, _, _, _, _, _, rfl, _⟩ := h
    rfl
  · obtain ⟨pp, ps, n, m, z, c, rfl, hp, hs, b1, b2, b3, b4, m0, q⟩ := h
    refine ⟨_, (pss_cons (ps_asg (pv 0) (pg_tup rfl (pgs_cons (pg_name (i := 2) scMe.nd rfl (.inl rfl)) (pgs_cons (pg_name (i := 3) scMe.nd rfl (.inl rfl)) pgs_nil))))
      (pss_one (ps_ret (pe_call GTi hr2 (by rfl) gTi kTi bTi .nil pass0 (pa_cons (pv 2) (pa_cons (pe_tup (pa_cons (pe_op op_sub (pv 1) (pv 3)) (pa_cons pe_int pa_nil))) pa_nil)))))), ?_⟩
    have t2 : 2 ≤ sizeLine := by decide
    refine ⟨_, rfl, pp, _, rfl, SqT.of hp, rfl, _, _, rfl, _, _, rfl, rfl, ?_⟩
    refine ⟨_, rfl, _, rfl, _, rfl, _, _, rfl, rfl, t2, fun p np => ?_⟩
    have s1 := same_upd (o := .tup [.int (c - z), .int 1]) np
    refine ⟨ps, p, n, m, c - z, 1, rfl, s1 _ _ hs, upd_same, b1.mono (by decide), b2.mono (by decide), (b4.sub b3).mono (by decide), one_bg (by decide), m0, by decide, fun H2 p2 s2 h2 => ?_⟩
    rw [Int.mul_one] at h2
    exact q _ _ (s1.trans s2) h2
end

section
variable {P : Program} {w : World} {K : PySem.W.Frag} {mg : Str → Option Value} {base : Heap}
/-! ### the law's own arithmetic -/
def Kb (d : Addr) (H H' : Hp) : Prop := ∀ b o, b ≠ d → H b = some o → H' b = some o
theorem Kb.refl (d : Addr) (H : Hp) : Kb d H H := fun _ _ _ h => h
theorem Kb.trans {d : Addr} {H H1 H2 : Hp} (a : Kb d H H1) (b : Kb d H1 H2) : Kb d H H2 := fun c o n h => b c o n (a c o n h)
theorem But.kb {d : Addr} {H H' : Hp} (k : But d H H') : Kb d H H' := fun b o n h => by rw [k b n]; exact h
theorem skb {d : Addr} {H H' : Hp} (k : Same H H') : Kb d H H' := fun b o _ h => k b o h
theorem Kb.tup {d c b : Addr} {H H' : Hp} {xs : List V} (k : Kb d H H') (h : DrAt H d c) (hb : H b = some (.tup xs)) : H' b = some (.tup xs) := by
  obtain ⟨ys, hd⟩ := h.lst
  exact k b _ (ne_of hb hd (fun z => nomatch z)) hb
theorem fa_ediv {t b : Int} (h : 0 < b) : fa t b = t / gi t b := by
  have hg := gi_pos (a := t) (b := b) (by omega)
  show t.fdiv (dv t b) = _
  rw [dvp h, Int.fdiv_eq_ediv_of_nonneg _ (by omega)]
theorem fb_ediv {t b : Int} (h : 0 < b) : fb t b = b / gi t b := by
  have hg := gi_pos (a := t) (b := b) (by omega)
  show b.fdiv (dv t b) = _
  rw [dvp h, Int.fdiv_eq_ediv_of_nonneg _ (by omega)]
theorem gi_absL (a b : Int) : gi (if a < 0 then -a else a) b = gi a b := by
  unfold gi
  have e : (if a < 0 then -a else a).natAbs = a.natAbs := by split <;> omega
  rw [e]
def spLGcd : Sp := fun vs H Q _ => ∃ a b : Int, vs = [.int a, .int b] ∧ 0 ≤ a ∧ 0 ≤ b ∧ Q (.int (gi a b)) H
abbrev nLg : List Str := ["a", "b"]
theorem scLg : FnScope nLg ["a", "b"] (defScope sLGcd) := ⟨rfl, rfl, rfl, by decide +kernel, rfl, by decide +kernel, by decide +kernel⟩
theorem ok_lgcd {f : Addr} {fd : FuncData} (F : Fun K "_law_gcd" "_law_gcd" sLGcd f fd) (T : Txt mg) : FnOk P w K mg base CX0 1 f fd ["a", "b"] spLGcd := by
  refine F.ok scLg (fun vs H Q E h => ?_) (fun cdv A outer s H vs Q E hr h => ?_)
  · obtain ⟨a, b, rfl, _⟩ := h
    rfl
  · obtain ⟨a, b, rfl, a0, b0, q⟩ := h
    refine ⟨_, (pss_cons (ps_while PassesOwn.never (pt_cmpR op_ne (pv 1) pe_int (nomark _)) (pss_one (ps_par (i := 0) (j := 1) (by rfl) scLg.nd rfl rfl (by decide) rfl rfl (pa_cons (pv 1) (pa_cons (pe_op op_mod (pe_callTy call_int1 (by rfl) T.int (by decide +kernel) (pa_cons (pv 0) pa_nil)) (pv 1)) pa_nil)) (by rfl))))
      (pss_one (ps_ret (pe_callB call_abs (by rfl) T.abs (by decide +kernel) (pa_cons (pv 0) pa_nil))))), ?_⟩
    refine ⟨fun m σ H' => ∃ x y : Int, σ = [some (.int x), some (.int y)] ∧ H' = H ∧ 0 ≤ x ∧ 0 ≤ y ∧ m = y.toNat ∧ gi x y = gi a b, ⟨_, _, _, rfl, rfl, a0, b0, rfl, rfl⟩, ?_⟩
    rintro m σ H' ⟨x, y, rfl, rfl, hx, hy, rfl, e⟩
    refine ⟨_, rfl, rfl, _, rfl, ?_⟩
    by_cases g' : y = 0
    · rw [decide_eq_true (show V.int y = V.int 0 by rw [g'])]
      subst g'
      rw [gi_zero hx] at e
      subst e
      refine iteF ⟨_, rfl, _, rfl, ?_⟩
      rw [if_neg (show ¬ gi a b < 0 by omega)]
      exact q
    · rw [decide_eq_false (show ¬ V.int y = V.int 0 from fun z => g' (V.int.inj z))]
      have g' : 0 < y := by omega
      refine iteT ⟨fun σ' H'' => σ' = [some (.int y), some (.int (x % y))] ∧ H'' = H', ?_, ?_⟩
      · rintro σ' H'' ⟨rfl, rfl⟩
        have h1 := Int.emod_lt_of_pos x g'
        have h2 := Int.emod_nonneg x (show y ≠ 0 by omega)
        exact ⟨(x % y).toNat, by omega, y, x % y, rfl, rfl, by omega, h2, rfl, by rw [gi_step hx g', e]⟩
      · exact ⟨_, rfl, _, rfl, .inl ⟨_, rfl, _, rfl, _, _, rfl, rfl, g', _, _, rfl, rfl, rfl⟩⟩
def spLFrac : Sp := fun vs H Q _ => ∃ t b : Int, vs = [.int t, .int b] ∧ 0 < b ∧ Bg 1000 b ∧ ∀ H' p, Same H H' → FrT H' p (fa t b) (fb t b) → Q (.ref p) H'
theorem gi_bg {n : Nat} {a b : Int} (h : Bg n b) (h0 : 0 < b) : Bg n (gi a b) := by rw [← dvp h0]; exact dv_bg h (by omega)
abbrev nLf : List Str := ["a", "b", "c"]
theorem scLf : FnScope nLf ["a", "b"] (defScope sLFrac) := ⟨rfl, rfl, rfl, by decide +kernel, rfl, by decide +kernel, by decide +kernel⟩
theorem ok_lfrac {f : Addr} {fd : FuncData} (F : Fun K "_law_frac" "_law_frac" sLFrac f fd) (T : Txt mg) (cLg : Calls P w K mg base CX0 1 "_law_gcd" ["a", "b"] spLGcd) : FnOk P w K mg base CX0 2 f fd ["a", "b"] spLFrac := by
  obtain ⟨fLg, dLg, GLg, kLg, bLg, gLg⟩ := cLg.ex
  refine F.ok scLf (fun vs H Q E h => ?_) (fun cdv A outer s H vs Q E hr1 h => ?_)
  · obtain ⟨a, b, rfl, _⟩ := h
    rfl
  · obtain ⟨a, b, rfl, b0, hb, q⟩ := h
    refine ⟨_, (pss_cons (ps_if (pt_cmpR op_lt (pv 1) pe_int (nomark _)) (pss_cons (ps_set (i := 0) scLf.nd rfl (.inl rfl) (pe_op op_sub pe_int (pv 0)))
      (pss_one (ps_set (i := 1) scLf.nd rfl (.inl rfl) (pe_op op_sub pe_int (pv 1))))) pss_nil)
      (pss_cons (ps_set (i := 2) scLf.nd rfl (.inl rfl) (pe_call GLg hr1 (by rfl) gLg kLg bLg .nil pass0 (pa_cons (pe_callB call_abs (by rfl) T.abs (by decide +kernel) (pa_cons (pv 0) pa_nil)) (pa_cons (pv 1) pa_nil))))
      (pss_one (ps_ret (pe_tup (pa_cons (pe_op op_fdivW (pv 0) (pv 2)) (pa_cons (pe_op op_fdivW (pv 1) (pv 2)) pa_nil))))))), ?_⟩
    refine ⟨_, rfl, _, _, rfl, rfl, _, rfl, ?_⟩
    rw [decide_eq_false (show ¬ b < 0 by omega)]
    have hg := gi_pos (a := a) (b := b) (by omega)
    have hd := (gi_bg (a := a) hb b0).divW (x := a) (by omega) (by decide) (by decide)
    have hd2 := (gi_bg (a := a) hb b0).divW (x := b) (by omega) (by decide) (by decide)
    have t2 : 2 ≤ sizeLine := by decide
    refine iteF ⟨_, rfl, _, rfl, _, rfl, _, _, rfl, by split <;> omega, by omega, ?_⟩
    rw [gi_absL]
    refine ⟨_, rfl, _, rfl, _, _, rfl, rfl, hd, _, rfl, _, rfl, _, _, rfl, rfl, hd2, t2, fun p np => q _ p (same_upd np) ?_⟩
    show upd H p _ p = _
    rw [upd_same, fa_ediv b0, fb_ediv b0]
def spLSum : Sp := fun vs H Q _ => ∃ (pa pb : Addr) (n m n' m' : Int), vs = [.ref pa, .ref pb] ∧ FrT H pa n m ∧ FrT H pb n' m' ∧ Bg 200 n ∧ Bg 200 m ∧ Bg 200 n' ∧ Bg 200 m' ∧ 0 < m ∧ 0 < m' ∧ ∀ H' p, Same H H' → FrT H' p (fa (n * m' + n' * m) (m * m')) (fb (n * m' + n' * m) (m * m')) → Q (.ref p) H'
abbrev nLs : List Str := ["a", "b"]
theorem scLs : FnScope nLs ["a", "b"] (defScope sLSum) := ⟨rfl, rfl, rfl, by decide +kernel, rfl, by decide +kernel, by decide +kernel⟩
theorem ok_lsum {f : Addr} {fd : FuncData} (F : Fun K "_law_sum" "_law_sum" sLSum f fd) (cLf : Calls P w K mg base CX0 2 "_law_frac" ["a", "b"] spLFrac) : FnOk P w K mg base CX0 3 f fd ["a", "b"] spLSum := by
  obtain ⟨fLf, dLf, GLf, kLf, bLf, gLf⟩ := cLf.ex
  refine F.ok scLs (fun vs H Q E h => ?_) (fun cdv A outer s H vs Q E hr2 h => ?_)
  · obtain ⟨a, b, _, _, _, _, rfl, _⟩ := h
    rfl
  · obtain ⟨pa, pb, n, m, n', m', rfl, ha, hb, b1, b2, b3, b4, m0, m0', q⟩ := h
    have c1 := b1.cmul b4 (by decide) (by decide) (by decide)
    have c2 := b3.cmul b2 (by decide) (by decide) (by decide)
    have c3 := b2.cmul b4 (by decide) (by decide) (by decide)
    refine ⟨_, (pss_one (ps_ret (pe_call GLf hr2 (by rfl) gLf kLf bLf .nil pass0 (pa_cons (pe_op op_add (pe_op op_mulW (pe_ix ix_tup (pv 0) pe_int (fun _ _ => rfl)) (pe_ix ix_tup (pv 1) pe_int (fun _ _ => rfl))) (pe_op op_mulW (pe_ix ix_tup (pv 1) pe_int (fun _ _ => rfl)) (pe_ix ix_tup (pv 0) pe_int (fun _ _ => rfl)))) (pa_cons (pe_op op_mulW (pe_ix ix_tup (pv 0) pe_int (fun _ _ => rfl)) (pe_ix ix_tup (pv 1) pe_int (fun _ _ => rfl))) pa_nil))))), ?_⟩
    exact ⟨_, rfl, pa, _, _, _, rfl, rfl, SqT.of ha, f0, _, rfl, pb, _, _, _, rfl, rfl, SqT.of hb, f1, _, _, rfl, rfl, c1, _, rfl, pb, _, _, _, rfl, rfl, SqT.of hb, f0, _, rfl, pa, _, _, _, rfl, rfl, SqT.of ha, f1, _, _, rfl, rfl, c2, _, _, rfl, rfl,
      _, rfl, pa, _, _, _, rfl, rfl, SqT.of ha, f1, _, rfl, pb, _, _, _, rfl, rfl, SqT.of hb, f1, _, _, rfl, rfl, c3, _, _, rfl, Int.mul_pos m0 m0', (b2.mul b4).mono (by decide), q⟩
abbrev nLo : List Str := ["a", "b"]
theorem scLo : FnScope nLo ["a", "b"] (defScope sLOver) := ⟨rfl, rfl, rfl, by decide +kernel, rfl, by decide +kernel, by decide +kernel⟩
theorem ok_lover {f : Addr} {fd : FuncData} (F : Fun K "_law_over" "_law_over" sLOver f fd) (cLf : Calls P w K mg base CX0 2 "_law_frac" ["a", "b"] spLFrac) : FnOk P w K mg base CX0 3 f fd ["a", "b"] spOver := by
  obtain ⟨fLf, dLf, GLf, kLf, bLf, gLf⟩ := cLf.ex
  refine F.ok scLo (fun vs H Q E h => ?_) (fun cdv A outer s H vs Q E hr2 h => ?_)
  · obtain ⟨a, b, _, _, _, _, rfl, _⟩ := h
    rfl
  · obtain ⟨pa, pb, n, m, n', m', rfl, ha, hb, b1, b2, b3, b4, m0, m0', q⟩ := h
    have c1 := b1.cmul b4 (by decide) (by decide) (by decide)
    have c3 := b2.cmul b3 (by decide) (by decide) (by decide)
    refine ⟨_, (pss_one (ps_ret (pe_call GLf hr2 (by rfl) gLf kLf bLf .nil pass0 (pa_cons (pe_op op_mulW (pe_ix ix_tup (pv 0) pe_int (fun _ _ => rfl)) (pe_ix ix_tup (pv 1) pe_int (fun _ _ => rfl))) (pa_cons (pe_op op_mulW (pe_ix ix_tup (pv 0) pe_int (fun _ _ => rfl)) (pe_ix ix_tup (pv 1) pe_int (fun _ _ => rfl))) pa_nil))))), ?_⟩
    exact ⟨_, rfl, pa, _, _, _, rfl, rfl, SqT.of ha, f0, _, rfl, pb, _, _, _, rfl, rfl, SqT.of hb, f1, _, _, rfl, rfl, c1, _, rfl, pa, _, _, _, rfl, rfl, SqT.of ha, f1, _, rfl, pb, _, _, _, rfl, rfl, SqT.of hb, f0, _, _, rfl, rfl, c3,
      _, _, rfl, Int.mul_pos m0 m0', (b2.mul b3).mono (by decide), q⟩
def spLGap : Sp := fun vs H Q _ => ∃ (pa pb : Addr) (n m n' m' : Int), vs = [.ref pa, .ref pb] ∧ FrT H pa n m ∧ FrT H pb n' m' ∧ Bg 150 n ∧ Bg 150 m ∧ Bg 150 n' ∧ Bg 150 m' ∧ 0 < m ∧ 0 < m' ∧ ∀ H' p x, Same H H' → x = fa (n * m' + (0 - n') * m) (m * m') → FrT H' p (if x < 0 then -x else x) (fb (n * m' + (0 - n') * m) (m * m')) → Q (.ref p) H'
abbrev nLp : List Str := ["a", "b", "c"]
theorem scLp : FnScope nLp ["a", "b"] (defScope sLGap) := ⟨rfl, rfl, rfl, by decide +kernel, rfl, by decide +kernel, by decide +kernel⟩
theorem ok_lgap {f : Addr} {fd : FuncData} (F : Fun K "_law_gap" "_law_gap" sLGap f fd) (T : Txt mg) (cLs : Calls P w K mg base CX0 3 "_law_sum" ["a", "b"] spLSum) : FnOk P w K mg base CX0 4 f fd ["a", "b"] spLGap := by
  obtain ⟨fLs, dLs, GLs, kLs, bLs, gLs⟩ := cLs.ex
  refine F.ok scLp (fun vs H Q E h => ?_) (fun cdv A outer s H vs Q E hr3 h => ?_)
  · obtain ⟨a, b, _, _, _, _, rfl, _⟩ := h
    rfl
  · obtain ⟨pa, pb, n, m, n', m', rfl, ha, hb, b1, b2, b3, b4, m0, m0', q⟩ := h
    have t2 : 2 ≤ sizeLine := by decide
    refine ⟨_, (pss_cons (ps_set (i := 2) scLp.nd rfl (.inl rfl) (pe_call GLs hr3 (by rfl) gLs kLs bLs .nil pass0 (pa_cons (pv 0) (pa_cons (pe_tup (pa_cons (pe_op op_sub pe_int (pe_ix ix_tup (pv 1) pe_int (fun _ _ => rfl))) (pa_cons (pe_ix ix_tup (pv 1) pe_int (fun _ _ => rfl)) pa_nil))) pa_nil))))
      (pss_one (ps_ret (pe_tup (pa_cons (pe_callB call_abs (by rfl) T.abs (by decide +kernel) (pa_cons (pe_ix ix_tup (pv 2) pe_int (fun _ _ => rfl)) pa_nil)) (pa_cons (pe_ix ix_tup (pv 2) pe_int (fun _ _ => rfl)) pa_nil)))))), ?_⟩
    refine ⟨_, rfl, _, rfl, pb, _, _, _, rfl, rfl, SqT.of hb, f0, _, _, rfl, rfl, _, rfl, pb, _, _, _, rfl, rfl, SqT.of hb, f1, t2, fun p np => ?_⟩
    have s1 := same_upd (o := .tup [.int (0 - n'), .int m']) np
    refine ⟨pa, p, n, m, 0 - n', m', rfl, s1 _ _ ha, upd_same, b1.mono (by decide), b2.mono (by decide), ?_, b4.mono (by decide), m0, m0', fun H2 p2 s2 h2 => ?_⟩
    · have := b3
      unfold Bg at *
      have e : (0 - n').natAbs = n'.natAbs := by omega
      rw [e]
      exact Nat.lt_of_lt_of_le this (Nat.pow_le_pow_right (by decide) (by decide))
    refine ⟨_, rfl, p2, _, _, _, rfl, rfl, SqT.of h2, f0, _, rfl, _, rfl, p2, _, _, _, rfl, rfl, SqT.of h2, f1, t2, fun p3 n3 => ?_⟩
    exact q _ p3 _ ((s1.trans s2).trans (same_upd n3)) rfl upd_same
abbrev nLn : List Str := ["a"]
theorem scLn : FnScope nLn ["a"] (defScope sLNear) := ⟨rfl, rfl, rfl, by decide +kernel, rfl, by decide +kernel, by decide +kernel⟩
theorem ok_lnear {f : Addr} {fd : FuncData} (F : Fun K "_law_near" "_law_near" sLNear f fd) : FnOk P w K mg base CX0 1 f fd ["a"] spNear := by
  refine F.ok scLn (fun vs H Q E h => ?_) (fun cdv A outer s H vs Q E hr h => ?_)
  · obtain ⟨a, _, _, rfl, _⟩ := h
    rfl
  · obtain ⟨pa, n, m, rfl, ha, hm, hb0, hb, q⟩ := h
    refine ⟨_, (pss_one (ps_ret (pe_op op_fdivW (pe_op op_add (pe_op op_mulW pe_int (pe_ix ix_tup (pv 0) pe_int (fun _ _ => rfl))) (pe_ix ix_tup (pv 0) pe_int (fun _ _ => rfl))) (pe_op op_mulW pe_int (pe_ix ix_tup (pv 0) pe_int (fun _ _ => rfl)))))), ?_⟩
    exact ⟨_, rfl, pa, _, _, _, rfl, rfl, SqT.of ha, f0, _, _, rfl, rfl, two.cmul hb0 (by decide) (by decide) (by decide), _, rfl, pa, _, _, _, rfl, rfl, SqT.of ha, f1, _, _, rfl, rfl, _, rfl, pa, _, _, _, rfl, rfl, SqT.of ha, f1, _, _, rfl, rfl, two.cmul hb (by decide) (by decide) (by decide),
      _, _, rfl, rfl, (two.mul hb).divW (by omega) (by decide) (by decide), q⟩
/-! ### multipliers -/
def MuAt (H : Hp) (v : V) : Option (Int × Nat) → Prop
  | none => v = .non
  | some r => ∃ p, v = .ref p ∧ H p = some (.tup [.int r.1, .int (r.2 : Int)])
def spMul2 : Sp := fun vs H Q _ => ∃ (pa : Addr) (n m : Int), vs = [.ref pa] ∧ FrT H pa n m ∧ Bg 60 n ∧ Bg 60 m ∧ 0 < m ∧ ∀ H' v, Same H H' → MuAt H' v (mul n m 30) → Q v H'
abbrev nLm : List Str := ["a", "s", "m"]
theorem scLm : FnScope nLm ["a"] (defScope sLMult) := ⟨rfl, rfl, rfl, by decide +kernel, rfl, by decide +kernel, by decide +kernel⟩
theorem ok_lmult {f : Addr} {fd : FuncData} (F : Fun K "_law_multiplier" "_law_multiplier" sLMult f fd) (T : Txt mg) (cLn : Calls P w K mg base CX0 1 "_law_near" ["a"] spNear) : FnOk P w K mg base CX0 2 f fd ["a"] spMul2 := by
  obtain ⟨fLn, dLn, GLn, kLn, bLn, gLn⟩ := cLn.ex
  refine F.ok scLm (fun vs H Q E h => ?_) (fun cdv A outer s H vs Q E hr1 h => ?_)
  · obtain ⟨a, _, _, rfl, _⟩ := h
    rfl
  · obtain ⟨pa, n, m, rfl, ha, b1, b2, m0, q⟩ := h
    have t2 : 2 ≤ sizeLine := by decide
    refine ⟨_, (pss_cons (ps_set (i := 1) scLm.nd rfl (.inl rfl) pe_int)
      (pss_cons (ps_while PassesOwn.never (PW.pt (pw_and (pt_cmpR op_gt (pv 1) pe_int (nomark _)) (pw_and1 (pt_cmpR op_gt (pe_call GLn hr1 (by rfl) gLn kLn bLn .nil pass0 (pa_cons (pe_tup (pa_cons (pe_op op_shl (pe_ix ix_tup (pv 0) pe_int (fun _ _ => rfl)) (pv 1)) (pa_cons (pe_ix ix_tup (pv 0) pe_int (fun _ _ => rfl)) pa_nil))) pa_nil)) pe_int (nomark _))))) (pss_one (ps_set (i := 1) scLm.nd rfl (.inl rfl) (pe_op op_sub (pv 1) pe_int))))
      (pss_cons (ps_set (i := 2) scLm.nd rfl (.inl rfl) (pe_call GLn hr1 (by rfl) gLn kLn bLn .nil pass0 (pa_cons (pe_tup (pa_cons (pe_op op_shl (pe_ix ix_tup (pv 0) pe_int (fun _ _ => rfl)) (pv 1)) (pa_cons (pe_ix ix_tup (pv 0) pe_int (fun _ _ => rfl)) pa_nil))) pa_nil)))
      (pss_one (ps_ret (pe_ifExp (PW.pt (pw_or (pt_cmpR op_eq (pv 2) pe_int (nomark _)) (pw_or1 (pt_cmpR op_gt (pv 2) pe_int (nomark _))))) pe_non (pe_tup (pa_cons (pv 2) (pa_cons (pv 1) pa_nil))))))))), ?_⟩
    have wd : n.natAbs < 2 ^ 64 := b1.mono (m := 64) (by decide)
    have tw : ∀ s : Nat, s ≤ 30 → Bg 1000 (n * 2 ^ s) := fun s hs => (b1.mul (pow_bg hs)).mono (by decide)
    refine ⟨fun k σ H' => ∃ s : Nat, σ = [some (.ref pa), some (.int (s : Int)), none] ∧ k = s ∧ 1 ≤ s ∧ s ≤ 30 ∧ Same H H' ∧ mul n m 30 = mul n m s, ⟨_, 30, rfl, rfl, by decide, by decide, Same.refl H, rfl⟩, ?_⟩
    rintro s σ H1 ⟨_, rfl, rfl, s1, s30, sm, hm⟩
    have ha1 := sm _ _ ha
    -- what is behind the loop
    have fin : (s = 1 ∨ fac n m s ≤ 65535) → mul n m 30 = if fac n m s = 0 ∨ 65535 < fac n m s then none else some (fac n m s, s) := by
      intro z
      obtain ⟨r, rfl⟩ : ∃ r, s = r + 1 := ⟨s - 1, by omega⟩
      rw [hm]
      show (if fac n m (r + 1) ≤ 65535 then _ else _) = _
      by_cases e : fac n m (r + 1) ≤ 65535
      · rw [if_pos e]
        by_cases e0 : fac n m (r + 1) = 0
        · rw [if_pos e0, if_pos (.inl e0)]
        · rw [if_neg e0, if_neg (fun z => z.elim e0 (fun z => by omega))]
      · rw [if_neg e, if_pos (.inr (by omega))]
        have : r = 0 := by
          rcases z with z | z
          · omega
          · exact absurd z e
        subst this
        rfl
    refine ⟨_, rfl, _, _, rfl, rfl, _, rfl, ite2 (fun e => ?_) (fun e => ?_)⟩
    · have e : 1 < (s : Int) := of_decide_eq_true e
      refine ⟨_, rfl, pa, _, _, _, rfl, rfl, SqT.of ha1, f0, _, rfl, _, _, rfl, rfl, ⟨by omega, by omega, wd⟩, _, rfl, pa, _, _, _, rfl, rfl, SqT.of ha1, f1, t2, fun p np => ?_⟩
      have s2 := sm.trans (same_upd (o := .tup [.int (n * 2 ^ ((s : Nat) : Int).toNat), .int m]) np)
      refine ⟨p, n * 2 ^ s, m, rfl, ?_, m0, tw s s30, b2.mono (by decide), ?_⟩
      · show upd H1 p _ p = _
        rw [upd_same]
        show some (HO.tup [V.int (n * 2 ^ ((s : Nat) : Int).toNat), V.int m]) = _
        rw [Int.toNat_natCast]
      have ef : near (n * 2 ^ s) m = fac n m s := rfl
      rw [ef]
      refine ⟨_, _, rfl, rfl, _, rfl, ite2 (fun e2 => ?_) (fun e2 => ?_)⟩
      · have e2 : 65535 < fac n m s := of_decide_eq_true e2
        refine ⟨fun σ' H'' => σ' = [some (.ref pa), some (.int ((s : Int) - 1)), none] ∧ Same H H'', ?_, ?_⟩
        · rintro σ' H'' ⟨rfl, sm'⟩
          refine ⟨s - 1, by omega, s - 1, ?_, rfl, by omega, by omega, sm', ?_⟩
          · rw [show (s : Int) - 1 = ((s - 1 : Nat) : Int) by omega]
          · rw [hm]
            obtain ⟨r, rfl⟩ : ∃ r, s = r + 1 := ⟨s - 1, by omega⟩
            show (if fac n m (r + 1) ≤ 65535 then _ else _) = _
            rw [if_neg (by omega)]
            rfl
        · exact ⟨_, rfl, _, _, rfl, rfl, rfl, s2⟩
      · have fin := fin (.inr (by have : ¬ 65535 < fac n m s := fun z => e2 (decide_eq_true z); omega))
        have ha2 := s2 _ _ ha
        refine ⟨_, rfl, pa, _, _, _, rfl, rfl, SqT.of ha2, f0, _, rfl, _, _, rfl, rfl, ⟨by omega, by omega, wd⟩, _, rfl, pa, _, _, _, rfl, rfl, SqT.of ha2, f1, t2, fun p' np' => ?_⟩
        have s3 := s2.trans (same_upd (o := .tup [.int (n * 2 ^ ((s : Nat) : Int).toNat), .int m]) np')
        refine ⟨p', n * 2 ^ s, m, rfl, ?_, m0, tw s s30, b2.mono (by decide), ?_⟩
        · show upd _ p' _ p' = _
          rw [upd_same]
          show some (HO.tup [V.int (n * 2 ^ ((s : Nat) : Int).toNat), V.int m]) = _
          rw [Int.toNat_natCast]
        rw [ef]
        refine ⟨_, rfl, rfl, _, rfl, ite2 (fun g => ?_) (fun g => ?_)⟩
        · rw [if_pos (.inl (V.int.inj (of_decide_eq_true g)))] at fin
          exact iteT (q _ _ s3 (by rw [fin]; rfl))
        · have g : ¬ fac n m s = 0 := fun z => g (decide_eq_true (by rw [z]))
          refine ⟨_, rfl, _, _, rfl, rfl, _, rfl, ite2 (fun g2 => ?_) (fun g2 => ?_)⟩
          · rw [if_pos (.inr (of_decide_eq_true g2))] at fin
            exact q _ _ s3 (by rw [fin]; rfl)
          · rw [if_neg (fun z => z.elim g fun z => g2 (decide_eq_true z))] at fin
            exact ⟨_, rfl, _, rfl, t2, fun p4 n4 => q _ _ (s3.trans (same_upd n4)) (by rw [fin]; exact ⟨p4, rfl, upd_same⟩)⟩
    · have fin := fin (.inl (by have : ¬ 1 < (s : Int) := fun z => e (decide_eq_true z); omega))
      refine iteF ?_
      refine ⟨_, rfl, pa, _, _, _, rfl, rfl, SqT.of ha1, f0, _, rfl, _, _, rfl, rfl, ⟨by omega, by omega, wd⟩, _, rfl, pa, _, _, _, rfl, rfl, SqT.of ha1, f1, t2, fun p' np' => ?_⟩
      have s3 := sm.trans (same_upd (o := .tup [.int (n * 2 ^ ((s : Nat) : Int).toNat), .int m]) np')
      refine ⟨p', n * 2 ^ s, m, rfl, ?_, m0, tw s s30, b2.mono (by decide), ?_⟩
      · show upd _ p' _ p' = _
        rw [upd_same]
        show some (HO.tup [V.int (n * 2 ^ ((s : Nat) : Int).toNat), V.int m]) = _
        rw [Int.toNat_natCast]
      have ef : near (n * 2 ^ s) m = fac n m s := rfl
      rw [ef]
      refine ⟨_, rfl, rfl, _, rfl, ite2 (fun g => ?_) (fun g => ?_)⟩
      · rw [if_pos (.inl (V.int.inj (of_decide_eq_true g)))] at fin
        exact iteT (q _ _ s3 (by rw [fin]; rfl))
      · have g : ¬ fac n m s = 0 := fun z => g (decide_eq_true (by rw [z]))
        refine ⟨_, rfl, _, _, rfl, rfl, _, rfl, ite2 (fun g2 => ?_) (fun g2 => ?_)⟩
        · rw [if_pos (.inr (of_decide_eq_true g2))] at fin
          exact q _ _ s3 (by rw [fin]; rfl)
        · rw [if_neg (fun z => z.elim g fun z => g2 (decide_eq_true z))] at fin
          exact ⟨_, rfl, _, rfl, t2, fun p4 n4 => q _ _ (s3.trans (same_upd n4)) (by rw [fin]; exact ⟨p4, rfl, upd_same⟩)⟩
abbrev nLe : List Str := ["bits", "half", "k"]
theorem scLe : FnScope nLe ["bits"] (defScope sLEnds) := ⟨rfl, rfl, rfl, by decide +kernel, rfl, by decide +kernel, by decide +kernel⟩
theorem ok_lends {f : Addr} {fd : FuncData} (F : Fun K "_law_ends" "_law_ends" sLEnds f fd) (T : Txt mg) : FnOk P w K mg base CX0 1 f fd ["bits"] spEnds := by
  refine F.ok scLe (fun vs H Q E h => ?_) (fun cdv A outer s H vs Q E hr h => ?_)
  · obtain ⟨k, rfl, _⟩ := h
    rfl
  · obtain ⟨k, rfl, k0, k9, q⟩ := h
    have t2 : 2 ≤ sizeLine := by decide
    refine ⟨_, (pss_cons (ps_set (i := 1) scLe.nd rfl (.inl rfl) pe_int)
      (pss_cons (ps_for PassesOwn.never rfl (pi_range1 rfl T.range (pa_cons (pe_op op_sub (pv 0) pe_int) pa_nil)) (pg_name (i := 2) scLe.nd rfl (.inl rfl)) (pss_one (ps_set (i := 1) scLe.nd rfl (.inl rfl) (pe_op op_mulW (pv 1) pe_int))))
      (pss_one (ps_ret (pe_tup (pa_cons (pe_op op_sub pe_int (pv 1)) (pa_cons (pe_op op_sub (pv 1) pe_int) pa_nil))))))), ?_⟩
    refine ⟨_, rfl, _, _, rfl, rfl, _, rfl, by omega, by omega, for_range (lo := 0) (n := ((k : Int) + 1 - 1).toNat) (fun i σ H' => ∃ v2, σ = [some (.int ((k : Int) + 1)), some (.int (2 ^ i)), v2] ∧ H' = H) ⟨_, rfl, rfl⟩ ?_ ?_⟩
    · rintro i σ H' hi ⟨v2, rfl, rfl⟩
      rw [k1] at hi
      refine ⟨_, rfl, _, _, rfl, rfl, ((pow_bg (s := i) (by omega)).cmul two (by decide) (by decide) (by decide)), some (.int (0 + (i : Int))), ?_, rfl⟩
      rw [Int.pow_succ]
      rfl
    · rintro σ H' ⟨v2, rfl, rfl⟩
      rw [k1]
      refine ⟨_, rfl, _, _, rfl, rfl, _, rfl, _, _, rfl, rfl, t2, fun p np => q _ p (same_upd np) ?_⟩
      rw [upd_same]
      show some (HO.tup [V.int (0 - 2 ^ k), V.int (2 ^ k - 1)]) = _
      rw [Int.zero_sub]
abbrev nLa : List Str := ["pair", "code"]
theorem scLa : FnScope nLa ["pair", "code"] (defScope sLMeans) := ⟨rfl, rfl, rfl, by decide +kernel, rfl, by decide +kernel, by decide +kernel⟩
theorem ok_lmeans {f : Addr} {fd : FuncData} (F : Fun K "_law_means" "_law_means" sLMeans f fd) (cLf : Calls P w K mg base CX0 2 "_law_frac" ["a", "b"] spLFrac) : FnOk P w K mg base CX0 3 f fd ["pair", "code"] spMean := by
  obtain ⟨fLf, dLf, GLf, kLf, bLf, gLf⟩ := cLf.ex
  refine F.ok scLa (fun vs H Q E h => ?_) (fun cdv A outer s H vs Q E hr2 h => ?_)
  · obtain ⟨_, _, _, _, _, _, rfl, _⟩ := h
    rfl
  · obtain ⟨pp, ps, n, m, z, c, rfl, hp, hs, b1, b2, b3, b4, m0, q⟩ := h
    have c1 := b1.cmul (b4.sub b3) (by decide) (by decide) (by decide)
    refine ⟨_, (pss_one (ps_ret (pe_call GLf hr2 (by rfl) gLf kLf bLf .nil pass0 (pa_cons (pe_op op_mulW (pe_ix ix_tup (pe_ix ix_tup (pv 0) pe_int (fun _ _ => rfl)) pe_int (fun _ _ => rfl)) (pe_op op_sub (pv 1) (pe_ix ix_tup (pv 0) pe_int (fun _ _ => rfl)))) (pa_cons (pe_ix ix_tup (pe_ix ix_tup (pv 0) pe_int (fun _ _ => rfl)) pe_int (fun _ _ => rfl)) pa_nil))))), ?_⟩
    exact ⟨_, rfl, pp, _, _, _, rfl, rfl, SqT.of hp, f0, ps, _, _, _, rfl, rfl, SqT.of hs, f0, _, rfl, _, rfl, pp, _, _, _, rfl, rfl, SqT.of hp, f1, _, _, rfl, rfl, _, _, rfl, rfl, c1, _, rfl, pp, _, _, _, rfl, rfl, SqT.of hp, f0, ps, _, _, _, rfl, rfl, SqT.of hs, f1, _, _, rfl, m0, b2.mono (by decide), q⟩
end

section
variable {P : Program} {w : World} {K : PySem.W.Frag} {mg : Str → Option Value} {base : Heap}
structure TxtE (K : PySem.W.Frag) (mg : Str → Option Value) (nm : Str) (Z TE : Addr) : Prop where
  nT : ErrN K mg "TensorError" TE
  gZ : mg nm = some (.ref Z)
  isi : mg "isinstance" = none
  sub : PySem.W.subIn K (.ref Z) (.ref TE) = some true
  exc : ExcC K Z
  kit : PySem.W.kitOne K (.ref Z) (.ref Z) = some true
abbrev nTD : List Str := ["a", "actual", "e"]
theorem scTD : FnScope nTD ["a"] (defScope sTold) := ⟨rfl, rfl, rfl, by decide +kernel, rfl, by decide +kernel, by decide +kernel⟩
theorem ok_told {f ZT TE : Addr} {fd : FuncData} (F : Fun K "_law_told" "_law_told" sTold f fd) (T : TxtE K mg "TableError" ZT TE) (cMu : Calls P w K mg base (L2.CX P w) 3 "multiplier" ["a"] (spMult ZT)) : FnOk P w K mg base CX0 4 f fd ["a"] spMul2 := by
  obtain ⟨fMu, dMu, GMu, kMu, bMu, gMu⟩ := cMu.ex
  refine F.ok scTD (fun vs H Q E h => ?_) (fun cdv A outer s H vs Q E hr h => ?_)
  · obtain ⟨a, _, _, rfl, _⟩ := h
    rfl
  · obtain ⟨pa, n, m, rfl, ha, b1, b2, m0, q⟩ := h
    refine ⟨_, pss_cons (ps_try_as (i := 2) (tb := fun W => tAsg (tCallS (spMult ZT) (WE W) (tCons (tVar 0) tNil)) (gName 1)) (Wout := fun _ _ _ _ => False) rfl rfl scTD.nd rfl rfl ⟨rfl, by decide, Or.inl T.nT.g⟩ takes0
        (fun W pn xe tk _ => pss_one (ps_set (i := 1) scTD.nd rfl (.inl rfl) (by exact (pe_callS GMu hr (by rfl) gMu kMu bMu (fun σ => passAt tk σ) (by exact (pa_cons (pv 0) pa_nil))))))
        (fun a oe cls d pn hz hf => su_ok hz hf))
      (pss_one (ps_ret (pv 1))), ?_⟩
    refine ⟨_, rfl, pa, n, m, rfl, ha, b1.mono (by decide), b2.mono (by decide), m0, fun hn H1 sm1 => ?_, fun f s hs H1 p sm1 hp => ?_⟩
    · refine ⟨true, T.nT.ex T.sub, fun _ ax hax => fun oe pn hz hf => ?_, fun z => nomatch z⟩
      refine ⟨_, pss_one (ps_ret (pe_ifExp (pt_val (pe_callB (call_isE T.exc hz hf) (by rfl) T.isi (by decide +kernel) (pa_cons (pv 2) (pa_cons (pe_glob (v := .ref ZT) (by rfl) T.gZ rfl) pa_nil)))) pe_non pe_str)), ?_⟩
      exact ⟨_, rfl, _, _, _, rfl, fun _ h => h, T.kit, _, rfl, iteT (q _ _ sm1 (by rw [hn]; rfl))⟩
    · exact ⟨_, rfl, q _ _ sm1 (by rw [hs]; exact ⟨p, rfl, hp⟩)⟩
def spCoded : Sp := fun vs H Q _ => ∃ (pp ps px : Addr) (n m z xn xm b : Int), vs = [.ref pp, .int b, .ref px] ∧ H pp = some (.tup [.ref ps, .int z]) ∧ FrT H ps n m ∧ FrT H px xn xm ∧ Bg 100 n ∧ Bg 100 m ∧ Bg 100 xn ∧ Bg 100 xm ∧ 0 < n ∧ 0 < m ∧ 0 < xm ∧ (b < 3 ∨ 12 < b → Q .non H) ∧
  (∀ k : Nat, b = (k : Int) + 1 → 2 ≤ k → k ≤ 11 → ∀ H', Same H H' → Q (.int (lim (near (xn * m) (xm * n) + z) (-(2 ^ k)) (2 ^ k - 1))) H')
abbrev nCd : List Str := ["pair", "bits", "x", "actual", "e"]
theorem scCd : FnScope nCd ["pair", "bits", "x"] (defScope sCoded) := ⟨rfl, rfl, rfl, by decide +kernel, rfl, by decide +kernel, by decide +kernel⟩
theorem ok_coded {f ZR TE : Addr} {fd : FuncData} (F : Fun K "_law_coded" "_law_coded" sCoded f fd) (T : TxtE K mg "RangeError" ZR TE) (cCo : Calls P w K mg base (L2.CX P w) 3 "code_of" ["pair", "bits", "x"] (spCode ZR)) : FnOk P w K mg base CX0 4 f fd ["pair", "bits", "x"] spCoded := by
  obtain ⟨fCo, dCo, GCo, kCo, bCo, gCo⟩ := cCo.ex
  refine F.ok scCd (fun vs H Q E h => ?_) (fun cdv A outer s H vs Q E hr h => ?_)
  · obtain ⟨_, _, _, _, _, _, _, _, _, rfl, _⟩ := h
    rfl
  · obtain ⟨pp, ps, px, n, m, z, xn, xm, b, rfl, hp, hs, hx, b1, b2, b3, b4, n0, m0, xm0, qe, q⟩ := h
    refine ⟨_, pss_cons (ps_try_as (i := 4) (tb := fun W => tAsg (tCallS (spCode ZR) (WE W) (tCons (tVar 0) (tCons (tVar 1) (tCons (tVar 2) tNil)))) (gName 3)) (Wout := fun _ _ _ _ => False) rfl rfl scCd.nd rfl rfl ⟨rfl, by decide, Or.inl T.nT.g⟩ takes0
        (fun W pn xe tk _ => pss_one (ps_set (i := 3) scCd.nd rfl (.inl rfl) (by exact (pe_callS GCo hr (by rfl) gCo kCo bCo (fun σ => passAt tk σ) (by exact (pa_cons (pv 0) (pa_cons (pv 1) (pa_cons (pv 2) pa_nil))))))))
        (fun a oe cls d pn hz hf => su_ok hz hf))
      (pss_one (ps_ret (pv 3))), ?_⟩
    refine ⟨_, rfl, _, rfl, _, rfl, pp, ps, px, n, m, z, xn, xm, b, rfl, hp, hs, hx, b1, b2, b3, b4, n0, m0, xm0, fun hb => ?_, fun k hk k2 k11 H1 sm1 => ?_⟩
    · refine ⟨true, T.nT.ex T.sub, fun _ ax hax => fun oe pn hz hf => ?_, fun z => nomatch z⟩
      refine ⟨_, pss_one (ps_ret (pe_ifExp (pt_val (pe_callB (call_isE T.exc hz hf) (by rfl) T.isi (by decide +kernel) (pa_cons (pv 4) (pa_cons (pe_glob (v := .ref ZR) (by rfl) T.gZ rfl) pa_nil)))) pe_non pe_str)), ?_⟩
      exact ⟨_, rfl, _, _, _, rfl, fun _ h => h, T.kit, _, rfl, iteT (qe hb)⟩
    · exact ⟨_, rfl, q k hk k2 k11 _ sm1⟩
/-! ### what is drawn -/
def spDrawn : Sp := fun vs H Q _ => ∃ (d c : Addr), vs = [.ref d] ∧ DrAt H d c ∧ ∀ H' p n m, Kb d H H' → DrAt H' d c → FrT H' p n m → 0 < n → 0 < m → Bg 45 n → Bg 45 m → Q (.ref p) H'
theorem bg45 {v : Int} (h0 : 0 ≤ v) (h1 : v ≤ 10000000000000) : Bg 45 v := by
  unfold Bg
  have : (2 ^ 45 : Nat) = 35184372088832 := by decide
  omega
theorem pow_pos' (k : Nat) : (0 : Int) < 2 ^ k := Int.pow_pos (by decide)
theorem pow45 {k : Nat} (h : k < 45) : Bg 45 ((2 : Int) ^ k) := by
  unfold Bg
  rw [Int.natAbs_pow]
  exact Nat.pow_lt_pow_right (by decide) h
theorem mosts {v : Int} (h0 : 0 ≤ v) (h1 : v < 3) : ∃ i : Int, atI [V.int 20, .int (10 ^ (6 : Int).toNat), .int (10 ^ (12 : Int).toNat)] v = some (.int i) ∧ 0 < i ∧ i ≤ 1000000000000 := by
  have : v = 0 ∨ v = 1 ∨ v = 2 := by omega
  rcases this with rfl | rfl | rfl
  · exact ⟨20, rfl, by decide, by decide⟩
  · exact ⟨10 ^ (6 : Int).toNat, rfl, by decide, by decide⟩
  · exact ⟨10 ^ (12 : Int).toNat, rfl, by decide, by decide⟩
theorem bnd12 {m : Int} (h : m ≤ 1000000000000) : Bnd m := by
  unfold Bnd
  have : (1000000000000 : Int) < 2 ^ 400 := by decide +kernel
  omega
abbrev nD : List Str := ["d", "menu", "most"]
theorem scD : FnScope nD ["d"] (defScope sDrawn) := ⟨rfl, rfl, rfl, by decide +kernel, rfl, by decide +kernel, by decide +kernel⟩
theorem ok_drawn {f : Addr} {fd : FuncData} (F : Fun K "_law_drawn" "_law_drawn" sDrawn f fd) (cT : Calls P w K mg base CX0 1 "_law_take" ["d", "many"] spTake) (cLf : Calls P w K mg base CX0 2 "_law_frac" ["a", "b"] spLFrac) : FnOk P w K mg base CX0 3 f fd ["d"] spDrawn := by
  obtain ⟨fT, dT, GT, kT, bT, gT⟩ := cT.ex
  obtain ⟨fLf, dLf, GLf, kLf, bLf, gLf⟩ := cLf.ex
  refine F.ok scD (fun vs H Q E h => ?_) (fun cdv A outer s H vs Q E hr2 h => ?_)
  · obtain ⟨_, _, rfl, _⟩ := h
    rfl
  · obtain ⟨d, c, rfl, dr, q⟩ := h
    have hr1 : Room 1 _ := hr2.mono (by decide)
    have t2 : 2 ≤ sizeLine := by decide
    have t3 : 3 ≤ sizeLine := by decide
    refine ⟨_, (pss_cons (ps_set (i := 1) scD.nd rfl (.inl rfl) (pe_call GT hr1 (by rfl) gT kT bT .nil pass0 (pa_cons (pv 0) (pa_cons pe_int pa_nil))))
      (pss_cons (ps_if (pt_cmpR op_eq (pv 1) pe_int (nomark _)) (pss_one (ps_ret (pe_tup (pa_cons (pe_op op_shl pe_int (pe_call GT hr1 (by rfl) gT kT bT .nil pass0 (pa_cons (pv 0) (pa_cons pe_int pa_nil)))) (pa_cons pe_int pa_nil))))) pss_nil)
      (pss_cons (ps_if (pt_cmpR op_eq (pv 1) pe_int (nomark _)) (pss_one (ps_ret (pe_tup (pa_cons pe_int (pa_cons (pe_op op_shl pe_int (pe_call GT hr1 (by rfl) gT kT bT .nil pass0 (pa_cons (pv 0) (pa_cons pe_int pa_nil)))) pa_nil))))) pss_nil)
      (pss_cons (ps_if (pt_cmpR op_eq (pv 1) pe_int (nomark _)) (pss_one (ps_ret (pe_call GLf hr2 (by rfl) gLf kLf bLf .nil pass0 (pa_cons (pe_op op_add pe_int (pe_call GT hr1 (by rfl) gT kT bT .nil pass0 (pa_cons (pv 0) (pa_cons pe_int pa_nil)))) (pa_cons (pe_op op_add pe_int (pe_call GT hr1 (by rfl) gT kT bT .nil pass0 (pa_cons (pv 0) (pa_cons pe_int pa_nil)))) pa_nil))))) pss_nil)
      (pss_cons (ps_set (i := 2) scD.nd rfl (.inl rfl) (pe_ix ix_tup (pe_tup (pa_cons pe_int (pa_cons (pe_op op_pow pe_int pe_int) (pa_cons (pe_op op_pow pe_int pe_int) pa_nil)))) (pe_op op_sub (pv 1) pe_int) (fun _ _ => rfl)))
      (pss_one (ps_ret (pe_call GLf hr2 (by rfl) gLf kLf bLf .nil pass0 (pa_cons (pe_op op_add pe_int (pe_call GT hr1 (by rfl) gT kT bT .nil pass0 (pa_cons (pv 0) (pa_cons (pv 2) pa_nil)))) (pa_cons (pe_op op_add pe_int (pe_call GT hr1 (by rfl) gT kT bT .nil pass0 (pa_cons (pv 0) (pa_cons (pv 2) pa_nil)))) pa_nil)))))))))), ?_⟩
    refine ⟨_, rfl, d, c, 6, rfl, dr, by decide, bnd_le (by decide), fun H1 u k1 dr1 u0 u1 => ?_⟩
    have k1 := k1.kb
    refine ⟨_, rfl, rfl, _, rfl, ite2 (fun e => ?_) (fun e => ?_)⟩
    · refine ⟨_, rfl, d, c, 18, rfl, dr1, by decide, bnd_le (by decide), fun H2 v k2 dr2 v0 v1 => ?_⟩
      obtain ⟨k, rfl⟩ : ∃ k : Nat, v = (k : Int) := ⟨v.toNat, by omega⟩
      refine ⟨_, _, rfl, rfl, ⟨by omega, by omega, by decide⟩, t2, fun p np => ?_⟩
      have s3 := same_upd (o := .tup [.int (1 * 2 ^ ((k : Nat) : Int).toNat), .int 1]) np
      refine q _ p (2 ^ k) 1 ((k1.trans k2.kb).trans (skb s3)) (dr2.same s3) ?_ (pow_pos' k) (by decide) (pow45 (by omega)) (one_bg (by decide))
      show upd H2 p _ p = _
      rw [upd_same]
      show some (HO.tup [V.int (1 * 2 ^ ((k : Nat) : Int).toNat), V.int 1]) = _
      rw [Int.toNat_natCast, Int.one_mul]
    refine ⟨_, rfl, rfl, _, rfl, ite2 (fun e => ?_) (fun e => ?_)⟩
    · refine ⟨_, rfl, d, c, 36, rfl, dr1, by decide, bnd_le (by decide), fun H2 v k2 dr2 v0 v1 => ?_⟩
      obtain ⟨k, rfl⟩ : ∃ k : Nat, v = (k : Int) := ⟨v.toNat, by omega⟩
      refine ⟨_, _, rfl, rfl, ⟨by omega, by omega, by decide⟩, t2, fun p np => ?_⟩
      have s3 := same_upd (o := .tup [.int 1, .int (1 * 2 ^ ((k : Nat) : Int).toNat)]) np
      refine q _ p 1 (2 ^ k) ((k1.trans k2.kb).trans (skb s3)) (dr2.same s3) ?_ (by decide) (pow_pos' k) (one_bg (by decide)) (pow45 (by omega))
      show upd H2 p _ p = _
      rw [upd_same]
      show some (HO.tup [V.int 1, V.int (1 * 2 ^ ((k : Nat) : Int).toNat)]) = _
      rw [Int.toNat_natCast, Int.one_mul]
    refine ⟨_, rfl, rfl, _, rfl, ite2 (fun e => ?_) (fun e => ?_)⟩
    · refine ⟨_, rfl, d, c, 4, rfl, dr1, by decide, bnd_le (by decide), fun H2 v k2 dr2 v0 v1 => ?_⟩
      refine ⟨_, _, rfl, rfl, _, rfl, d, c, 3, rfl, dr2, by decide, bnd_le (by decide), fun H3 x k3 dr3 x0 x1 => ?_⟩
      refine ⟨_, _, rfl, rfl, 65534 + v, 1 + x, rfl, by omega, (bg45 (by omega) (by omega)).mono (by decide), fun H4 p s4 hp => ?_⟩
      exact q _ p _ _ (((k1.trans k2.kb).trans k3.kb).trans (skb s4)) (dr3.same s4) hp (fa_pos (by omega) (by omega)) (fab (by omega)).choose_spec.2.2.2 (bga (by omega) (bg45 (by omega) (by omega))) (bgb (by omega) (bg45 (by omega) (by omega)))
    have u3 : 3 ≤ u := by
      have n0 : u ≠ 0 := fun z => by subst z; exact absurd ‹¬ decide (V.int 0 = V.int 0) = true› (by decide)
      have n1 : u ≠ 1 := fun z => by subst z; exact absurd ‹¬ decide (V.int 1 = V.int 1) = true› (by decide)
      have n2 : u ≠ 2 := fun z => by subst z; exact absurd ‹¬ decide (V.int 2 = V.int 2) = true› (by decide)
      omega
    obtain ⟨i, hi, i0, i1⟩ := mosts (v := u - 3) (by omega) (by omega)
    refine ⟨_, _, rfl, rfl, ⟨by decide, by decide, by decide⟩, _, _, rfl, rfl, ⟨by decide, by decide, by decide⟩, t3, fun pt nt => ?_⟩
    have st := same_upd (o := .tup [V.int 20, .int (10 ^ (6 : Int).toNat), .int (10 ^ (12 : Int).toNat)]) nt
    refine ⟨_, rfl, _, _, rfl, rfl, pt, _, _, _, rfl, rfl, SqT.of upd_same, hi, ?_⟩
    have dr1 := dr1.same st
    refine ⟨_, rfl, _, rfl, d, c, i, rfl, dr1, i0, bnd12 i1, fun H2 v k2 dr2 v0 v1 => ?_⟩
    refine ⟨_, _, rfl, rfl, _, rfl, _, rfl, d, c, i, rfl, dr2, i0, bnd12 i1, fun H3 x k3 dr3 x0 x1 => ?_⟩
    refine ⟨_, _, rfl, rfl, 1 + v, 1 + x, rfl, by omega, (bg45 (by omega) (by omega)).mono (by decide), fun H4 p s4 hp => ?_⟩
    exact q _ p _ _ ((((k1.trans (skb st)).trans k2.kb).trans k3.kb).trans (skb s4)) (dr3.same s4) hp (fa_pos (by omega) (by omega)) (fab (by omega)).choose_spec.2.2.2 (bga (by omega) (bg45 (by omega) (by omega))) (bgb (by omega) (bg45 (by omega) (by omega)))
end

section
variable {P : Program} {w : World} {K : PySem.W.Frag} {mg : Str → Option Value} {base : Heap}
theorem gap_core {c h g xn xm n m k A Bq e T B : Int} (hT : T = xn * m) (hB : B = xm * n) (h1 : A * g = n * k) (h2 : Bq * g = m) (h3 : c * h = xn * Bq + (0 - A) * xm) (h4 : e * h = xm * Bq) : c * h * g = T - B * k ∧ n * e * (h * g) = B * m := by
  constructor
  · grind
  · grind
theorem gap_ok {xn xm n m : Int} (xm0 : 0 < xm) (n0 : 0 < n) (m0 : 0 < m) {k A Bq c e : Int} (hk : k = near (xn * m) (xm * n)) (hA : A = fa (n * k) m) (hBq : Bq = fb (n * k) m) (hc : c = fa (xn * Bq + (0 - A) * xm) (xm * Bq)) (he : e = fb (xn * Bq + (0 - A) * xm) (xm * Bq)) :
    ¬ n * e < 2 * (if c < 0 then -c else c) * m := by
  obtain ⟨g, g0, g1, g2, g3⟩ := fab (t := n * k) m0
  rw [← hA] at g1
  rw [← hBq] at g2 g3
  obtain ⟨h, h0, h1, h2, h3⟩ := fab (t := xn * Bq + (0 - A) * xm) (Int.mul_pos xm0 g3)
  rw [← hc] at h1
  rw [← he] at h2 h3
  obtain ⟨e1, e2⟩ := gap_core rfl rfl g1 g2 h1 h2
  have hB : 0 < xm * n := Int.mul_pos xm0 n0
  unfold near at hk
  have d1 := Int.mul_ediv_add_emod (2 * (xn * m) + xm * n) (2 * (xm * n))
  have d2 := Int.emod_nonneg (2 * (xn * m) + xm * n) (show 2 * (xm * n) ≠ 0 by omega)
  have d3 := Int.emod_lt_of_pos (2 * (xn * m) + xm * n) (show 0 < 2 * (xm * n) by omega)
  rw [← hk] at d1
  have hg : 0 < h * g := Int.mul_pos h0 g0
  intro z
  have z2 : n * e * (h * g) < 2 * (if c < 0 then -c else c) * m * (h * g) := Int.mul_lt_mul_of_pos_right z hg
  have e3 : 2 * (if c < 0 then -c else c) * m * (h * g) = (2 * ((if c < 0 then -c else c) * h * g)) * m := by grind
  rw [e2, e3] at z2
  have z3 : xm * n < 2 * ((if c < 0 then -c else c) * h * g) := Int.lt_of_mul_lt_mul_right z2 (by omega)
  have e4 : 2 * (xm * n) * k = 2 * ((xm * n) * k) := by rw [Int.mul_assoc]
  rw [e4] at d1
  generalize xm * n * k = Bk at *
  generalize xm * n = B at *
  generalize xn * m = T at *
  by_cases hc0 : c < 0
  · rw [if_pos hc0] at z3
    have e5 : -c * h * g = -(c * h * g) := by grind
    rw [e5, e1] at z3
    omega
  · rw [if_neg hc0, e1] at z3
    omega
theorem lim_mm {n lo hi : Int} (h : lo ≤ hi) : (if (if n < hi then n else hi) > lo then (if n < hi then n else hi) else lo) = lim n lo hi := by
  unfold lim
  split <;> split <;> split <;> (try split) <;> omega
theorem lim_in {n lo hi : Int} (h : lo ≤ hi) : lo ≤ lim n lo hi ∧ lim n lo hi ≤ hi := by
  unfold lim
  split
  · omega
  · split <;> omega
theorem p11 {k : Nat} (h : k ≤ 11) : (2 : Int) ^ k ≤ 2048 := by
  have h1 := Nat.pow_le_pow_right (n := 2) (by decide) h
  have e : ((2 ^ k : Nat) : Int) = 2 ^ k := by rw [Int.natCast_pow]; rfl
  have : (2 ^ 11 : Nat) = 2048 := by decide
  omega
theorem bgs {n : Nat} {v : Int} (hn : 45 ≤ n) (h0 : -10000000000000 ≤ v) (h1 : v ≤ 10000000000000) : Bg n v := by
  refine Bg.mono ?_ hn
  unfold Bg
  have : (2 ^ 45 : Nat) = 35184372088832 := by decide
  omega
theorem mosts2 {v : Int} (h0 : 0 ≤ v) (h1 : v < 3) : ∃ i : Int, atI [V.int 9, .int (10 ^ (4 : Int).toNat), .int (10 ^ (9 : Int).toNat)] v = some (.int i) ∧ 0 < i ∧ i ≤ 1000000000 := by
  have : v = 0 ∨ v = 1 ∨ v = 2 := by omega
  rcases this with rfl | rfl | rfl
  · exact ⟨9, rfl, by decide, by decide⟩
  · exact ⟨10 ^ (4 : Int).toNat, rfl, by decide, by decide⟩
  · exact ⟨10 ^ (9 : Int).toNat, rfl, by decide, by decide⟩
def muD : Option (Int × Nat) → PyData
  | none => .none
  | some r => .tuple [.int r.1, .int (r.2 : Int)]
theorem two_shaped (a b : Int) : SeqAt.shaped (.tuple [.int a, .int b]) = true := by
  show (PyData.canLay0 (.tuple [.int a, .int b]) && decide (PyData.depth (.tuple [.int a, .int b]) ≤ 64)) = true
  rw [Bool.and_eq_true]
  exact ⟨by simp [PyData.canLay0, PyData.canLayAll0], decide_eq_true (by simp [PyData.depth, PyData.depthAll])⟩
theorem muD_shaped : ∀ r, SeqAt.shaped (muD r) = true
  | none => by decide +kernel
  | some r => two_shaped _ _
theorem two_dp {K : PySem.W.Frag} {H : Hp} {p : Addr} {a b : Int} (h : FrT H p a b) : Dp K H (.ref p) (.tuple [.int a, .int b]) := .tup (SqT.of h) (.cons (.int _) (.cons (.int _) .nil))
theorem mu_dp {K : PySem.W.Frag} {H : Hp} {v : V} : ∀ {r}, MuAt H v r → Dp K H v (muD r)
  | none, h => by
    cases h
    exact .non
  | some r, h => by
    obtain ⟨p, rfl, hp⟩ := h
    exact two_dp hp
theorem eqv_self {d : PyData} (h : SeqAt.shaped d = true) : PyData.eqv d d = true := by
  unfold SeqAt.shaped at h
  rw [Bool.and_eq_true] at h
  exact PySem.SeqAt.eqv_refl d h.1
structure Fz (H : Hp) (d c pp ps : Addr) (n m z : Int) : Prop where
  dr : DrAt H d c
  p : H pp = some (.tup [.ref ps, .int z])
  s : FrT H ps n m
theorem Fz.kb {H H' : Hp} {d c pp ps : Addr} {n m z : Int} (f : Fz H d c pp ps n m z) (k : Kb d H H') (dr : DrAt H' d c) : Fz H' d c pp ps n m z := ⟨dr, k.tup f.dr f.p, k.tup f.dr f.s⟩
theorem Fz.same {H H' : Hp} {d c pp ps : Addr} {n m z : Int} (f : Fz H d c pp ps n m z) (k : Same H H') : Fz H' d c pp ps n m z := f.kb (skb k) (f.dr.same k)
def spLaw (K : PySem.W.Frag) : Sp := fun vs H Q _ => ∃ (a : Addr) (ns : List Int), vs = [.ref a] ∧ SqL K H a (ns.map V.int) ∧ ns.length ≤ 63 ∧ ∀ H', Q (.bl true) H'
abbrev nL : List Str := ["script", "d", "turn", "a", "told", "bits", "low", "high", "pair", "x", "wanted", "code", "gap"]
theorem scL : FnScope nL ["script"] (defScope sLaw) := ⟨rfl, rfl, rfl, by decide +kernel, rfl, by decide +kernel, by decide +kernel⟩
theorem ok_law {f : Addr} {fd : FuncData} (F : Fun K "law" "law" sLaw f fd) (T : Txt mg) (cB : Calls P w K mg base CX0 1 "_law_begin" ["script"] (spBegin K)) (cT : Calls P w K mg base CX0 1 "_law_take" ["d", "many"] spTake) (cS : Calls P w K mg base CX0 2 "_law_signed" ["d", "most"] spSigned) (cN : Calls P w K mg base CX0 1 "_law_int" ["actual"] spInt) (cLp : Calls P w K mg base CX0 4 "_law_gap" ["a", "b"] spLGap) (cLo : Calls P w K mg base CX0 3 "_law_over" ["a", "b"] spOver) (cLn : Calls P w K mg base CX0 1 "_law_near" ["a"] spNear) (cLf : Calls P w K mg base CX0 2 "_law_frac" ["a", "b"] spLFrac) (cLm : Calls P w K mg base CX0 2 "_law_multiplier" ["a"] spMul2) (cLe : Calls P w K mg base CX0 1 "_law_ends" ["bits"] spEnds) (cLa : Calls P w K mg base CX0 3 "_law_means" ["pair", "code"] spMean) (cTo : Calls P w K mg base CX0 4 "_law_told" ["a"] spMul2) (cCd : Calls P w K mg base CX0 4 "_law_coded" ["pair", "bits", "x"] spCoded) (cD : Calls P w K mg base CX0 3 "_law_drawn" ["d"] spDrawn) (cMe : Calls P w K mg base CX0 3 "meaning_of" ["pair", "code"] spMean) : FnOk P w K mg base CX0 5 f fd ["script"] (spLaw K) := by
  obtain ⟨fB, dB, GB, kB, bB, gB⟩ := cB.ex
  obtain ⟨fT, dT, GT, kT, bT, gT⟩ := cT.ex
  obtain ⟨fS, dS, GS, kS, bS, gS⟩ := cS.ex
  obtain ⟨fN, dN, GN, kN, bN, gN⟩ := cN.ex
  obtain ⟨fLp, dLp, GLp, kLp, bLp, gLp⟩ := cLp.ex
  obtain ⟨fLo, dLo, GLo, kLo, bLo, gLo⟩ := cLo.ex
  obtain ⟨fLn, dLn, GLn, kLn, bLn, gLn⟩ := cLn.ex
  obtain ⟨fLf, dLf, GLf, kLf, bLf, gLf⟩ := cLf.ex
  obtain ⟨fLm, dLm, GLm, kLm, bLm, gLm⟩ := cLm.ex
  obtain ⟨fLe, dLe, GLe, kLe, bLe, gLe⟩ := cLe.ex
  obtain ⟨fLa, dLa, GLa, kLa, bLa, gLa⟩ := cLa.ex
  obtain ⟨fTo, dTo, GTo, kTo, bTo, gTo⟩ := cTo.ex
  obtain ⟨fCd, dCd, GCd, kCd, bCd, gCd⟩ := cCd.ex
  obtain ⟨fD, dD, GD, kD, bD, gD⟩ := cD.ex
  obtain ⟨fMe, dMe, GMe, kMe, bMe, gMe⟩ := cMe.ex
  refine F.ok scL (fun vs H Q E h => ?_) (fun cdv A outer s H vs Q E hr4 h => ?_)
  · obtain ⟨a, ns, rfl, _⟩ := h
    rfl
  · obtain ⟨a, ns, rfl, hS, hlen, q⟩ := h
    have hr1 : Room 1 _ := hr4.mono (by decide)
    have hr2 : Room 2 _ := hr4.mono (by decide)
    have hr3 : Room 3 _ := hr4.mono (by decide)
    have t2 : 2 ≤ sizeLine := by decide
    have t3 : 3 ≤ sizeLine := by decide
    refine ⟨_, (pss_cons (ps_set (i := 1) scL.nd rfl (.inl rfl) (pe_call GB hr1 (by rfl) gB kB bB .nil pass0 (pa_cons (pv 0) pa_nil)))
      (pss_cons (ps_for PassesOwn.never rfl (pi_range1 rfl T.range (pa_cons pe_int pa_nil)) (pg_name (i := 2) scL.nd rfl (.inl rfl)) (pss_cons (ps_set (i := 3) scL.nd rfl (.inl rfl) (pe_call GD hr3 (by rfl) gD kD bD .nil pass0 (pa_cons (pv 1) pa_nil)))
      (pss_cons (ps_set (i := 4) scL.nd rfl (.inl rfl) (pe_call GTo hr4 (by rfl) gTo kTo bTo .nil pass0 (pa_cons (pv 3) pa_nil)))
      (pss_cons (ps_if (pt_cmpR (op_neD hr4.units) (pv 4) (pe_call GLm hr2 (by rfl) gLm kLm bLm .nil pass0 (pa_cons (pv 3) pa_nil)) (nomark _)) (pss_one (ps_ret pe_bl)) pss_nil)
      (pss_one (ps_if (PW.pt (pw_and (pt_cmpR op_notN (pv 4) pe_non (nomark _)) (pw_and1 (PW.pt (pw_or (pt_not (pt_val (pe_callB call_isi (by rfl) T.isi (by decide +kernel) (pa_cons (pv 4) (pa_cons (pe_bltn (v := .ty "tuple") (by rfl) T.tuple (by decide +kernel) rfl) pa_nil))))) (pw_or (pt_not (pt_val (pe_call GN hr1 (by rfl) gN kN bN .nil pass0 (pa_cons (pe_ix ix_tup (pv 4) pe_int (fun _ _ => rfl)) pa_nil)))) (pw_or1 (pt_not (pt_val (pe_call GN hr1 (by rfl) gN kN bN .nil pass0 (pa_cons (pe_ix ix_tup (pv 4) pe_int (fun _ _ => rfl)) pa_nil))))))))))) (pss_one (ps_ret pe_bl)) pss_nil))))))
      (pss_cons (ps_set (i := 5) scL.nd rfl (.inl rfl) (pe_op op_add pe_int (pe_call GT hr1 (by rfl) gT kT bT .nil pass0 (pa_cons (pv 1) (pa_cons pe_int pa_nil)))))
      (pss_cons (ps_asg (pe_call GLe hr1 (by rfl) gLe kLe bLe .nil pass0 (pa_cons (pv 5) pa_nil)) (pg_tup rfl (pgs_cons (pg_name (i := 6) scL.nd rfl (.inl rfl)) (pgs_cons (pg_name (i := 7) scL.nd rfl (.inl rfl)) pgs_nil))))
      (pss_cons (ps_set (i := 8) scL.nd rfl (.inl rfl) (pe_tup (pa_cons (pe_call GD hr3 (by rfl) gD kD bD .nil pass0 (pa_cons (pv 1) pa_nil)) (pa_cons (pe_op op_add (pv 6) (pe_call GT hr1 (by rfl) gT kT bT .nil pass0 (pa_cons (pv 1) (pa_cons (pe_op op_add (pe_op op_sub (pv 7) (pv 6)) pe_int) pa_nil)))) pa_nil))))
      (pss_cons (ps_for PassesOwn.never rfl (pi_range1 rfl T.range (pa_cons pe_int pa_nil)) (pg_name (i := 2) scL.nd rfl (.inl rfl)) (pss_cons (ps_set (i := 9) scL.nd rfl (.inl rfl) (pe_call GLf hr2 (by rfl) gLf kLf bLf .nil pass0 (pa_cons (pe_call GS hr2 (by rfl) gS kS bS .nil pass0 (pa_cons (pv 1) (pa_cons (pe_ix ix_tup (pe_tup (pa_cons pe_int (pa_cons (pe_op op_pow pe_int pe_int) (pa_cons (pe_op op_pow pe_int pe_int) pa_nil)))) (pe_call GT hr1 (by rfl) gT kT bT .nil pass0 (pa_cons (pv 1) (pa_cons pe_int pa_nil))) (fun _ _ => rfl)) pa_nil))) (pa_cons (pe_op op_add pe_int (pe_call GT hr1 (by rfl) gT kT bT .nil pass0 (pa_cons (pv 1) (pa_cons pe_int pa_nil)))) pa_nil))))
      (pss_cons (ps_set (i := 10) scL.nd rfl (.inl rfl) (pe_op op_add (pe_call GLn hr1 (by rfl) gLn kLn bLn .nil pass0 (pa_cons (pe_call GLo hr3 (by rfl) gLo kLo bLo .nil pass0 (pa_cons (pv 9) (pa_cons (pe_ix ix_tup (pv 8) pe_int (fun _ _ => rfl)) pa_nil))) pa_nil)) (pe_ix ix_tup (pv 8) pe_int (fun _ _ => rfl))))
      (pss_cons (ps_set (i := 11) scL.nd rfl (.inl rfl) (pe_call GCd hr4 (by rfl) gCd kCd bCd .nil pass0 (pa_cons (pv 8) (pa_cons (pv 5) (pa_cons (pv 9) pa_nil)))))
      (pss_cons (ps_if (PW.pt (pw_or (pt_not (pt_val (pe_call GN hr1 (by rfl) gN kN bN .nil pass0 (pa_cons (pv 11) pa_nil)))) (pw_or1 (pt_cmpR op_ne (pv 11) (pe_callB (call_max2 rfl) (by rfl) T.max (by decide +kernel) (pa_cons (pv 6) (pa_cons (pe_callB (call_min2 rfl) (by rfl) T.min (by decide +kernel) (pa_cons (pv 7) (pa_cons (pv 10) pa_nil))) pa_nil))) (nomark _))))) (pss_one (ps_ret pe_bl)) pss_nil)
      (pss_cons (ps_if (pt_cmpR (op_neD hr4.units) (pe_call GMe hr3 (by rfl) gMe kMe bMe .nil pass0 (pa_cons (pv 8) (pa_cons (pv 11) pa_nil))) (pe_call GLa hr3 (by rfl) gLa kLa bLa .nil pass0 (pa_cons (pv 8) (pa_cons (pv 11) pa_nil))) (nomark _)) (pss_one (ps_ret pe_bl)) pss_nil)
      (pss_one (ps_if (pt_cmpR op_eq (pv 11) (pv 10) (nomark _)) (pss_cons (ps_set (i := 12) scL.nd rfl (.inl rfl) (pe_call GLp hr4 (by rfl) gLp kLp bLp .nil pass0 (pa_cons (pv 9) (pa_cons (pe_call GLa hr3 (by rfl) gLa kLa bLa .nil pass0 (pa_cons (pv 8) (pa_cons (pv 11) pa_nil))) pa_nil))))
      (pss_one (ps_if (pt_cmpR op_gt (pe_op op_mulW (pe_op op_mulW pe_int (pe_ix ix_tup (pv 12) pe_int (fun _ _ => rfl))) (pe_ix ix_tup (pe_ix ix_tup (pv 8) pe_int (fun _ _ => rfl)) pe_int (fun _ _ => rfl))) (pe_op op_mulW (pe_ix ix_tup (pe_ix ix_tup (pv 8) pe_int (fun _ _ => rfl)) pe_int (fun _ _ => rfl)) (pe_ix ix_tup (pv 12) pe_int (fun _ _ => rfl))) (nomark _)) (pss_one (ps_ret pe_bl)) pss_nil))) pss_nil))))))))
      (pss_one (ps_ret (pe_and (pe_cmpR op_isN (pe_call GCd hr4 (by rfl) gCd kCd bCd .nil pass0 (pa_cons (pv 8) (pa_cons pe_int (pa_cons (pe_tup (pa_cons pe_int (pa_cons pe_int pa_nil))) pa_nil)))) pe_non (nomark _)) (pe_one (pe_cmpR op_isN (pe_call GCd hr4 (by rfl) gCd kCd bCd .nil pass0 (pa_cons (pv 8) (pa_cons pe_int (pa_cons (pe_tup (pa_cons pe_int (pa_cons pe_int pa_nil))) pa_nil)))) pe_non (nomark _)))))))))))), ?_⟩
    refine ⟨_, rfl, a, ns, rfl, hS, hlen, fun H1 d c sm1 nd nc dr => ?_⟩
    clear sm1 nd nc
    refine ⟨4, rfl, by decide, by decide, for_range (lo := 0) (n := 4) (fun i σ H' => ∃ (v2 v3 v4 : Option V), σ = [some (.ref a), some (.ref d), v2, v3, v4, none, none, none, none, none, none, none, none] ∧ DrAt H' d c) ⟨_, _, _, rfl, dr⟩ ?_ ?_⟩
    · clear dr
      rintro i σ H2 hi ⟨v2, v3, v4, rfl, dr⟩
      refine ⟨_, rfl, d, c, rfl, dr, fun H3 p n m k3 dr3 hp n0 m0 b1 b2 => ?_⟩
      refine ⟨_, rfl, p, n, m, rfl, hp, b1.mono (by decide), b2.mono (by decide), m0, fun H4 v s4 hv => ?_⟩
      refine ⟨_, rfl, _, rfl, p, n, m, rfl, s4 _ _ hp, b1.mono (by decide), b2.mono (by decide), m0, fun H5 v' s5 hv' => ?_⟩
      have dr5 := (dr3.same s4).same s5
      generalize mul n m 30 = r at hv hv'
      have hv : MuAt H5 v r := by
        cases r with
        | none => exact hv
        | some r => exact ⟨hv.choose, hv.choose_spec.1, s5 _ _ hv.choose_spec.2⟩
      refine ⟨muD r, muD r, mu_dp hv, mu_dp hv', muD_shaped r, muD_shaped r, _, rfl, ?_⟩
      rw [eqv_self (muD_shaped r)]
      refine iteF ?_
      cases r with
      | none =>
        cases hv
        refine ⟨_, rfl, rfl, _, rfl, ?_⟩
        rw [decide_eq_true (show V.non = V.non from rfl)]
        exact iteF (iteF ⟨_, _, _, rfl, dr5⟩)
      | some r =>
        obtain ⟨x, rfl, hx⟩ := hv
        refine ⟨_, rfl, rfl, _, rfl, ?_⟩
        rw [decide_eq_false (show ¬ V.ref x = V.non from fun z => nomatch z)]
        refine iteT ⟨_, rfl, _, _, _, _, true, rfl, ClsV.ty "tuple", TyX.base (TyOf.tup hx), kit_ty (by decide +kernel), _, rfl, iteF ?_⟩
        refine ⟨_, rfl, x, _, _, _, rfl, rfl, SqT.of hx, f0, _, rfl, _, rfl, iteF ?_⟩
        exact ⟨_, rfl, x, _, _, _, rfl, rfl, SqT.of hx, f1, _, rfl, _, rfl, iteF ⟨_, _, _, rfl, dr5⟩⟩
    clear dr
    rintro σ H2 ⟨v2, v3, v4, rfl, dr⟩
    refine ⟨_, rfl, d, c, 10, rfl, dr, by decide, bnd_le (by decide), fun H3 u k3 dr3 u0 u1 => ?_⟩
    obtain ⟨k, hk2, hk11, ek⟩ : ∃ k : Nat, 2 ≤ k ∧ k ≤ 11 ∧ (3 : Int) + u = (k : Int) + 1 := ⟨(2 + u).toNat, by omega, by omega, by omega⟩
    refine ⟨_, _, rfl, rfl, ?_⟩
    refine ⟨_, rfl, k, (by show [V.int (3 + u)] = _; rw [ek]), hk2, hk11, fun H4 p4 s4 h4 => ?_⟩
    have hpk := pow_pos' k
    have hpb := p11 hk11
    refine ⟨p4, _, rfl, SqT.of h4, rfl, _, _, rfl, _, _, rfl, rfl, ?_⟩
    have dr4 := dr3.same s4
    refine ⟨_, rfl, d, c, rfl, dr4, fun H5 ps n m k5 dr5 hs n0 m0 b1 b2 => ?_⟩
    refine ⟨_, rfl, _, rfl, _, rfl, _, rfl, _, _, rfl, rfl, _, _, rfl, rfl, d, c, _, rfl, dr5, by omega, bnd_le (by omega), fun H6 z k6 dr6 z0 z1 => ?_⟩
    refine ⟨_, _, rfl, rfl, t2, fun pp npp => ?_⟩
    obtain ⟨zz, ez⟩ : ∃ zz : Int, zz = -(2 ^ k) + z := ⟨_, rfl⟩
    have s7 := same_upd (o := .tup [.ref ps, .int (-(2 ^ k) + z)]) npp
    have fz : Fz (upd H6 pp (.tup [.ref ps, .int (-(2 ^ k) + z)])) d c pp ps n m (-(2 ^ k) + z) := ⟨dr6.same s7, upd_same, s7 _ _ (k6.tup dr5 hs)⟩
    have zb0 : -2048 ≤ -(2 ^ k) + z := by omega
    have zb1 : -(2 ^ k) + z ≤ 2048 := by omega
    generalize upd H6 pp (.tup [.ref ps, .int (-(2 ^ k) + z)]) = H7 at fz
    refine ⟨4, rfl, by decide, by decide, for_range (lo := 0) (n := 4) (fun i σ H' => ∃ (v2 v9 v10 v11 v12 : Option V), σ = [some (.ref a), some (.ref d), v2, v3, v4, some (.int (3 + u)), some (.int (-(2 ^ k))), some (.int (2 ^ k - 1)), some (.ref pp), v9, v10, v11, v12] ∧ Fz H' d c pp ps n m (-(2 ^ k) + z)) ⟨_, _, _, _, _, rfl, fz⟩ ?_ ?_⟩
    · clear fz s7 npp dr6 k6 dr5 k5 dr4 s4 h4 dr3 k3 dr hs
      generalize -(2 ^ k) + z = zz at zb0 zb1
      rintro i σ H8 hi ⟨v2, v9, v10, v11, v12, rfl, fz⟩
      refine ⟨_, rfl, _, _, rfl, rfl, ⟨by decide, by decide, by decide⟩, _, _, rfl, rfl, ⟨by decide, by decide, by decide⟩, t3, fun pt nt => ?_⟩
      have st := same_upd (o := .tup [V.int 9, .int (10 ^ (4 : Int).toNat), .int (10 ^ (9 : Int).toNat)]) nt
      have fz := fz.same st
      refine ⟨_, rfl, d, c, 3, rfl, fz.dr, by decide, bnd_le (by decide), fun H9 tk k9 dr9 t0 t1 => ?_⟩
      obtain ⟨i, hi, i0, i1⟩ := mosts2 t0 t1
      refine ⟨pt, _, _, _, rfl, rfl, SqT.of (k9.tup fz.dr upd_same), hi, ?_⟩
      have fz := fz.kb k9.kb dr9
      refine ⟨d, c, i, rfl, fz.dr, by omega, bnd12 (by omega), fun H10 y k10 dr10 y0 y1 => ?_⟩
      have fz := fz.kb k10.kb dr10
      refine ⟨_, rfl, d, c, 5, rfl, fz.dr, by decide, bnd_le (by decide), fun H11 w' k11 dr11 w0 w1 => ?_⟩
      have fz := fz.kb k11.kb dr11
      refine ⟨_, _, rfl, rfl, y, 1 + w', rfl, by omega, bgs (by decide) (by omega) (by omega), fun H12 px s12 hx => ?_⟩
      have fz := fz.same s12
      have xm0 : 0 < fb y (1 + w') := (fab (by omega)).choose_spec.2.2.2
      have bx : Bg 45 (fa y (1 + w')) := bga (by omega) (bgs (by decide) (by omega) (by omega))
      have by' : Bg 45 (fb y (1 + w')) := bgb (by omega) (bgs (by decide) (by omega) (by omega))
      generalize fa y (1 + w') = xn at hx bx
      generalize fb y (1 + w') = xm at hx by' xm0
      -- wanted
      refine ⟨_, rfl, _, rfl, pp, _, _, _, rfl, rfl, SqT.of fz.p, f0, px, ps, xn, xm, n, m, rfl, hx, fz.s, bx.mono (by decide), by'.mono (by decide), b1.mono (by decide), b2.mono (by decide), xm0, n0, fun H13 p13 s13 h13 => ?_⟩
      have fz := fz.same s13
      have hx := s13 _ _ hx
      have h0 : 0 < xm * n := Int.mul_pos xm0 n0
      obtain ⟨_, _, _, _, hpos⟩ := fab (t := xn * m) h0
      refine ⟨p13, _, _, rfl, h13, hpos, (bga h0 (bx.mul b2)).mono (by decide), (bgb h0 (by'.mul b1)).mono (by decide), ?_⟩
      rw [near_fab h0]
      refine ⟨_, rfl, pp, _, _, _, rfl, rfl, SqT.of fz.p, f1, _, _, rfl, rfl, ?_⟩
      -- code
      refine ⟨_, rfl, _, rfl, _, rfl, pp, ps, px, n, m, zz, xn, xm, _, rfl, fz.p, fz.s, hx, b1.mono (by decide), b2.mono (by decide), bx.mono (by decide), by'.mono (by decide), n0, m0, xm0, fun hb => absurd hb (by omega), fun k' hk' _ _ H14 s14 => ?_⟩
      obtain rfl : k = k' := by omega
      have fz := fz.same s14
      have hx := s14 _ _ hx
      obtain ⟨l0, l1⟩ := lim_in (n := near (xn * m) (xm * n) + zz) (lo := -(2 ^ k)) (hi := 2 ^ k - 1) (by omega)
      obtain ⟨cv, ecv⟩ : ∃ cv, cv = lim (near (xn * m) (xm * n) + zz) (-(2 ^ k)) (2 ^ k - 1) := ⟨_, rfl⟩
      rw [← ecv] at l0 l1 ⊢
      refine ⟨_, rfl, _, rfl, _, rfl, iteF ?_⟩
      refine ⟨_, rfl, _, rfl, _, rfl, _, rfl, _, _, rfl, _, _, rfl, rfl, _, rfl, ?_⟩
      rw [lim_mm (by omega), ← ecv, decide_eq_true rfl]
      refine iteF ?_
      have bz : Bg 50 zz := bgs (by decide) (by omega) (by omega)
      have bc : Bg 50 cv := bgs (by decide) (by omega) (by omega)
      refine ⟨_, rfl, _, rfl, pp, ps, n, m, zz, cv, rfl, fz.p, fz.s, b1.mono (by decide), b2.mono (by decide), bz, bc, m0, fun H15 p15 s15 h15 => ?_⟩
      have fz := fz.same s15
      refine ⟨_, rfl, _, rfl, pp, ps, n, m, zz, cv, rfl, fz.p, fz.s, b1.mono (by decide), b2.mono (by decide), bz, bc, m0, fun H16 p16 s16 h16 => ?_⟩
      have fz := fz.same s16
      have hx := (s15.trans s16) _ _ hx
      refine ⟨_, _, two_dp (s16 _ _ h15), two_dp h16, two_shaped _ _, two_shaped _ _, _, rfl, ?_⟩
      rw [eqv_self (two_shaped _ _)]
      refine iteF ?_
      refine ⟨_, rfl, _, rfl, rfl, _, rfl, ite2 (fun e => ?_) (fun e => ⟨_, _, _, _, _, rfl, fz⟩)⟩
      have e : cv = near (xn * m) (xm * n) + zz := V.int.inj (of_decide_eq_true e)
      refine ⟨_, rfl, _, rfl, _, rfl, pp, ps, n, m, zz, cv, rfl, fz.p, fz.s, b1.mono (by decide), b2.mono (by decide), bz, bc, m0, fun H17 p17 s17 h17 => ?_⟩
      have fz := fz.same s17
      have hx := s17 _ _ hx
      have bA : Bg 100 (fa (n * (cv - zz)) m) := bga m0 ((b1.mul (bgs (n := 50) (by decide) (by omega) (by omega))).mono (by decide))
      have bB : Bg 45 (fb (n * (cv - zz)) m) := bgb m0 b2
      have hB0 : 0 < fb (n * (cv - zz)) m := (fab m0).choose_spec.2.2.2
      refine ⟨px, p17, xn, xm, _, _, rfl, hx, h17, bx.mono (by decide), by'.mono (by decide), bA.mono (by decide), bB.mono (by decide), xm0, hB0, fun H18 p18 gx s18 hgx h18 => ?_⟩
      have fz := fz.same s18
      have hq : 0 < xm * fb (n * (cv - zz)) m := Int.mul_pos xm0 hB0
      have bG : Bg 200 gx := by
        rw [hgx]
        refine (bga hq (Bg.mono (n := 147) ?_ (by decide)))
        have z0 : Bg 100 (0 : Int) := by unfold Bg; decide
        exact Bg.add (n := 146) ((bx.mul bB).mono (by decide)) (((z0.sub bA).mul by').mono (by decide))
      have bG' : Bg 200 (if gx < 0 then -gx else gx) := by
        unfold Bg at *
        split <;> omega
      have bE : Bg 200 (fb (xn * fb (n * (cv - zz)) m + (0 - fa (n * (cv - zz)) m) * xm) (xm * fb (n * (cv - zz)) m)) := (bgb hq (by'.mul bB)).mono (by decide)
      have math := gap_ok xm0 n0 m0 (k := cv - zz) (by omega) rfl rfl hgx rfl
      refine ⟨_, rfl, p18, _, _, _, rfl, rfl, SqT.of h18, f0, _, _, rfl, rfl, two.cmul bG' (by decide) (by decide) (by decide), _, rfl, pp, _, _, _, rfl, rfl, SqT.of fz.p, f0, ps, _, _, _, rfl, rfl, SqT.of fz.s, f1, _, _, rfl, rfl, (two.mul bG').cmul b2 (by decide) (by decide) (by decide),
        _, rfl, pp, _, _, _, rfl, rfl, SqT.of fz.p, f0, ps, _, _, _, rfl, rfl, SqT.of fz.s, f0, _, rfl, p18, _, _, _, rfl, rfl, SqT.of h18, f1, _, _, rfl, rfl, b1.cmul bE (by decide) (by decide) (by decide), _, _, rfl, rfl, _, rfl, ?_⟩
      rw [decide_eq_false math]
      exact iteF ⟨_, _, _, _, _, rfl, fz⟩
    · clear fz s7 npp dr6 k6 dr5 k5 dr4 s4 h4 dr3 k3 dr hs
      generalize -(2 ^ k) + z = zz at zb0 zb1
      rintro σ H8 ⟨v2, v9, v10, v11, v12, rfl, fz⟩
      refine ⟨_, rfl, t2, fun p1 np1 => ?_⟩
      have fz := fz.same (same_upd (o := .tup [.int 1, .int 1]) np1)
      refine ⟨pp, ps, p1, n, m, zz, 1, 1, 2, rfl, fz.p, fz.s, upd_same, b1.mono (by decide), b2.mono (by decide), one_bg (by decide), one_bg (by decide), n0, m0, by decide, fun _ => ?_, fun k' hk' h2 _ => absurd hk' (by omega)⟩
      refine ⟨rfl, _, rfl, iteT ?_⟩
      refine ⟨_, rfl, t2, fun p2 np2 => ?_⟩
      have fz := fz.same (same_upd (o := .tup [.int 1, .int 1]) np2)
      refine ⟨pp, ps, p2, n, m, zz, 1, 1, 13, rfl, fz.p, fz.s, upd_same, b1.mono (by decide), b2.mono (by decide), one_bg (by decide), one_bg (by decide), n0, m0, by decide, fun _ => ?_, fun k' hk' h2 _ => absurd hk' (by omega)⟩
      exact ⟨rfl, q _⟩
end
/-! ### what the top has written, the head -/
theorem all_mk {l : PySem.W.OpenLaw} {w : World} {K : PySem.W.Frag} {h : Heap} {mg : Str → Option Value} {fa f1 f2 f3 f4 f5 f6 f7 f8 f9 f10 f11 f12 f13 f14 f15 f16 f17 f18 f19 f20 f21 f22 f23 f24 f25 f26 f27 z1 z2 z3 cT : Addr} (X : K.In h) (G : h.Ns mainGlobals mg) (hfa : mg "law" = some (.ref fa))
    {od1 an1 od2 an2 od3 an3 od4 an4 od5 an5 od6 an6 od7 an7 od8 an8 od9 an9 od10 an10 od11 an11 od12 an12 od13 an13 od14 an14 od15 an15 od16 an16 od17 an17 od18 an18 od19 an19 od20 an20 od21 an21 od22 an22 od23 an23 od24 an24 od25 an25 od26 an26 od27 an27 : Option Addr} {sl1 sl2 sl3 sl4 sl5 sl6 sl7 sl8 sl9 sl10 sl11 sl12 sl13 sl14 sl15 sl16 sl17 sl18 sl19 sl20 sl21 sl22 sl23 sl24 sl25 sl26 sl27 : Array (Option Value)} {oc1 kV1 dc1 pm1 cd1 ct1 oc2 kV2 dc2 pm2 cd2 ct2 oc3 kV3 dc3 pm3 cd3 ct3 oc4 kV4 dc4 pm4 cd4 ct4 oc5 kV5 dc5 pm5 cd5 ct5 oc6 kV6 dc6 pm6 cd6 ct6 oc7 kV7 dc7 pm7 cd7 ct7 oc8 kV8 dc8 pm8 cd8 ct8 oc9 kV9 dc9 pm9 cd9 ct9 oc10 kV10 dc10 pm10 cd10 ct10 oc11 kV11 dc11 pm11 cd11 ct11 oc12 kV12 dc12 pm12 cd12 ct12 oc13 kV13 dc13 pm13 cd13 ct13 oc14 kV14 dc14 pm14 cd14 ct14 oc15 kV15 dc15 pm15 cd15 ct15 oc16 kV16 dc16 pm16 cd16 ct16 oc17 kV17 dc17 pm17 cd17 ct17 oc18 kV18 dc18 pm18 cd18 ct18 oc19 kV19 dc19 pm19 cd19 ct19 oc20 kV20 dc20 pm20 cd20 ct20 oc21 kV21 dc21 pm21 cd21 ct21 oc22 kV22 dc22 pm22 cd22 ct22 oc23 kV23 dc23 pm23 cd23 ct23 oc24 kV24 dc24 pm24 cd24 ct24 oc25 kV25 dc25 pm25 cd25 ct25 oc26 kV26 dc26 pm26 cd26 ct26 oc27 kV27 dc27 pm27 cd27 ct27 : Value}
    {tkS tkF : Tok}
    (a1 : PySem.W.nsIn K mainGlobals "limit" = some (some (.ref f1))) (l1 : K.lookup f1 = some ⟨oc1, od1, .func (PySem.W.fnOf "limit" "limit" (defArgs sLimit) (defBody sLimit) (defScope sLimit) .none kV1 dc1 pm1 an1 cd1 ct1), sl1⟩) (c1 : PySem.W.codeIn K cd1 "limit" = true) (k1 : PySem.W.keepIn K (.ref f1) = true)
    (a2 : PySem.W.nsIn K mainGlobals "check_bits" = some (some (.ref f2))) (l2 : K.lookup f2 = some ⟨oc2, od2, .func (PySem.W.fnOf "check_bits" "check_bits" (defArgs sBits) (defBody sBits) (defScope sBits) .none kV2 dc2 pm2 an2 cd2 ct2), sl2⟩) (c2 : PySem.W.codeIn K cd2 "check_bits" = true) (k2 : PySem.W.keepIn K (.ref f2) = true)
    (a3 : PySem.W.nsIn K mainGlobals "code_bounds" = some (some (.ref f3))) (l3 : K.lookup f3 = some ⟨oc3, od3, .func (PySem.W.fnOf "code_bounds" "code_bounds" (defArgs sEnds) (defBody sEnds) (defScope sEnds) .none kV3 dc3 pm3 an3 cd3 ct3), sl3⟩) (c3 : PySem.W.codeIn K cd3 "code_bounds" = true) (k3 : PySem.W.keepIn K (.ref f3) = true)
    (a4 : PySem.W.nsIn K mainGlobals "fraction" = some (some (.ref f4))) (l4 : K.lookup f4 = some ⟨oc4, od4, .func (PySem.W.fnOf "fraction" "fraction" (defArgs sFrac) (defBody sFrac) (defScope sFrac) .none kV4 dc4 pm4 an4 cd4 ct4), sl4⟩) (c4 : PySem.W.codeIn K cd4 "fraction" = true) (k4 : PySem.W.keepIn K (.ref f4) = true)
    (a5 : PySem.W.nsIn K mainGlobals "times" = some (some (.ref f5))) (l5 : K.lookup f5 = some ⟨oc5, od5, .func (PySem.W.fnOf "times" "times" (defArgs sTimes) (defBody sTimes) (defScope sTimes) .none kV5 dc5 pm5 an5 cd5 ct5), sl5⟩) (c5 : PySem.W.codeIn K cd5 "times" = true) (k5 : PySem.W.keepIn K (.ref f5) = true)
    (a6 : PySem.W.nsIn K mainGlobals "over" = some (some (.ref f6))) (l6 : K.lookup f6 = some ⟨oc6, od6, .func (PySem.W.fnOf "over" "over" (defArgs sOver) (defBody sOver) (defScope sOver) .none kV6 dc6 pm6 an6 cd6 ct6), sl6⟩) (c6 : PySem.W.codeIn K cd6 "over" = true) (k6 : PySem.W.keepIn K (.ref f6) = true)
    (a7 : PySem.W.nsIn K mainGlobals "nearest" = some (some (.ref f7))) (l7 : K.lookup f7 = some ⟨oc7, od7, .func (PySem.W.fnOf "nearest" "nearest" (defArgs sNear) (defBody sNear) (defScope sNear) .none kV7 dc7 pm7 an7 cd7 ct7), sl7⟩) (c7 : PySem.W.codeIn K cd7 "nearest" = true) (k7 : PySem.W.keepIn K (.ref f7) = true)
    (a8 : PySem.W.nsIn K mainGlobals "multiplier" = some (some (.ref f8))) (l8 : K.lookup f8 = some ⟨oc8, od8, .func (PySem.W.fnOf "multiplier" "multiplier" (defArgs sMult) (defBody sMult) (defScope sMult) .none kV8 dc8 pm8 an8 cd8 ct8), sl8⟩) (c8 : PySem.W.codeIn K cd8 "multiplier" = true) (k8 : PySem.W.keepIn K (.ref f8) = true)
    (a9 : PySem.W.nsIn K mainGlobals "code_of" = some (some (.ref f9))) (l9 : K.lookup f9 = some ⟨oc9, od9, .func (PySem.W.fnOf "code_of" "code_of" (defArgs sCode) (defBody sCode) (defScope sCode) .none kV9 dc9 pm9 an9 cd9 ct9), sl9⟩) (c9 : PySem.W.codeIn K cd9 "code_of" = true) (k9 : PySem.W.keepIn K (.ref f9) = true)
    (a10 : PySem.W.nsIn K mainGlobals "meaning_of" = some (some (.ref f10))) (l10 : K.lookup f10 = some ⟨oc10, od10, .func (PySem.W.fnOf "meaning_of" "meaning_of" (defArgs sMean) (defBody sMean) (defScope sMean) .none kV10 dc10 pm10 an10 cd10 ct10), sl10⟩) (c10 : PySem.W.codeIn K cd10 "meaning_of" = true) (k10 : PySem.W.keepIn K (.ref f10) = true)
    (a11 : PySem.W.nsIn K mainGlobals "_law_begin" = some (some (.ref f11))) (l11 : K.lookup f11 = some ⟨oc11, od11, .func (PySem.W.fnOf "_law_begin" "_law_begin" (defArgs sBegin) (defBody sBegin) (defScope sBegin) .none kV11 dc11 pm11 an11 cd11 ct11), sl11⟩) (c11 : PySem.W.codeIn K cd11 "_law_begin" = true) (k11 : PySem.W.keepIn K (.ref f11) = true)
    (a12 : PySem.W.nsIn K mainGlobals "_law_take" = some (some (.ref f12))) (l12 : K.lookup f12 = some ⟨oc12, od12, .func (PySem.W.fnOf "_law_take" "_law_take" (defArgs sTake) (defBody sTake) (defScope sTake) .none kV12 dc12 pm12 an12 cd12 ct12), sl12⟩) (c12 : PySem.W.codeIn K cd12 "_law_take" = true) (k12 : PySem.W.keepIn K (.ref f12) = true)
    (a13 : PySem.W.nsIn K mainGlobals "_law_signed" = some (some (.ref f13))) (l13 : K.lookup f13 = some ⟨oc13, od13, .func (PySem.W.fnOf "_law_signed" "_law_signed" (defArgs sSigned) (defBody sSigned) (defScope sSigned) .none kV13 dc13 pm13 an13 cd13 ct13), sl13⟩) (c13 : PySem.W.codeIn K cd13 "_law_signed" = true) (k13 : PySem.W.keepIn K (.ref f13) = true)
    (a14 : PySem.W.nsIn K mainGlobals "_law_int" = some (some (.ref f14))) (l14 : K.lookup f14 = some ⟨oc14, od14, .func (PySem.W.fnOf "_law_int" "_law_int" (defArgs sInt) (defBody sInt) (defScope sInt) .none kV14 dc14 pm14 an14 cd14 ct14), sl14⟩) (c14 : PySem.W.codeIn K cd14 "_law_int" = true) (k14 : PySem.W.keepIn K (.ref f14) = true)
    (a15 : PySem.W.nsIn K mainGlobals "_law_gcd" = some (some (.ref f15))) (l15 : K.lookup f15 = some ⟨oc15, od15, .func (PySem.W.fnOf "_law_gcd" "_law_gcd" (defArgs sLGcd) (defBody sLGcd) (defScope sLGcd) .none kV15 dc15 pm15 an15 cd15 ct15), sl15⟩) (c15 : PySem.W.codeIn K cd15 "_law_gcd" = true) (k15 : PySem.W.keepIn K (.ref f15) = true)
    (a16 : PySem.W.nsIn K mainGlobals "_law_frac" = some (some (.ref f16))) (l16 : K.lookup f16 = some ⟨oc16, od16, .func (PySem.W.fnOf "_law_frac" "_law_frac" (defArgs sLFrac) (defBody sLFrac) (defScope sLFrac) .none kV16 dc16 pm16 an16 cd16 ct16), sl16⟩) (c16 : PySem.W.codeIn K cd16 "_law_frac" = true) (k16 : PySem.W.keepIn K (.ref f16) = true)
    (a17 : PySem.W.nsIn K mainGlobals "_law_sum" = some (some (.ref f17))) (l17 : K.lookup f17 = some ⟨oc17, od17, .func (PySem.W.fnOf "_law_sum" "_law_sum" (defArgs sLSum) (defBody sLSum) (defScope sLSum) .none kV17 dc17 pm17 an17 cd17 ct17), sl17⟩) (c17 : PySem.W.codeIn K cd17 "_law_sum" = true) (k17 : PySem.W.keepIn K (.ref f17) = true)
    (a18 : PySem.W.nsIn K mainGlobals "_law_gap" = some (some (.ref f18))) (l18 : K.lookup f18 = some ⟨oc18, od18, .func (PySem.W.fnOf "_law_gap" "_law_gap" (defArgs sLGap) (defBody sLGap) (defScope sLGap) .none kV18 dc18 pm18 an18 cd18 ct18), sl18⟩) (c18 : PySem.W.codeIn K cd18 "_law_gap" = true) (k18 : PySem.W.keepIn K (.ref f18) = true)
    (a19 : PySem.W.nsIn K mainGlobals "_law_over" = some (some (.ref f19))) (l19 : K.lookup f19 = some ⟨oc19, od19, .func (PySem.W.fnOf "_law_over" "_law_over" (defArgs sLOver) (defBody sLOver) (defScope sLOver) .none kV19 dc19 pm19 an19 cd19 ct19), sl19⟩) (c19 : PySem.W.codeIn K cd19 "_law_over" = true) (k19 : PySem.W.keepIn K (.ref f19) = true)
    (a20 : PySem.W.nsIn K mainGlobals "_law_near" = some (some (.ref f20))) (l20 : K.lookup f20 = some ⟨oc20, od20, .func (PySem.W.fnOf "_law_near" "_law_near" (defArgs sLNear) (defBody sLNear) (defScope sLNear) .none kV20 dc20 pm20 an20 cd20 ct20), sl20⟩) (c20 : PySem.W.codeIn K cd20 "_law_near" = true) (k20 : PySem.W.keepIn K (.ref f20) = true)
    (a21 : PySem.W.nsIn K mainGlobals "_law_multiplier" = some (some (.ref f21))) (l21 : K.lookup f21 = some ⟨oc21, od21, .func (PySem.W.fnOf "_law_multiplier" "_law_multiplier" (defArgs sLMult) (defBody sLMult) (defScope sLMult) .none kV21 dc21 pm21 an21 cd21 ct21), sl21⟩) (c21 : PySem.W.codeIn K cd21 "_law_multiplier" = true) (k21 : PySem.W.keepIn K (.ref f21) = true)
    (a22 : PySem.W.nsIn K mainGlobals "_law_ends" = some (some (.ref f22))) (l22 : K.lookup f22 = some ⟨oc22, od22, .func (PySem.W.fnOf "_law_ends" "_law_ends" (defArgs sLEnds) (defBody sLEnds) (defScope sLEnds) .none kV22 dc22 pm22 an22 cd22 ct22), sl22⟩) (c22 : PySem.W.codeIn K cd22 "_law_ends" = true) (k22 : PySem.W.keepIn K (.ref f22) = true)
    (a23 : PySem.W.nsIn K mainGlobals "_law_means" = some (some (.ref f23))) (l23 : K.lookup f23 = some ⟨oc23, od23, .func (PySem.W.fnOf "_law_means" "_law_means" (defArgs sLMeans) (defBody sLMeans) (defScope sLMeans) .none kV23 dc23 pm23 an23 cd23 ct23), sl23⟩) (c23 : PySem.W.codeIn K cd23 "_law_means" = true) (k23 : PySem.W.keepIn K (.ref f23) = true)
    (a24 : PySem.W.nsIn K mainGlobals "_law_told" = some (some (.ref f24))) (l24 : K.lookup f24 = some ⟨oc24, od24, .func (PySem.W.fnOf "_law_told" "_law_told" (defArgs sTold) (defBody sTold) (defScope sTold) .none kV24 dc24 pm24 an24 cd24 ct24), sl24⟩) (c24 : PySem.W.codeIn K cd24 "_law_told" = true) (k24 : PySem.W.keepIn K (.ref f24) = true)
    (a25 : PySem.W.nsIn K mainGlobals "_law_coded" = some (some (.ref f25))) (l25 : K.lookup f25 = some ⟨oc25, od25, .func (PySem.W.fnOf "_law_coded" "_law_coded" (defArgs sCoded) (defBody sCoded) (defScope sCoded) .none kV25 dc25 pm25 an25 cd25 ct25), sl25⟩) (c25 : PySem.W.codeIn K cd25 "_law_coded" = true) (k25 : PySem.W.keepIn K (.ref f25) = true)
    (a26 : PySem.W.nsIn K mainGlobals "_law_drawn" = some (some (.ref f26))) (l26 : K.lookup f26 = some ⟨oc26, od26, .func (PySem.W.fnOf "_law_drawn" "_law_drawn" (defArgs sDrawn) (defBody sDrawn) (defScope sDrawn) .none kV26 dc26 pm26 an26 cd26 ct26), sl26⟩) (c26 : PySem.W.codeIn K cd26 "_law_drawn" = true) (k26 : PySem.W.keepIn K (.ref f26) = true)
    (a27 : PySem.W.nsIn K mainGlobals "law" = some (some (.ref f27))) (l27 : K.lookup f27 = some ⟨oc27, od27, .func (PySem.W.fnOf "law" "law" (defArgs sLaw) (defBody sLaw) (defScope sLaw) .none kV27 dc27 pm27 an27 cd27 ct27), sl27⟩) (c27 : PySem.W.codeIn K cd27 "law" = true) (k27 : PySem.W.keepIn K (.ref f27) = true)
    (aEz1 : PySem.W.nsIn K mainGlobals "ZeroDenominator" = some (some (.ref z1)))
    (kEz1 : PySem.W.keepIn K (.ref z1) = true)
    (bEz1 : PySem.W.subIn K (.ref z1) (.type "BaseException") = some true)
    (tEz1 : PySem.W.typeIn K (.ref z1) = some (.type "type"))
    (hEz1 : PySem.W.hasDictIn K z1 = true)
    (aEz2 : PySem.W.nsIn K mainGlobals "RangeError" = some (some (.ref z2)))
    (kEz2 : PySem.W.keepIn K (.ref z2) = true)
    (bEz2 : PySem.W.subIn K (.ref z2) (.type "BaseException") = some true)
    (tEz2 : PySem.W.typeIn K (.ref z2) = some (.type "type"))
    (hEz2 : PySem.W.hasDictIn K z2 = true)
    (aEz3 : PySem.W.nsIn K mainGlobals "TableError" = some (some (.ref z3)))
    (kEz3 : PySem.W.keepIn K (.ref z3) = true)
    (bEz3 : PySem.W.subIn K (.ref z3) (.type "BaseException") = some true)
    (tEz3 : PySem.W.typeIn K (.ref z3) = some (.type "type"))
    (hEz3 : PySem.W.hasDictIn K z3 = true)
    (aEcT : PySem.W.nsIn K mainGlobals "TensorError" = some (some (.ref cT)))
    (kEcT : PySem.W.keepIn K (.ref cT) = true)
    (bEcT : PySem.W.subIn K (.ref cT) (.type "BaseException") = some true)
    (tEcT : PySem.W.typeIn K (.ref cT) = some (.type "type"))
    (hEcT : PySem.W.hasDictIn K cT = true)
    (xz1 : PySem.W.excIn K z1 valErr "ValueError.__new__" = true)
    (sTz1 : PySem.W.subIn K (.ref z1) (.ref cT) = some true)
    (i1z1 : PySem.W.findIn K (.ref z1) "__getattribute__" = some (some (.builtin "BaseException.__getattribute__")))
    (i2z1 : PySem.W.findIn K (.ref z1) "__getattr__" = some none)
    (i3z1 : PySem.W.findIn K (.ref z1) "__class__" = some (some (.builtin "object.__class__")))
    (i6z1 : PySem.W.mroIn K z1 (.type "object") = some true)
    (sz1z1 : PySem.W.subIn K (.ref z1) (.ref z1) = some true)
    (sz1z2 : PySem.W.subIn K (.ref z1) (.ref z2) = some false)
    (sz1z3 : PySem.W.subIn K (.ref z1) (.ref z3) = some false)
    (xz2 : PySem.W.excIn K z2 valErr "ValueError.__new__" = true)
    (sTz2 : PySem.W.subIn K (.ref z2) (.ref cT) = some true)
    (i1z2 : PySem.W.findIn K (.ref z2) "__getattribute__" = some (some (.builtin "BaseException.__getattribute__")))
    (i2z2 : PySem.W.findIn K (.ref z2) "__getattr__" = some none)
    (i3z2 : PySem.W.findIn K (.ref z2) "__class__" = some (some (.builtin "object.__class__")))
    (i6z2 : PySem.W.mroIn K z2 (.type "object") = some true)
    (sz2z1 : PySem.W.subIn K (.ref z2) (.ref z1) = some false)
    (sz2z2 : PySem.W.subIn K (.ref z2) (.ref z2) = some true)
    (sz2z3 : PySem.W.subIn K (.ref z2) (.ref z3) = some false)
    (xz3 : PySem.W.excIn K z3 valErr "ValueError.__new__" = true)
    (sTz3 : PySem.W.subIn K (.ref z3) (.ref cT) = some true)
    (i1z3 : PySem.W.findIn K (.ref z3) "__getattribute__" = some (some (.builtin "BaseException.__getattribute__")))
    (i2z3 : PySem.W.findIn K (.ref z3) "__getattr__" = some none)
    (i3z3 : PySem.W.findIn K (.ref z3) "__class__" = some (some (.builtin "object.__class__")))
    (i6z3 : PySem.W.mroIn K z3 (.type "object") = some true)
    (sz3z1 : PySem.W.subIn K (.ref z3) (.ref z1) = some false)
    (sz3z2 : PySem.W.subIn K (.ref z3) (.ref z2) = some false)
    (sz3z3 : PySem.W.subIn K (.ref z3) (.ref z3) = some true)
    (i4 : PySem.W.specialIn K (.builtin "object.__class__") "__get__" = some (some (.builtin "getset_descriptor.__get__")))
    (i5 : PySem.W.takesIn K (.builtin "object.__class__") = some true)
    (eSh : PySem.W.nsIn K mainGlobals "_SHIFT_LIMIT" = some (some (.int 30 tkS)))
    (eFa : PySem.W.nsIn K mainGlobals "_FACTOR_LIMIT" = some (some (.int 65535 tkF)))
    (eGc : PySem.W.nsIn K mainGlobals "gcd" = some (some (.builtin "math.gcd")))
    (z_int : PySem.W.nsIn K mainGlobals "int" = some none)
    (z_abs : PySem.W.nsIn K mainGlobals "abs" = some none)
    (z_len : PySem.W.nsIn K mainGlobals "len" = some none)
    (z_list : PySem.W.nsIn K mainGlobals "list" = some none)
    (z_max : PySem.W.nsIn K mainGlobals "max" = some none)
    (z_min : PySem.W.nsIn K mainGlobals "min" = some none)
    (z_range : PySem.W.nsIn K mainGlobals "range" = some none)
    (z_reversed : PySem.W.nsIn K mainGlobals "reversed" = some none)
    (z_tuple : PySem.W.nsIn K mainGlobals "tuple" = some none)
    (z_isinstance : PySem.W.nsIn K mainGlobals "isinstance" = some none)
    (z_bool : PySem.W.nsIn K mainGlobals "bool" = some none)
    : ∃ fd : FuncData, (∀ (s : Shared) (v : Value), BindsTo s fd ⟨[v], []⟩ [("script", v)]) ∧ ∀ base : Heap, K.In base → base.Ns mainGlobals mg → FnOk l.prog w K mg base CX0 5 fa fd ["script"] (spLaw K) := by
  have e := hfa.symm.trans (PySem.W.mg_of X G a27)
  cases e
  have F1 := fun_mk (st := sLimit) l1 c1 k1
  have m1 := PySem.W.mg_of X G a1
  have b1 := F1.binds (ps := ["n", "low", "high"]) fun _ _ _ _ _ _ us hl => match us, hl with | [_, _, _], _ => rfl
  have F2 := fun_mk (st := sBits) l2 c2 k2
  have m2 := PySem.W.mg_of X G a2
  have b2 := F2.binds (ps := ["bits"]) fun _ _ _ _ _ _ us hl => match us, hl with | [_], _ => rfl
  have F3 := fun_mk (st := sEnds) l3 c3 k3
  have m3 := PySem.W.mg_of X G a3
  have b3 := F3.binds (ps := ["bits"]) fun _ _ _ _ _ _ us hl => match us, hl with | [_], _ => rfl
  have F4 := fun_mk (st := sFrac) l4 c4 k4
  have m4 := PySem.W.mg_of X G a4
  have b4 := F4.binds (ps := ["numerator", "denominator"]) fun _ _ _ _ _ _ us hl => match us, hl with | [_, _], _ => rfl
  have F5 := fun_mk (st := sTimes) l5 c5 k5
  have m5 := PySem.W.mg_of X G a5
  have b5 := F5.binds (ps := ["a", "b"]) fun _ _ _ _ _ _ us hl => match us, hl with | [_, _], _ => rfl
  have F6 := fun_mk (st := sOver) l6 c6 k6
  have m6 := PySem.W.mg_of X G a6
  have b6 := F6.binds (ps := ["a", "b"]) fun _ _ _ _ _ _ us hl => match us, hl with | [_, _], _ => rfl
  have F7 := fun_mk (st := sNear) l7 c7 k7
  have m7 := PySem.W.mg_of X G a7
  have b7 := F7.binds (ps := ["a"]) fun _ _ _ _ _ _ us hl => match us, hl with | [_], _ => rfl
  have F8 := fun_mk (st := sMult) l8 c8 k8
  have m8 := PySem.W.mg_of X G a8
  have b8 := F8.binds (ps := ["a"]) fun _ _ _ _ _ _ us hl => match us, hl with | [_], _ => rfl
  have F9 := fun_mk (st := sCode) l9 c9 k9
  have m9 := PySem.W.mg_of X G a9
  have b9 := F9.binds (ps := ["pair", "bits", "x"]) fun _ _ _ _ _ _ us hl => match us, hl with | [_, _, _], _ => rfl
  have F10 := fun_mk (st := sMean) l10 c10 k10
  have m10 := PySem.W.mg_of X G a10
  have b10 := F10.binds (ps := ["pair", "code"]) fun _ _ _ _ _ _ us hl => match us, hl with | [_, _], _ => rfl
  have F11 := fun_mk (st := sBegin) l11 c11 k11
  have m11 := PySem.W.mg_of X G a11
  have b11 := F11.binds (ps := ["script"]) fun _ _ _ _ _ _ us hl => match us, hl with | [_], _ => rfl
  have F12 := fun_mk (st := sTake) l12 c12 k12
  have m12 := PySem.W.mg_of X G a12
  have b12 := F12.binds (ps := ["d", "many"]) fun _ _ _ _ _ _ us hl => match us, hl with | [_, _], _ => rfl
  have F13 := fun_mk (st := sSigned) l13 c13 k13
  have m13 := PySem.W.mg_of X G a13
  have b13 := F13.binds (ps := ["d", "most"]) fun _ _ _ _ _ _ us hl => match us, hl with | [_, _], _ => rfl
  have F14 := fun_mk (st := sInt) l14 c14 k14
  have m14 := PySem.W.mg_of X G a14
  have b14 := F14.binds (ps := ["actual"]) fun _ _ _ _ _ _ us hl => match us, hl with | [_], _ => rfl
  have F15 := fun_mk (st := sLGcd) l15 c15 k15
  have m15 := PySem.W.mg_of X G a15
  have b15 := F15.binds (ps := ["a", "b"]) fun _ _ _ _ _ _ us hl => match us, hl with | [_, _], _ => rfl
  have F16 := fun_mk (st := sLFrac) l16 c16 k16
  have m16 := PySem.W.mg_of X G a16
  have b16 := F16.binds (ps := ["a", "b"]) fun _ _ _ _ _ _ us hl => match us, hl with | [_, _], _ => rfl
  have F17 := fun_mk (st := sLSum) l17 c17 k17
  have m17 := PySem.W.mg_of X G a17
  have b17 := F17.binds (ps := ["a", "b"]) fun _ _ _ _ _ _ us hl => match us, hl with | [_, _], _ => rfl
  have F18 := fun_mk (st := sLGap) l18 c18 k18
  have m18 := PySem.W.mg_of X G a18
  have b18 := F18.binds (ps := ["a", "b"]) fun _ _ _ _ _ _ us hl => match us, hl with | [_, _], _ => rfl
  have F19 := fun_mk (st := sLOver) l19 c19 k19
  have m19 := PySem.W.mg_of X G a19
  have b19 := F19.binds (ps := ["a", "b"]) fun _ _ _ _ _ _ us hl => match us, hl with | [_, _], _ => rfl
  have F20 := fun_mk (st := sLNear) l20 c20 k20
  have m20 := PySem.W.mg_of X G a20
  have b20 := F20.binds (ps := ["a"]) fun _ _ _ _ _ _ us hl => match us, hl with | [_], _ => rfl
  have F21 := fun_mk (st := sLMult) l21 c21 k21
  have m21 := PySem.W.mg_of X G a21
  have b21 := F21.binds (ps := ["a"]) fun _ _ _ _ _ _ us hl => match us, hl with | [_], _ => rfl
  have F22 := fun_mk (st := sLEnds) l22 c22 k22
  have m22 := PySem.W.mg_of X G a22
  have b22 := F22.binds (ps := ["bits"]) fun _ _ _ _ _ _ us hl => match us, hl with | [_], _ => rfl
  have F23 := fun_mk (st := sLMeans) l23 c23 k23
  have m23 := PySem.W.mg_of X G a23
  have b23 := F23.binds (ps := ["pair", "code"]) fun _ _ _ _ _ _ us hl => match us, hl with | [_, _], _ => rfl
  have F24 := fun_mk (st := sTold) l24 c24 k24
  have m24 := PySem.W.mg_of X G a24
  have b24 := F24.binds (ps := ["a"]) fun _ _ _ _ _ _ us hl => match us, hl with | [_], _ => rfl
  have F25 := fun_mk (st := sCoded) l25 c25 k25
  have m25 := PySem.W.mg_of X G a25
  have b25 := F25.binds (ps := ["pair", "bits", "x"]) fun _ _ _ _ _ _ us hl => match us, hl with | [_, _, _], _ => rfl
  have F26 := fun_mk (st := sDrawn) l26 c26 k26
  have m26 := PySem.W.mg_of X G a26
  have b26 := F26.binds (ps := ["d"]) fun _ _ _ _ _ _ us hl => match us, hl with | [_], _ => rfl
  have F27 := fun_mk (st := sLaw) l27 c27 k27
  have m27 := PySem.W.mg_of X G a27
  have n_int := PySem.W.mg_none_of X G z_int
  have n_abs := PySem.W.mg_none_of X G z_abs
  have n_len := PySem.W.mg_none_of X G z_len
  have n_list := PySem.W.mg_none_of X G z_list
  have n_max := PySem.W.mg_none_of X G z_max
  have n_min := PySem.W.mg_none_of X G z_min
  have n_range := PySem.W.mg_none_of X G z_range
  have n_reversed := PySem.W.mg_none_of X G z_reversed
  have n_tuple := PySem.W.mg_none_of X G z_tuple
  have n_isinstance := PySem.W.mg_none_of X G z_isinstance
  have n_bool := PySem.W.mg_none_of X G z_bool
  have TD : TxtD mg := ⟨n_int, n_abs, n_len, n_list⟩
  have T : Txt mg := ⟨TD, n_max, n_min, n_range, n_tuple, n_isinstance, n_reversed⟩
  have R1 : ErrR K mg "ZeroDenominator" z1 := ⟨PySem.W.mg_of X G aEz1, xz1, kEz1, bEz1, tEz1⟩
  have R2 : ErrR K mg "RangeError" z2 := ⟨PySem.W.mg_of X G aEz2, xz2, kEz2, bEz2, tEz2⟩
  have ET2 : TxtE K mg "RangeError" z2 cT := ⟨⟨PySem.W.mg_of X G aEcT, bEcT, hEcT, tEcT⟩, PySem.W.mg_of X G aEz2, n_isinstance, sTz2, ⟨i1z2, i2z2, bEz2, hEz2, i3z2, i4, i5, i6z2⟩, kit_rr sz2z2 sz2z2 hEz2 tEz2⟩
  have R3 : ErrR K mg "TableError" z3 := ⟨PySem.W.mg_of X G aEz3, xz3, kEz3, bEz3, tEz3⟩
  have ET3 : TxtE K mg "TableError" z3 cT := ⟨⟨PySem.W.mg_of X G aEcT, bEcT, hEcT, tEcT⟩, PySem.W.mg_of X G aEz3, n_isinstance, sTz3, ⟨i1z3, i2z3, bEz3, hEz3, i3z3, i4, i5, i6z3⟩, kit_rr sz3z3 sz3z3 hEz3 tEz3⟩
  have l1 : ∃ u, mg "_SHIFT_LIMIT" = some u ∧ RelV (.int 30) u := ⟨_, PySem.W.mg_of X G eSh, _, rfl⟩
  have l2 : ∃ u, mg "_FACTOR_LIMIT" = some u ∧ RelV (.int 65535) u := ⟨_, PySem.W.mg_of X G eFa, _, rfl⟩
  refine ⟨PySem.W.fnOf "law" "law" (defArgs sLaw) (defBody sLaw) (defScope sLaw) .none kV27 dc27 pm27 an27 cd27 ct27, fun s v => .of_eq rfl, fun base _ _ => ?_⟩
  have gLi : FnOk l.prog w K mg base CX0 1 _ _ ["n", "low", "high"] spLimit := ok_limit F1
  have cLi : Calls l.prog w K mg base CX0 1 "limit" ["n", "low", "high"] spLimit := ⟨_, _, gLi, k1, b1, m1⟩
  have gCb : FnOk l.prog w K mg base (L2.CX l.prog w) 1 _ _ ["bits"] (spBits z2) := ok_bits F2 R2
  have cCb : Calls l.prog w K mg base (L2.CX l.prog w) 1 "check_bits" ["bits"] (spBits z2) := ⟨_, _, gCb, k2, b2, m2⟩
  have gCe : FnOk l.prog w K mg base CX0 1 _ _ ["bits"] spEnds := ok_ends F3
  have cCe : Calls l.prog w K mg base CX0 1 "code_bounds" ["bits"] spEnds := ⟨_, _, gCe, k3, b3, m3⟩
  have gF : FnOk l.prog w K mg base (L2.CX l.prog w) 1 _ _ ["numerator", "denominator"] (spFrac z1) := ok_frac F4 R1 (PySem.W.mg_of X G eGc)
  have cF : Calls l.prog w K mg base (L2.CX l.prog w) 1 "fraction" ["numerator", "denominator"] (spFrac z1) := ⟨_, _, gF, k4, b4, m4⟩
  have gTi : FnOk l.prog w K mg base CX0 2 _ _ ["a", "b"] spTimes := ok_times F5 cF
  have cTi : Calls l.prog w K mg base CX0 2 "times" ["a", "b"] spTimes := ⟨_, _, gTi, k5, b5, m5⟩
  have gOv : FnOk l.prog w K mg base CX0 2 _ _ ["a", "b"] spOver := ok_over F6 cF
  have cOv : Calls l.prog w K mg base CX0 2 "over" ["a", "b"] spOver := ⟨_, _, gOv, k6, b6, m6⟩
  have gNe : FnOk l.prog w K mg base CX0 1 _ _ ["a"] spNear := ok_near F7
  have cNe : Calls l.prog w K mg base CX0 1 "nearest" ["a"] spNear := ⟨_, _, gNe, k7, b7, m7⟩
  have gMu : FnOk l.prog w K mg base (L2.CX l.prog w) 3 _ _ ["a"] (spMult z3) := ok_mult F8 T R3 l1 l2 cNe cTi
  have cMu : Calls l.prog w K mg base (L2.CX l.prog w) 3 "multiplier" ["a"] (spMult z3) := ⟨_, _, gMu, k8, b8, m8⟩
  have gCo : FnOk l.prog w K mg base (L2.CX l.prog w) 3 _ _ ["pair", "bits", "x"] (spCode z2) := ok_code F9 cCb cCe cLi cNe cOv
  have cCo : Calls l.prog w K mg base (L2.CX l.prog w) 3 "code_of" ["pair", "bits", "x"] (spCode z2) := ⟨_, _, gCo, k9, b9, m9⟩
  have gMe : FnOk l.prog w K mg base CX0 3 _ _ ["pair", "code"] spMean := ok_mean F10 cTi
  have cMe : Calls l.prog w K mg base CX0 3 "meaning_of" ["pair", "code"] spMean := ⟨_, _, gMe, k10, b10, m10⟩
  have gB : FnOk l.prog w K mg base CX0 1 _ _ ["script"] (spBegin K) := ok_begin F11 TD
  have cB : Calls l.prog w K mg base CX0 1 "_law_begin" ["script"] (spBegin K) := ⟨_, _, gB, k11, b11, m11⟩
  have gT : FnOk l.prog w K mg base CX0 1 _ _ ["d", "many"] spTake := ok_take F12 TD
  have cT : Calls l.prog w K mg base CX0 1 "_law_take" ["d", "many"] spTake := ⟨_, _, gT, k12, b12, m12⟩
  have gS : FnOk l.prog w K mg base CX0 2 _ _ ["d", "most"] spSigned := ok_signed F13 gT (by assumption) (by assumption) (by assumption)
  have cS : Calls l.prog w K mg base CX0 2 "_law_signed" ["d", "most"] spSigned := ⟨_, _, gS, k13, b13, m13⟩
  have gN : FnOk l.prog w K mg base CX0 1 _ _ ["actual"] spInt := ok_int F14 n_isinstance n_int n_bool
  have cN : Calls l.prog w K mg base CX0 1 "_law_int" ["actual"] spInt := ⟨_, _, gN, k14, b14, m14⟩
  have gLg : FnOk l.prog w K mg base CX0 1 _ _ ["a", "b"] spLGcd := ok_lgcd F15 T
  have cLg : Calls l.prog w K mg base CX0 1 "_law_gcd" ["a", "b"] spLGcd := ⟨_, _, gLg, k15, b15, m15⟩
  have gLf : FnOk l.prog w K mg base CX0 2 _ _ ["a", "b"] spLFrac := ok_lfrac F16 T cLg
  have cLf : Calls l.prog w K mg base CX0 2 "_law_frac" ["a", "b"] spLFrac := ⟨_, _, gLf, k16, b16, m16⟩
  have gLs : FnOk l.prog w K mg base CX0 3 _ _ ["a", "b"] spLSum := ok_lsum F17 cLf
  have cLs : Calls l.prog w K mg base CX0 3 "_law_sum" ["a", "b"] spLSum := ⟨_, _, gLs, k17, b17, m17⟩
  have gLp : FnOk l.prog w K mg base CX0 4 _ _ ["a", "b"] spLGap := ok_lgap F18 T cLs
  have cLp : Calls l.prog w K mg base CX0 4 "_law_gap" ["a", "b"] spLGap := ⟨_, _, gLp, k18, b18, m18⟩
  have gLo : FnOk l.prog w K mg base CX0 3 _ _ ["a", "b"] spOver := ok_lover F19 cLf
  have cLo : Calls l.prog w K mg base CX0 3 "_law_over" ["a", "b"] spOver := ⟨_, _, gLo, k19, b19, m19⟩
  have gLn : FnOk l.prog w K mg base CX0 1 _ _ ["a"] spNear := ok_lnear F20
  have cLn : Calls l.prog w K mg base CX0 1 "_law_near" ["a"] spNear := ⟨_, _, gLn, k20, b20, m20⟩
  have gLm : FnOk l.prog w K mg base CX0 2 _ _ ["a"] spMul2 := ok_lmult F21 T cLn
  have cLm : Calls l.prog w K mg base CX0 2 "_law_multiplier" ["a"] spMul2 := ⟨_, _, gLm, k21, b21, m21⟩
  have gLe : FnOk l.prog w K mg base CX0 1 _ _ ["bits"] spEnds := ok_lends F22 T
  have cLe : Calls l.prog w K mg base CX0 1 "_law_ends" ["bits"] spEnds := ⟨_, _, gLe, k22, b22, m22⟩
  have gLa : FnOk l.prog w K mg base CX0 3 _ _ ["pair", "code"] spMean := ok_lmeans F23 cLf
  have cLa : Calls l.prog w K mg base CX0 3 "_law_means" ["pair", "code"] spMean := ⟨_, _, gLa, k23, b23, m23⟩
  have gTo : FnOk l.prog w K mg base CX0 4 _ _ ["a"] spMul2 := ok_told F24 ET3 cMu
  have cTo : Calls l.prog w K mg base CX0 4 "_law_told" ["a"] spMul2 := ⟨_, _, gTo, k24, b24, m24⟩
  have gCd : FnOk l.prog w K mg base CX0 4 _ _ ["pair", "bits", "x"] spCoded := ok_coded F25 ET2 cCo
  have cCd : Calls l.prog w K mg base CX0 4 "_law_coded" ["pair", "bits", "x"] spCoded := ⟨_, _, gCd, k25, b25, m25⟩
  have gD : FnOk l.prog w K mg base CX0 3 _ _ ["d"] spDrawn := ok_drawn F26 cT cLf
  have cD : Calls l.prog w K mg base CX0 3 "_law_drawn" ["d"] spDrawn := ⟨_, _, gD, k26, b26, m26⟩
  exact ok_law F27 T cB cT cS cN cLp cLo cLn cLf cLm cLe cLa cTo cCd cD cMe
end My
open PySem PySem.W PyProof.Rows
set_option maxRecDepth 100000 in
set_option maxHeartbeats 0 in
theorem PySem.Challenge.cw_tensorcompiler_k62_multipliers_and_codes_holds : PySem.Challenge.rw_tensorcompiler_k62_multipliers_and_codes.Holds := by
  w_on; o_law; k_head; (case hw => w_witness2)
  k_fill
  refine L2.walk_of (l := PySem.Challenge.rw_tensorcompiler_k62_multipliers_and_codes) (n := 63) (k := 5) (x := "script") (CX := fun _ => L2.CX0) (sp := fun w => My.spLaw _) rfl (by decide) rfl ⟨rfl, by decide, by decide⟩ (fun w h Y => PySem.W.kIn_of Y) ?F (fun _ _ a ns hl _ hS => ⟨a, ns, rfl, hS, hl, fun _ => rfl⟩) (fun _ _ _ _ _ h => h)
  case F =>
    intro w mg fa h KX G hmg
    refine' My.all_mk KX G hmg ?a1 ?l1 ?c1 ?k1 ?a2 ?l2 ?c2 ?k2 ?a3 ?l3 ?c3 ?k3 ?a4 ?l4 ?c4 ?k4 ?a5 ?l5 ?c5 ?k5 ?a6 ?l6 ?c6 ?k6 ?a7 ?l7 ?c7 ?k7 ?a8 ?l8 ?c8 ?k8 ?a9 ?l9 ?c9 ?k9 ?a10 ?l10 ?c10 ?k10 ?a11 ?l11 ?c11 ?k11 ?a12 ?l12 ?c12 ?k12 ?a13 ?l13 ?c13 ?k13 ?a14 ?l14 ?c14 ?k14 ?a15 ?l15 ?c15 ?k15 ?a16 ?l16 ?c16 ?k16 ?a17 ?l17 ?c17 ?k17 ?a18 ?l18 ?c18 ?k18 ?a19 ?l19 ?c19 ?k19 ?a20 ?l20 ?c20 ?k20 ?a21 ?l21 ?c21 ?k21 ?a22 ?l22 ?c22 ?k22 ?a23 ?l23 ?c23 ?k23 ?a24 ?l24 ?c24 ?k24 ?a25 ?l25 ?c25 ?k25 ?a26 ?l26 ?c26 ?k26 ?a27 ?l27 ?c27 ?k27 ?aEz1 ?kEz1 ?bEz1 ?tEz1 ?hEz1 ?aEz2 ?kEz2 ?bEz2 ?tEz2 ?hEz2 ?aEz3 ?kEz3 ?bEz3 ?tEz3 ?hEz3 ?aEcT ?kEcT ?bEcT ?tEcT ?hEcT ?xz1 ?sTz1 ?i1z1 ?i2z1 ?i3z1 ?i6z1 ?sz1z1 ?sz1z2 ?sz1z3 ?xz2 ?sTz2 ?i1z2 ?i2z2 ?i3z2 ?i6z2 ?sz2z1 ?sz2z2 ?sz2z3 ?xz3 ?sTz3 ?i1z3 ?i2z3 ?i3z3 ?i6z3 ?sz3z1 ?sz3z2 ?sz3z3 ?i4 ?i5 ?eSh ?eFa ?eGc ?z_int ?z_abs ?z_len ?z_list ?z_max ?z_min ?z_range ?z_reversed ?z_tuple ?z_isinstance ?z_bool
    (case a1 => k_is); (case l1 => k_is); (case c1 => k_is); (case k1 => k_is); (case a2 => k_is); (case l2 => k_is); (case c2 => k_is); (case k2 => k_is); (case a3 => k_is); (case l3 => k_is); (case c3 => k_is); (case k3 => k_is); (case a4 => k_is); (case l4 => k_is); (case c4 => k_is); (case k4 => k_is); (case a5 => k_is); (case l5 => k_is); (case c5 => k_is); (case k5 => k_is); (case a6 => k_is); (case l6 => k_is); (case c6 => k_is); (case k6 => k_is); (case a7 => k_is); (case l7 => k_is); (case c7 => k_is); (case k7 => k_is); (case a8 => k_is); (case l8 => k_is); (case c8 => k_is); (case k8 => k_is); (case a9 => k_is); (case l9 => k_is); (case c9 => k_is); (case k9 => k_is); (case a10 => k_is); (case l10 => k_is); (case c10 => k_is); (case k10 => k_is); (case a11 => k_is); (case l11 => k_is); (case c11 => k_is); (case k11 => k_is); (case a12 => k_is); (case l12 => k_is); (case c12 => k_is); (case k12 => k_is); (case a13 => k_is); (case l13 => k_is); (case c13 => k_is); (case k13 => k_is); (case a14 => k_is); (case l14 => k_is); (case c14 => k_is); (case k14 => k_is); (case a15 => k_is); (case l15 => k_is); (case c15 => k_is); (case k15 => k_is); (case a16 => k_is); (case l16 => k_is); (case c16 => k_is); (case k16 => k_is); (case a17 => k_is); (case l17 => k_is); (case c17 => k_is); (case k17 => k_is); (case a18 => k_is); (case l18 => k_is); (case c18 => k_is); (case k18 => k_is); (case a19 => k_is); (case l19 => k_is); (case c19 => k_is); (case k19 => k_is); (case a20 => k_is); (case l20 => k_is); (case c20 => k_is); (case k20 => k_is); (case a21 => k_is); (case l21 => k_is); (case c21 => k_is); (case k21 => k_is); (case a22 => k_is); (case l22 => k_is); (case c22 => k_is); (case k22 => k_is); (case a23 => k_is); (case l23 => k_is); (case c23 => k_is); (case k23 => k_is); (case a24 => k_is); (case l24 => k_is); (case c24 => k_is); (case k24 => k_is); (case a25 => k_is); (case l25 => k_is); (case c25 => k_is); (case k25 => k_is); (case a26 => k_is); (case l26 => k_is); (case c26 => k_is); (case k26 => k_is); (case a27 => k_is); (case l27 => k_is); (case c27 => k_is); (case k27 => k_is); (case aEz1 => k_is); (case kEz1 => k_is); (case bEz1 => k_is); (case tEz1 => k_is); (case hEz1 => k_is); (case aEz2 => k_is); (case kEz2 => k_is); (case bEz2 => k_is); (case tEz2 => k_is); (case hEz2 => k_is); (case aEz3 => k_is); (case kEz3 => k_is); (case bEz3 => k_is); (case tEz3 => k_is); (case hEz3 => k_is); (case aEcT => k_is); (case kEcT => k_is); (case bEcT => k_is); (case tEcT => k_is); (case hEcT => k_is); (case xz1 => k_exc); (case sTz1 => k_is); (case i1z1 => k_is); (case i2z1 => k_is); (case i3z1 => k_is); (case i6z1 => k_is); (case sz1z1 => first | rfl | k_is); (case sz1z2 => first | rfl | k_is); (case sz1z3 => first | rfl | k_is); (case xz2 => k_exc); (case sTz2 => k_is); (case i1z2 => k_is); (case i2z2 => k_is); (case i3z2 => k_is); (case i6z2 => k_is); (case sz2z1 => first | rfl | k_is); (case sz2z2 => first | rfl | k_is); (case sz2z3 => first | rfl | k_is); (case xz3 => k_exc); (case sTz3 => k_is); (case i1z3 => k_is); (case i2z3 => k_is); (case i3z3 => k_is); (case i6z3 => k_is); (case sz3z1 => first | rfl | k_is); (case sz3z2 => first | rfl | k_is); (case sz3z3 => first | rfl | k_is); (case i4 => k_is); (case i5 => k_is); (case eSh => k_is); (case eFa => k_is); (case eGc => k_is); (case z_int => k_is); (case z_abs => k_is); (case z_len => k_is); (case z_list => k_is); (case z_max => k_is); (case z_min => k_is); (case z_range => k_is); (case z_reversed => k_is); (case z_tuple => k_is); (case z_isinstance => k_is); (case z_bool => k_is)
