import PyProof.Rows.All
import Wide.All
import OpenK.AllK
import Wide.FinOn
import HandS.ForMost
import HandS.Wide
import HandS.Evl
import HandS.Exc
import HandS.ExcOwn
import HandS.TryOnly
import HandS.WordsExc
import HandS.ExcIs
import HandS.IsInst
import HandS.RaiseMore
import HandS.FStr
import HandS.Gcd
import HandS.Text
import HandS.StrMore
import HandS.Walk
import HandS.Codes
import PyProof.StrLaws
import PyProof.P3Eq
import KE.IntTextLaws
import PySem.Challenge.RW_tensorcompiler_k02_fraction_texts
set_option Elab.async false
set_option linter.all false
set_option maxRecDepth 100000
set_option maxHeartbeats 4000000
namespace My
open PySem L2
/-! ### the text -/
def topS (i : Nat) : Stmt := PySem.Challenge.pw_tensorcompiler_k02_fraction_texts.main.body.getD i (.Pass ⟨0, 0, 0, 0⟩)
abbrev sReadInt : Stmt := topS 6
abbrev sFrac : Stmt := topS 9
abbrev sWriteF : Stmt := topS 10
abbrev sReadF : Stmt := topS 11
abbrev sBegin : Stmt := topS 13
abbrev sTake : Stmt := topS 14
abbrev sSigned : Stmt := topS 15
abbrev sDiv : Stmt := topS 16
abbrev sDigits : Stmt := topS 17
abbrev sDue : Stmt := topS 18
abbrev sRead : Stmt := topS 19
abbrev sSpoilt : Stmt := topS 20
abbrev sLaw : Stmt := topS 21
/-! ### numbers in texts -/
def digB (l : List Nat) : Bool := !l.isEmpty && l.all fun c => decide (48 ≤ c) && decide (c ≤ 57)
theorem digB_iff {l : List Nat} : digB l = true ↔ l ≠ [] ∧ NumText.AllDigits l := by
  unfold digB NumText.AllDigits
  rw [Bool.and_eq_true, List.all_eq_true]
  refine and_congr ?_ ⟨fun h c hc => ?_, fun h c hc => ?_⟩
  · cases l <;> simp
  · have := h c hc
    rw [Bool.and_eq_true] at this
    exact ⟨of_decide_eq_true this.1, of_decide_eq_true this.2⟩
  · rw [Bool.and_eq_true]
    exact ⟨decide_eq_true (h c hc).1, decide_eq_true (h c hc).2⟩
def bare (l : List Nat) : List Nat := if l.head? = some 45 then l.tail else l
/-- the number that is written -/
def num (l : List Nat) : Option Int :=
  if digB (bare l) = true then (if (bare l).head? = some 48 ∧ l ≠ [48] then none else some (if l.head? = some 45 then -((NumText.digitsVal (bare l) : Nat) : Int) else ((NumText.digitsVal (bare l) : Nat) : Int))) else none
theorem bare_neg (l : List Nat) : bare (45 :: l) = l := rfl
theorem bare_pos {c : Nat} {l : List Nat} (h : c ≠ 45) : bare (c :: l) = c :: l := by
  unfold bare
  rw [if_neg]
  intro e
  exact h (Option.some.inj e)
theorem bare_len (l : List Nat) : (bare l).length ≤ l.length := by
  unfold bare
  split
  · rw [List.length_tail]; omega
  · exact Nat.le_refl _
theorem all_list (x : Str) (p : Nat → Bool) : x.cps.all p = (TL.tl x).all p := by
  show x.cps.all p = x.cps.toList.all p
  rw [Array.all_toList]
theorem asc_digit : ∀ c, c < 128 → Unicode.isDigit c = (decide (48 ≤ c) && decide (c ≤ 57)) := by decide +kernel
theorem dig_text (x : Str) : (Txt.isascii x && Txt.isdigit x) = digB (TL.tl x) := by
  unfold Txt.isascii Txt.isdigit digB
  rw [all_list, all_list]
  have hl : decide (x.length > 0) = !(TL.tl x).isEmpty := by
    rw [TL.len_tl]
    cases TL.tl x <;> rfl
  show ((TL.tl x).all (fun c => decide (c < 128)) && (decide (x.length > 0) && (TL.tl x).all Unicode.isDigit)) = _
  rw [hl]
  generalize TL.tl x = l
  rw [Bool.eq_iff_iff]
  simp only [Bool.and_eq_true, List.all_eq_true, decide_eq_true_eq]
  constructor
  · rintro ⟨h1, h2, h3⟩
    refine ⟨h2, fun c hc => ?_⟩
    have := h3 c hc
    rw [asc_digit c (h1 c hc)] at this
    simpa using this
  · rintro ⟨h2, h3⟩
    refine ⟨fun c hc => by have := h3 c hc; omega, h2, fun c hc => ?_⟩
    have := h3 c hc
    rw [asc_digit c (by omega)]
    simpa using this
theorem tl_dash : TL.tl ("-" : Str) = [45] := rfl
theorem sub_one (z : Str) (y : Str) (c : Nat) (hy : TL.tl y = [c]) : Builtin.Str.subAt z y 0 = decide ((TL.tl z).head? = some c) := by
  have hl : y.length = 1 := by rw [TL.len_tl, hy]; rfl
  rw [PySem.StrLaws.subAt_eq, hl]
  have e1 : y.cps.toList = [c] := hy
  rw [e1, List.drop_zero]
  show ((TL.tl z).take 1 == [c]) = _
  cases TL.tl z with
  | nil => rfl
  | cons d r =>
    show ([d] == [c]) = decide (some d = some c)
    rw [Bool.eq_iff_iff]
    simp
theorem cut_dash (z : Str) : TL.tl (Txt.removeprefix z "-") = bare (TL.tl z) := by
  unfold Txt.removeprefix bare
  rw [sub_one z "-" 45 tl_dash]
  by_cases h : (TL.tl z).head? = some 45
  · rw [if_pos h, if_pos (decide_eq_true h)]
    have hl : z.length = (TL.tl z).length := TL.len_tl z
    obtain ⟨r, hr⟩ : ∃ r, TL.tl z = 45 :: r := by
      cases e : TL.tl z with
      | nil => rw [e] at h; cases h
      | cons d r =>
        rw [e] at h
        exact ⟨r, by rw [Option.some.inj h]⟩
    unfold Txt.affix
    have h1 : ("-" : Str).length = 1 := rfl
    dsimp only
    rw [h1, if_neg (by rw [hl, hr]; simp), TL.tl_strSub_end, hr]
    rfl
  · rw [if_neg h, if_neg (fun e => h (of_decide_eq_true e))]
    rfl
theorem starts_one (z y : Str) (c : Nat) (hy : TL.tl y = [c]) : Txt.startswith z y = decide ((TL.tl z).head? = some c) := by
  have hl : y.length = 1 := by rw [TL.len_tl, hy]; rfl
  unfold Txt.startswith
  rw [sub_one z y c hy, hl, TL.len_tl]
  cases TL.tl z with
  | nil => rfl
  | cons d r =>
    show (decide (0 + 1 ≤ r.length + 1) && _) = _
    rw [decide_eq_true (by omega), Bool.true_and]
theorem str_eq {x y : Str} : x = y ↔ TL.tl x = TL.tl y := ⟨fun e => by rw [e], TL.ext_tl⟩
theorem dec_tl (x y : Str) : decide (V.str x = V.str y) = decide (TL.tl x = TL.tl y) := by
  rw [Bool.eq_iff_iff, decide_eq_true_iff, decide_eq_true_iff]
  exact ⟨fun e => by rw [V.str.inj e], fun e => by rw [TL.ext_tl e]⟩
/-- the text of a number -/
def txt (n : Int) : List Nat := if n < 0 then 45 :: TL.numL n.natAbs else TL.numL n.natAbs
theorem tl_int (n : Int) : TL.tl (Str.ofString (toString n)) = txt n := by
  unfold txt
  cases n with
  | ofNat k =>
    rw [if_neg (by show ¬ ((k : Int) < 0); omega)]
    exact TL.tl_num k
  | negSucc k =>
    rw [if_pos (by omega)]
    have e : toString (Int.negSucc k) = "-" ++ toString (((k + 1 : Nat) : Nat) : Int) := rfl
    rw [e, TL.tl_ofString, String.toList_append, List.map_append, ← TL.tl_ofString (toString (((k + 1 : Nat) : Nat) : Int)), TL.tl_num]
    rfl
theorem txt_len' {n : Int} {k : Nat} (hk : 0 < k) (h : n.natAbs < 10 ^ k) : (txt n).length ≤ k + 1 := by
  have := TL.numL_len hk h
  unfold txt
  split
  · rw [List.length_cons]; omega
  · omega
theorem numL_head {n : Nat} (h : TL.numL n ≠ [48]) : (TL.numL n).head? ≠ some 48 := by
  intro e
  induction n using Nat.strongRecOn with
  | ind n ih =>
    by_cases hn : n < 10
    · rw [TL.numL_lt hn] at e h
      have : 48 + n = 48 := Option.some.inj e
      exact h (by rw [this])
    · rw [TL.numL_step (by omega)] at e
      have hne := TL.numL_ne (n / 10)
      have e2 : (TL.numL (n / 10)).head? = some 48 := by
        cases q : TL.numL (n / 10) with
        | nil => exact absurd q hne
        | cons a r => rw [q] at e; exact e
      refine ih (n / 10) (by omega) ?_ e2
      intro q
      have := TL.numL_val (n / 10)
      rw [q] at this
      have : n / 10 = 0 := this.symm
      omega
theorem numL_zero {n : Nat} : TL.numL n = [48] ↔ n = 0 := by
  constructor
  · intro e
    have := TL.numL_val n
    rw [e] at this
    exact this.symm
  · intro e
    subst e
    rfl
theorem numL_no (n : Nat) : (TL.numL n).head? ≠ some 45 := by
  intro e
  cases q : TL.numL n with
  | nil => rw [q] at e; cases e
  | cons a r =>
    rw [q] at e
    have := (TL.numL_digits n) a (by rw [q]; exact List.mem_cons_self)
    have : a = 45 := Option.some.inj e
    omega
theorem bare_num (n : Nat) : bare (TL.numL n) = TL.numL n := by
  unfold bare
  rw [if_neg (numL_no n)]
theorem bare_txt (n : Int) : bare (txt n) = TL.numL n.natAbs := by
  unfold txt
  split
  · rfl
  · exact bare_num _
/-- what is written is read -/
theorem num_txt (n : Int) : num (txt n) = some n := by
  unfold num
  rw [bare_txt, if_pos (digB_iff.mpr ⟨TL.numL_ne _, TL.numL_digits _⟩), if_neg, TL.numL_val]
  · unfold txt
    by_cases h : n < 0
    · rw [if_pos h, if_pos (show (45 :: TL.numL n.natAbs).head? = some 45 from rfl)]
      congr 1
      omega
    · rw [if_neg h, if_neg (numL_no _)]
      congr 1
      omega
  · rintro ⟨h1, h2⟩
    have h3 : TL.numL n.natAbs = [48] := Classical.byContradiction fun e => numL_head e h1
    have h4 := numL_zero.mp h3
    have h5 : n = 0 := by omega
    subst h5
    exact h2 rfl
theorem num_nat (n : Nat) : num (TL.numL n) = some (n : Int) := by
  have := num_txt (n : Int)
  unfold txt at this
  rw [if_neg (by omega), Int.natAbs_natCast] at this
  exact this
/-- int(text) reads it -/
theorem num_int {z : Str} {n : Int} (h : num (TL.tl z) = some n) (hl : z.length ≤ 4300) : intText? z = some n := by
  unfold num at h
  by_cases hd : digB (bare (TL.tl z)) = true
  · rw [if_pos hd] at h
    obtain ⟨h1, h2⟩ := digB_iff.mp hd
    by_cases hz : (bare (TL.tl z)).head? = some 48 ∧ TL.tl z ≠ [48]
    · rw [if_pos hz] at h; cases h
    · rw [if_neg hz] at h
      cases h
      by_cases hm : (TL.tl z).head? = some 45
      · rw [if_pos hm]
        obtain ⟨r, hr⟩ : ∃ r, TL.tl z = 45 :: r := by
          cases e : TL.tl z with
          | nil => rw [e] at hm; cases hm
          | cons d r =>
            rw [e] at hm
            exact ⟨r, by rw [Option.some.inj hm]⟩
        rw [hr, bare_neg] at h1 h2
        rw [hr, bare_neg]
        exact PySem.intText_neg hr h2 h1 hl
      · rw [if_neg hm]
        have hb : bare (TL.tl z) = TL.tl z := by unfold bare; rw [if_neg hm]
        rw [hb] at h1 h2 ⊢
        exact PySem.intText_digits h2 h1 hl
  · rw [if_neg hd] at h
    cases h
/-! ### own errors -/
abbrev valErr : List Value := [.type "ValueError", .type "Exception", .type "BaseException", .type "object"]
/-- what the written part says of an error class that is raised -/
structure ErrR (K : PySem.W.Frag) (mg : Str → Option Value) (n : Str) (C : Addr) : Prop where
  g : mg n = some (.ref C)
  x : PySem.W.excIn K C valErr "ValueError.__new__" = true
  k : PySem.W.keepIn K (.ref C) = true
  b : PySem.W.subIn K (.ref C) (.type "BaseException") = some true
  t : PySem.W.typeIn K (.ref C) = some (.type "type")
/-- of one that an except clause names -/
structure ErrN (K : PySem.W.Frag) (mg : Str → Option Value) (n : Str) (C : Addr) : Prop where
  g : mg n = some (.ref C)
  b : PySem.W.subIn K (.ref C) (.type "BaseException") = some true
  h : PySem.W.hasDictIn K C = true
  t : PySem.W.typeIn K (.ref C) = some (.type "type")
theorem ErrN.ex {K : PySem.W.Frag} {mg : Str → Option Value} {n : Str} {C : Addr} (e : ErrN K mg n C) {cls : Value} {r : Bool} (s : PySem.W.subIn K cls (.ref C) = some r) : PySem.W.exmOne K cls (.ref C) = some r := PySem.W.exm_ref e.b e.h e.t s
theorem pss_if {X : Cx} {sts : List Stmt} {t : TS} {P : Prop} (h : P → PSs X sts t) : PSs X sts (fun D σ H => P ∧ t D σ H) := ⟨fun pins s σ H D I hh => (h hh.1).run pins s σ H D I hh.2⟩
theorem kit_rr {K : PySem.W.Frag} {Z C : Addr} {r : Bool} (s : PySem.W.subIn K (.ref Z) (.ref C) = some r) (z : PySem.W.subIn K (.ref Z) (.ref Z) = some true) (h : PySem.W.hasDictIn K C = true) (t : PySem.W.typeIn K (.ref C) = some (.type "type")) : PySem.W.kitOne K (.ref Z) (.ref C) = some r := by
  have hc : (PySem.W.clsIn K C).isSome = true := by
    unfold PySem.W.hasDictIn at h
    cases e : PySem.W.clsIn K C with
    | none => rw [e] at h; cases h
    | some _ => rfl
  have e2 : ((PySem.W.clsIn K C).isSome && PySem.W.typeIn K (.ref C) == some (.type "type")) = true := by rw [hc, t] <;> rfl
  show (if (Value.ref Z == Value.ref C) = true then some true else (if ((PySem.W.clsIn K C).isSome && PySem.W.typeIn K (.ref C) == some (.type "type")) = true then PySem.W.subIn K (.ref Z) (.ref C) else none)) = some r
  by_cases g : (Value.ref Z == Value.ref C) = true
  · rw [if_pos g]
    have e : Value.ref Z = Value.ref C := beq_iff_eq.mp g
    rw [← e, z] at s
    exact s
  · rw [if_neg g, if_pos e2]
    exact s
theorem kit_rt {K : PySem.W.Frag} {Z : Addr} {T : String} {r : Bool} (s : PySem.W.subIn K (.ref Z) (.type T) = some r) (m : PySem.W.kitMeta T = true) : PySem.W.kitOne K (.ref Z) (.type T) = some r := by
  have g : (Value.ref Z == Value.type T) = false := rfl
  show (if (Value.ref Z == Value.type T) = true then some true else (if PySem.W.kitMeta T = true then PySem.W.subIn K (.ref Z) (.type T) else none)) = some r
  rw [g, if_neg Bool.false_ne_true, if_pos m]
  exact s
/-! ### bounds -/
/-- below 2 ^ n in size -/
def Bg (n : Nat) (x : Int) : Prop := x.natAbs < 2 ^ n
theorem Bg.mono {n m : Nat} {x : Int} (h : Bg n x) (l : n ≤ m) : Bg m x := Nat.lt_of_lt_of_le h (Nat.pow_le_pow_right (by decide) l)
theorem Bg.mul {n m : Nat} {x y : Int} (h : Bg n x) (k : Bg m y) : Bg (n + m) (x * y) := wide_lt h k
theorem Bg.add {n : Nat} {x y : Int} (h : Bg n x) (k : Bg n y) : Bg (n + 1) (x + y) := by
  unfold Bg at *
  rw [Nat.pow_succ]
  omega
theorem Bg.sub {n : Nat} {x y : Int} (h : Bg n x) (k : Bg n y) : Bg (n + 1) (x - y) := by
  unfold Bg at *
  rw [Nat.pow_succ]
  omega
theorem Bg.cmul {n m : Nat} {x y : Int} (h : Bg n x) (k : Bg m y) (n0 : 0 < n) (m0 : 0 < m) (l : n + m ≤ 1000000) : CMulW x y := wide_mul h k n0 m0 l
def CDivX (_ j : Int) : Prop := j ≠ 0 ∧ j.natAbs.log2 < 9000
theorem op_fdivX {X : Cx} : OpR X (binaryOp .FloorDiv) (rI CDivX fun i j => .int (i.fdiv j)) := opI fun i j _ _ _ _ _ hc q =>
  PyProof.Rows.floordiv_int hc.1 q (.inl (PyProof.noPylong_of_log2 hc.2))
theorem Bg.div {n : Nat} {x y : Int} (h : Bg n y) (h0 : y ≠ 0) (n0 : 0 < n) (l : n ≤ 9000) : CDivX x y := ⟨h0, Nat.lt_of_lt_of_le (PySem.Flt.log2_lt_of n0 h) l⟩
theorem Bg.divW {n : Nat} {x y : Int} (h : Bg n y) (h0 : 0 < y) (n0 : 0 < n) (l : n ≤ 9000) : CDivW x y := wide_div h0 h n0 l
def gi (a b : Int) : Int := ((Nat.gcd a.natAbs b.natAbs : Nat) : Int)
def dv (a b : Int) : Int := if b < 0 then -(gi a b) else gi a b
/-- n / m is t / b in lowest terms -/
structure Frc (n m t b : Int) : Prop where
  pos : 1 ≤ m
  eq : n * b = t * m
  low : gi n m = 1
theorem gi_pos {a b : Int} (h : b ≠ 0) : 1 ≤ gi a b := by
  have : 0 < Nat.gcd a.natAbs b.natAbs := Nat.gcd_pos_of_pos_right _ (by omega)
  unfold gi
  omega
theorem gi_dvd_l (a b : Int) : gi a b ∣ a := Int.natAbs_dvd_natAbs.mp (by unfold gi; rw [Int.natAbs_natCast]; exact Nat.gcd_dvd_left _ _)
theorem gi_dvd_r (a b : Int) : gi a b ∣ b := Int.natAbs_dvd_natAbs.mp (by unfold gi; rw [Int.natAbs_natCast]; exact Nat.gcd_dvd_right _ _)
theorem dv_ne {a b : Int} (h : b ≠ 0) : dv a b ≠ 0 := by
  have := gi_pos (a := a) h
  unfold dv
  split <;> omega
theorem dv_abs (a b : Int) : (dv a b).natAbs = Nat.gcd a.natAbs b.natAbs := by
  unfold dv gi
  split
  · rw [Int.natAbs_neg, Int.natAbs_natCast]
  · rw [Int.natAbs_natCast]
theorem dv_l (a b : Int) : a.fdiv (dv a b) * dv a b = a := by
  have : dv a b ∣ a := by
    unfold dv
    split
    · exact Int.neg_dvd.mpr (gi_dvd_l a b)
    · exact gi_dvd_l a b
  exact Int.fdiv_mul_cancel this
theorem dv_r (a b : Int) : b.fdiv (dv a b) * dv a b = b := by
  have : dv a b ∣ b := by
    unfold dv
    split
    · exact Int.neg_dvd.mpr (gi_dvd_r a b)
    · exact gi_dvd_r a b
  exact Int.fdiv_mul_cancel this
theorem frc {a b : Int} (h : b ≠ 0) : Frc (a.fdiv (dv a b)) (b.fdiv (dv a b)) a b := by
  have e1 := dv_l a b
  have e2 := dv_r a b
  have h0 := dv_ne (a := a) h
  have hg := gi_pos (a := a) h
  have hd : (0 < dv a b ∧ 0 < b) ∨ (dv a b < 0 ∧ b < 0) := by
    unfold dv
    split
    · right; omega
    · left; omega
  have ha := dv_abs a b
  generalize dv a b = d at *
  generalize a.fdiv d = n at *
  generalize b.fdiv d = m at *
  refine ⟨?_, ?_, ?_⟩
  · rcases hd with ⟨d0, b0⟩ | ⟨d0, b0⟩
    · by_cases g : 1 ≤ m
      · exact g
      · have : m * d ≤ 0 * d := Int.mul_le_mul_of_nonneg_right (by omega) (by omega)
        omega
    · by_cases g : 1 ≤ m
      · exact g
      · have : m * d ≥ 0 := by
          have := Int.mul_nonneg (show 0 ≤ -m by omega) (show 0 ≤ -d by omega)
          rw [Int.neg_mul_neg] at this
          exact this
        omega
  · rw [← e1, ← e2, Int.mul_left_comm n m d, Int.mul_comm m (n * d)]
  · have k : Nat.gcd n.natAbs m.natAbs * d.natAbs = d.natAbs := by
      rw [← Nat.gcd_mul_right, ← Int.natAbs_mul, ← Int.natAbs_mul, e1, e2, ha]
    have k0 : 0 < d.natAbs := by omega
    have : Nat.gcd n.natAbs m.natAbs = 1 := Nat.eq_of_mul_eq_mul_right k0 (by rw [k, Nat.one_mul])
    unfold gi
    omega
/-- the parts are not greater than what was given -/
theorem fdiv_bg {n : Nat} {a d : Int} (h : Bg n a) (e : a.fdiv d * d = a) (h0 : d ≠ 0) : Bg n (a.fdiv d) := by
  unfold Bg at *
  have : a.natAbs = (a.fdiv d).natAbs * d.natAbs := by rw [← Int.natAbs_mul, e]
  have k : (a.fdiv d).natAbs * 1 ≤ (a.fdiv d).natAbs * d.natAbs := Nat.mul_le_mul_left _ (by omega)
  omega
theorem dv_bg {n : Nat} {a b : Int} (h : Bg n b) (h0 : b ≠ 0) : Bg n (dv a b) := by
  unfold Bg at *
  rw [dv_abs]
  exact Nat.lt_of_le_of_lt (Nat.gcd_le_right _ (by omega)) h
theorem gi_step {a b : Int} (ha : 0 ≤ a) (hb : 0 < b) : gi b (a % b) = gi a b := by
  unfold gi
  have e : (a % b).natAbs = a.natAbs % b.natAbs := by
    have h1 : ((a % b).natAbs : Int) = ((a.natAbs % b.natAbs : Nat) : Int) := by
      rw [Int.natCast_emod, Int.natAbs_of_nonneg (Int.emod_nonneg _ (by omega)), Int.natAbs_of_nonneg ha, Int.natAbs_of_nonneg (by omega)]
    exact Int.ofNat.inj h1
  rw [e, Nat.gcd_comm b.natAbs, ← Nat.gcd_rec, Nat.gcd_comm]
theorem gi_abs (a b : Int) : gi (if a < 0 then -a else a) (if b < 0 then -b else b) = gi a b := by
  unfold gi
  have e : ∀ x : Int, (if x < 0 then -x else x).natAbs = x.natAbs := fun x => by split <;> omega
  rw [e, e]
theorem gi_zero {a : Int} (ha : 0 ≤ a) : gi a 0 = a := by
  unfold gi
  rw [Int.natAbs_zero, Nat.gcd_zero_right]
  omega
/-- the suite of an except clause, by what is known when it is reached -/
def tSu (X : Cx) (sts : List Stmt) : Addr → Value → Option Addr → TS := fun a cls d D σ H => ∀ (oe : Obj) (pn : List (Addr × Obj)), Zc cls d oe → (∃ vs, oe.data = .fields vs) → ∃ t, PSs (X.suite a ((a, oe) :: pn)) sts t ∧ t D σ H
theorem su_ok {X : Cx} {sts : List Stmt} {a : Addr} {cls : Value} {d : Option Addr} {oe : Obj} {pn : List (Addr × Obj)} (hz : Zc cls d oe) (hf : ∃ vs, oe.data = .fields vs) : PSs (X.suite a ((a, oe) :: pn)) sts (tSu X sts a cls d) :=
  ⟨fun pins s σ H D I h => by
    obtain ⟨t, p, q⟩ := h oe pn hz hf
    exact p.run pins s σ H D I q⟩
/-! ### drawing -/
/-- all but one place stands as it was -/
def But (d : Addr) (H H' : Hp) : Prop := ∀ b, b ≠ d → H' b = H b
theorem But.refl (d : Addr) (H : Hp) : But d H H := fun _ _ => rfl
theorem But.trans {d : Addr} {H H1 H2 : Hp} (a : But d H H1) (b : But d H1 H2) : But d H H2 := fun c h => (b c h).trans (a c h)
theorem But.upd {d : Addr} {H : Hp} {o : HO} : But d H (upd H d o) := fun _ h => upd_ne h
/-- the drawing state -/
def DrAt (H : Hp) (d c : Addr) : Prop := ∃ (ns : List Int) (i : Nat) (r s : Int), c ≠ d ∧ H d = some (.lst [.ref c, .int i, .int r, .int s]) ∧ H c = some (.lst (ns.map V.int)) ∧ i ≤ ns.length ∧ 0 ≤ r ∧ 0 ≤ s ∧ s < 2147483647
theorem DrAt.same {H H' : Hp} {d c : Addr} (h : DrAt H d c) (s : Same H H') : DrAt H' d c := by
  obtain ⟨ns, i, r, sd, n, h1, h2, h3⟩ := h
  exact ⟨ns, i, r, sd, n, s _ _ h1, s _ _ h2, h3⟩
theorem DrAt.lst {H : Hp} {d c : Addr} (h : DrAt H d c) : ∃ xs, H d = some (.lst xs) := by
  obtain ⟨ns, i, r, sd, n, h1, _⟩ := h
  exact ⟨_, h1⟩
theorem DrAt.lstc {H : Hp} {d c : Addr} (h : DrAt H d c) : ∃ xs, H c = some (.lst xs) := by
  obtain ⟨ns, i, r, sd, n, _, h1, _⟩ := h
  exact ⟨_, h1⟩
/-- another list may be changed -/
theorem DrAt.upd {H : Hp} {d c p : Addr} (h : DrAt H d c) (o : HO) (nd : p ≠ d) (nc : p ≠ c) : DrAt (upd H p o) d c := by
  obtain ⟨ns, i, r, sd, n, h1, h2, h3⟩ := h
  exact ⟨ns, i, r, sd, n, by rw [upd_ne nd.symm]; exact h1, by rw [upd_ne nc.symm]; exact h2, h3⟩
/-- what is no list is kept by a draw -/
theorem But.tup {d c b : Addr} {H H' : Hp} {xs : List V} (k : But d H H') (h : DrAt H d c) (hb : H b = some (.tup xs)) : H' b = some (.tup xs) := by
  obtain ⟨ys, hd⟩ := h.lst
  rw [k b (ne_of hb hd (fun z => nomatch z))]
  exact hb
def Bnd (m : Int) : Prop := m < 2 ^ 400
structure TxtD (mg : Str → Option Value) : Prop where
  int : mg "int" = none
  abs : mg "abs" = none
  len : mg "len" = none
  list : mg "list" = none
section
variable {P : Program} {w : World} {K : PySem.W.Frag} {mg : Str → Option Value} {base : Heap}
def spBegin (K : PySem.W.Frag) : Sp := fun vs H Q _ => ∃ (a : Addr) (ns : List Int), vs = [.ref a] ∧ SqL K H a (ns.map V.int) ∧ ns.length ≤ 63 ∧
  ∀ H' d c, Same H H' → H d = none → H c = none → DrAt H' d c → Q (.ref d) H'
theorem scB : FnScope ["script", "seed", "cell"] ["script"] (defScope sBegin) := ⟨rfl, rfl, rfl, by decide +kernel, rfl, by decide +kernel, by decide +kernel⟩
theorem ok_begin {f : Addr} {fd : FuncData} (F : Fun K "_law_begin" "_law_begin" sBegin f fd) (T : TxtD mg) : FnOk P w K mg base CX0 1 f fd ["script"] (spBegin K) := by
  refine F.ok scB (fun vs H Q E h => ?_) (fun cdv A outer s H vs Q E hr h => ?_)
  · obtain ⟨a, ns, rfl, _⟩ := h
    rfl
  · obtain ⟨a, ns, rfl, hS, hlen, q⟩ := h
    refine ⟨_, pss_cons (ps_set (i := 1) scB.nd rfl (.inl rfl) pe_int)
      (pss_cons (ps_for PassesOwn.never rfl (pi_list (pv 0)) (pg_name (i := 2) scB.nd rfl (.inl rfl))
        (pss_one (ps_set (i := 1) scB.nd rfl (.inl rfl)
          (pe_op op_mod (pe_op op_add (pe_op op_add (pe_op op_mul (pv 1) pe_int) (pe_op op_mod (pe_callTy call_int1 (by rfl) T.int (by decide +kernel) (pa_cons (pv 2) pa_nil)) pe_int)) pe_int) pe_int))))
      (pss_one (ps_ret (pe_lst (pa_cons (pe_callTy call_list_of (by rfl) T.list (by decide +kernel) (pa_cons (pv 0) pa_nil)) (pa_cons pe_int (pa_cons pe_int (pa_cons (pv 1) pa_nil)))))))), ?_⟩
    refine ⟨_, rfl, a, rfl, ⟨_, hS⟩, for_list (K := K) (a := a) (xs := ns.map V.int) (fun i σ H' => ∃ (z : Int) (v : Option V), σ = [some (.ref a), some (.int z), v] ∧ H' = H ∧ 0 ≤ z ∧ z < 2147483647)
      ⟨1, none, rfl, rfl, by decide, by decide⟩ (fun i σ H' _ ⟨_, _, _, e, _⟩ => by rw [e]; exact hS) ?_ ?_⟩
    · rintro i x σ H' hi ⟨z, v, rfl, rfl, h0, h1⟩
      obtain ⟨u, rfl⟩ : ∃ u, x = V.int u := by
        rw [List.getElem?_map] at hi
        cases e : ns[i]? with
        | none => rw [e] at hi; cases hi
        | some u => rw [e] at hi; exact ⟨u, (Option.some.inj hi).symm⟩
      refine ⟨_, rfl, _, _, rfl, rfl, .inl ⟨by omega, by omega⟩, _, rfl, .inl ⟨_, rfl, _, _, rfl, rfl, (by show (0 : Int) < 2147483629; decide), _, _, rfl, rfl, _, _, rfl, rfl, _, _, rfl, rfl, (by show (0 : Int) < 2147483647; decide), ?_⟩⟩
      exact ⟨_, _, rfl, rfl, Int.emod_nonneg _ (by decide), Int.emod_lt_of_pos _ (by decide)⟩
    · rintro σ H' ⟨z, v, rfl, rfl, h0, h1⟩
      refine ⟨_, rfl, a, _, rfl, .inl hS, fun c nc => ⟨_, rfl, by show 4 ≤ sizeLine; decide, fun d nd => ?_⟩⟩
      have ndc : d ≠ c := fun e => by
        rw [e, upd_same] at nd
        cases nd
      have nd0 : H' d = none := by
        rw [upd_ne ndc] at nd
        exact nd
      refine q _ d c (fun b o e => ?_) nd0 nc ⟨ns, 0, 0, z, ndc.symm, upd_same, ?_, Nat.zero_le _, by decide, h0, h1⟩
      · rw [upd_ne (ne_of_none e nd0), upd_ne (ne_of_none e nc)]
        exact e
      · rw [upd_ne ndc.symm, upd_same]
def spTake : Sp := fun vs H Q _ => ∃ (d c : Addr) (m : Int), vs = [.ref d, .int m] ∧ DrAt H d c ∧ 0 < m ∧ Bnd m ∧
  ∀ H' v, But d H H' → DrAt H' d c → 0 ≤ v → v < m → Q (.int v) H'
theorem scT : FnScope ["d", "many", "small", "digit"] ["d", "many"] (defScope sTake) := ⟨rfl, rfl, rfl, by decide +kernel, rfl, by decide +kernel, by decide +kernel⟩
theorem at0 {a b c e : V} : atI [a, b, c, e] (0 : Int) = some a := rfl
theorem at1 {a b c e : V} : atI [a, b, c, e] (1 : Int) = some b := rfl
theorem at2 {a b c e : V} : atI [a, b, c, e] (2 : Int) = some c := rfl
theorem at3 {a b c e : V} : atI [a, b, c, e] (3 : Int) = some e := rfl
theorem bnd_nat {m : Int} (h0 : 0 < m) (h : Bnd m) : m.natAbs < 2 ^ 400 := by
  have e : ((2 ^ 400 : Nat) : Int) = 2 ^ 400 := by decide +kernel
  unfold Bnd at h
  generalize (2 ^ 400 : Nat) = B at *
  omega
theorem bndW {r m : Int} (h0 : 0 < m) (h : Bnd m) : CDivW r m := wide_div (b := 400) h0 (bnd_nat h0 h) (by decide) (by decide)
theorem ok_take {f : Addr} {fd : FuncData} (F : Fun K "_law_take" "_law_take" sTake f fd) (T : TxtD mg) : FnOk P w K mg base CX0 1 f fd ["d", "many"] spTake := by
  refine F.ok scT (fun vs H Q E h => ?_) (fun cdv A outer s H vs Q E hr h => ?_)
  · obtain ⟨d, c, m, rfl, _⟩ := h
    rfl
  · obtain ⟨d, c, m, rfl, ⟨ns, i, r, sd, ncd, hd, hc, hi, hr0, hs0, hs1⟩, hm, hb, q⟩ := h
    refine ⟨_, Evl.pss_cut (ps_if (PW.pt (pw_and (pt_cmpR op_eq (pe_ix ix_list (pv 0) pe_int (fun _ _ => rfl)) pe_int (nomark _))
        (pw_and1 (pt_cmpR op_lt (pe_ix ix_list (pv 0) pe_int (fun _ _ => rfl)) (pe_callB call_len_seq (by rfl) T.len PySem.boot_len (pa_cons (pe_ix ix_list (pv 0) pe_int (fun _ _ => rfl)) pa_nil)) (nomark _)))))
        (pss_cons (ps_asg (pe_callB call_abs (by rfl) T.abs (by decide +kernel) (pa_cons (pe_callTy call_int1 (by rfl) T.int (by decide +kernel) (pa_cons (pe_ix ix_list (pe_ix ix_list (pv 0) pe_int (fun _ _ => rfl)) (pe_ix ix_list (pv 0) pe_int (fun _ _ => rfl)) (fun _ _ => rfl)) pa_nil)) pa_nil)) (pg_sub (pv 0) pe_int set_list))
        (pss_cons (ps_asg (pe_op op_add (pe_ix ix_list (pv 0) pe_int (fun _ _ => rfl)) pe_int) (pg_sub (pv 0) pe_int set_list))
        (pss_one (ps_if (pt_cmpR op_lt (pe_ix ix_list (pv 0) pe_int (fun _ _ => rfl)) (pe_op op_pow pe_int pe_int) (nomark _))
          (pss_cons (ps_set (i := 2) scT.nd rfl (.inl rfl) (pe_callTy call_int1 (by rfl) T.int (by decide +kernel) (pa_cons (pe_ix ix_list (pv 0) pe_int (fun _ _ => rfl)) pa_nil)))
          (pss_cons (ps_asg pe_int (pg_sub (pv 0) pe_int set_list))
          (pss_one (ps_ret (pe_op op_mod (pv 2) (pv 1))))))
          pss_nil))))
        pss_nil)
      (pss_cons (ps_if (pt_cmpR op_gt (pe_ix ix_list (pv 0) pe_int (fun _ _ => rfl)) pe_int (nomark _))
        (pss_cons (ps_set (i := 3) scT.nd rfl (.inl rfl) (pe_op op_mod (pe_callTy call_int1 (by rfl) T.int (by decide +kernel) (pa_cons (pe_ix ix_list (pv 0) pe_int (fun _ _ => rfl)) pa_nil)) (pv 1)))
        (pss_cons (ps_asg (pe_op op_fdivW (pe_callTy call_int1 (by rfl) T.int (by decide +kernel) (pa_cons (pe_ix ix_list (pv 0) pe_int (fun _ _ => rfl)) pa_nil)) (pv 1)) (pg_sub (pv 0) pe_int set_list))
        (pss_one (ps_ret (pv 3)))))
        pss_nil)
      (pss_cons (ps_asg (pe_op op_mod (pe_callTy call_int1 (by rfl) T.int (by decide +kernel) (pa_cons (pe_op op_add (pe_op op_mul (pe_ix ix_list (pv 0) pe_int (fun _ _ => rfl)) pe_int) pe_int) pa_nil)) pe_int) (pg_sub (pv 0) pe_int set_list))
      (pss_one (ps_ret (pe_op op_mod (pe_callTy call_int1 (by rfl) T.int (by decide +kernel) (pa_cons (pe_op op_fdiv (pe_ix ix_list (pv 0) pe_int (fun _ _ => rfl)) pe_int) pa_nil)) (pv 1)))))), ?_⟩
    refine ⟨fun σ' H' => ∃ (i r sd : Int) (x2 : Option V) (i' : Nat), σ' = [some (.ref d), some (.int m), x2, none] ∧ H' = upd H d (.lst [.ref c, .int i, .int r, .int sd]) ∧ i = i' ∧ i' ≤ ns.length ∧ 0 ≤ r ∧ 0 ≤ sd ∧ sd < 2147483647, ?_, ?_⟩
    · have same : H = upd H d (.lst [.ref c, .int i, .int r, .int sd]) := by
        funext b
        by_cases e : b = d
        · rw [e, upd_same, hd]
        · rw [upd_ne e]
      refine ⟨_, rfl, d, _, 2, _, rfl, rfl, SqL.of hd, at2, rfl, _, rfl, ite2 (fun e => ?_) (fun e => ?_)⟩
      · refine ⟨_, rfl, d, _, 1, _, rfl, rfl, SqL.of hd, at1, _, rfl, d, _, 0, _, rfl, rfl, SqL.of hd, at0, c, _, rfl, .inl (SqL.of hc), _, _, rfl, rfl, _, rfl, ite2 (fun e2 => ?_) (fun e2 => ?_)⟩
        · have hlt : i < ns.length := by
            have := of_decide_eq_true e2
            rw [List.length_map] at this
            omega
          have hx : (ns.map V.int)[i]? = some (.int ns[i]) := by
            rw [List.getElem?_map, List.getElem?_eq_getElem hlt]
            rfl
          generalize ns[i] = x at hx
          have hcd : ∀ o, (upd H d o) c = some (.lst (ns.map V.int)) := fun o => by rw [upd_ne ncd]; exact hc
          have habs : 0 ≤ (if x < 0 then -x else x) := by split <;> omega
          -- d[2] = abs(int(d[0][d[1]]))
          refine ⟨_, rfl, d, _, 0, _, rfl, rfl, SqL.of hd, at0, _, rfl, d, _, 1, _, rfl, rfl, SqL.of hd, at1, c, _, _, _, rfl, rfl, SqL.of hc, atI_nat hx, .inl ⟨x, rfl, x, rfl, _, rfl, d, _, 2, 2, rfl, rfl, hd, rfl, ?_⟩⟩
          generalize (if x < 0 then -x else x) = y at habs
          -- d[1] = d[1] + 1
          refine ⟨_, rfl, d, _, 1, _, rfl, rfl, SqL.of upd_same, at1, _, _, rfl, rfl, _, rfl, d, _, 1, 1, rfl, rfl, upd_same, rfl, ?_⟩
          rw [upd_upd]
          -- if d[2] < 10 ** 18
          refine ⟨_, rfl, d, _, 2, _, rfl, rfl, SqL.of upd_same, at2, 10, 18, rfl, rfl, ⟨by decide, by decide, by decide⟩, _, _, rfl, rfl, _, rfl, ite2 (fun e3 => ?_) (fun e3 => ?_)⟩
          · refine ⟨_, rfl, d, _, 2, _, rfl, rfl, SqL.of upd_same, at2, .inl ⟨_, rfl, _, rfl, d, _, 2, 2, rfl, rfl, upd_same, rfl, ?_⟩⟩
            rw [upd_upd]
            refine ⟨_, rfl, _, rfl, _, _, rfl, rfl, hm, ?_⟩
            exact q _ _ But.upd ⟨ns, i + 1, 0, sd, ncd, upd_same, hcd _, hlt, by decide, hs0, hs1⟩ (Int.emod_nonneg _ (by omega)) (Int.emod_lt_of_pos _ hm)
          · exact ⟨_, _, _, _, i + 1, rfl, rfl, rfl, hlt, habs, hs0, hs1⟩
        · exact ⟨_, _, _, _, i, rfl, same, rfl, hi, hr0, hs0, hs1⟩
      · exact iteF ⟨_, _, _, _, i, rfl, same, rfl, hi, hr0, hs0, hs1⟩
    · clear hd hi hr0 hs0 hs1
      rintro σ' H' ⟨i, r, sd, x2, i', rfl, rfl, rfl, hi, hr0, hs0, hs1⟩
      have hcd : ∀ o, (upd H d o) c = some (.lst (ns.map V.int)) := fun o => by rw [upd_ne ncd]; exact hc
      refine ⟨_, rfl, d, _, 2, _, rfl, rfl, SqL.of upd_same, at2, _, _, rfl, rfl, _, rfl, ite2 (fun e => ?_) (fun e => ?_)⟩
      · refine ⟨_, rfl, d, _, 2, _, rfl, rfl, SqL.of upd_same, at2, .inl ⟨_, rfl, _, rfl, _, _, rfl, rfl, hm, ?_⟩⟩
        refine ⟨_, rfl, d, _, 2, _, rfl, rfl, SqL.of upd_same, at2, .inl ⟨_, rfl, _, rfl, _, _, rfl, rfl, bndW hm hb, _, rfl, d, _, 2, 2, rfl, rfl, upd_same, rfl, ?_⟩⟩
        rw [upd_upd]
        refine ⟨_, rfl, ?_⟩
        exact q _ _ But.upd ⟨ns, i', _, sd, ncd, upd_same, hcd _, hi, Int.ediv_nonneg hr0 (by omega), hs0, hs1⟩ (Int.emod_nonneg _ (by omega)) (Int.emod_lt_of_pos _ hm)
      · refine ⟨_, rfl, d, _, 3, _, rfl, rfl, SqL.of upd_same, at3, _, _, rfl, rfl, .inl ⟨by omega, by omega⟩, _, _, rfl, rfl, .inl ⟨_, rfl, _, _, rfl, rfl, (by show (0 : Int) < 2147483647; decide), _, rfl, d, _, 3, 3, rfl, rfl, upd_same, rfl, ?_⟩⟩
        rw [upd_upd]
        refine ⟨_, rfl, d, _, 3, _, rfl, rfl, SqL.of upd_same, at3, _, _, rfl, rfl, ⟨by decide, by decide⟩, .inl ⟨_, rfl, _, rfl, _, _, rfl, rfl, hm, ?_⟩⟩
        exact q _ _ But.upd ⟨ns, i', r, _, ncd, upd_same, hcd _, hi, hr0, Int.emod_nonneg _ (by decide), Int.emod_lt_of_pos _ (by decide)⟩ (Int.emod_nonneg _ (by omega)) (Int.emod_lt_of_pos _ hm)
def spSigned : Sp := fun vs H Q _ => ∃ (d c : Addr) (m : Int), vs = [.ref d, .int m] ∧ DrAt H d c ∧ 0 ≤ m ∧ Bnd (2 * m + 1) ∧
  ∀ H' v, But d H H' → DrAt H' d c → -m ≤ v → v ≤ m → Q (.int v) H'
theorem scS : FnScope ["d", "most"] ["d", "most"] (defScope sSigned) := ⟨rfl, rfl, rfl, by decide +kernel, rfl, by decide +kernel, by decide +kernel⟩
theorem ok_signed {f fT : Addr} {fd fdT : FuncData} (F : Fun K "_law_signed" "_law_signed" sSigned f fd) (GT : FnOk P w K mg base CX0 1 fT fdT ["d", "many"] spTake) (kT : PySem.W.keepIn K (.ref fT) = true) (bT : Binds K fdT ["d", "many"] []) (gT : mg "_law_take" = some (.ref fT)) : FnOk P w K mg base CX0 2 f fd ["d", "most"] spSigned := by
  refine F.ok scS (fun vs H Q E h => ?_) (fun cdv A outer s H vs Q E hr h => ?_)
  · obtain ⟨d, c, m, rfl, _⟩ := h
    rfl
  · obtain ⟨d, c, m, rfl, dr, h0, hb, q⟩ := h
    refine ⟨_, pss_one (ps_ret (pe_op op_sub (pe_call GT hr (by rfl) gT kT bT .nil pass0 (pa_cons (pv 0) (pa_cons (pe_op op_add (pe_op op_mul pe_int (pv 1)) pe_int) pa_nil))) (pv 1))), ?_⟩
    refine ⟨_, rfl, _, rfl, _, _, rfl, rfl, .inl ⟨by omega, by omega⟩, _, _, rfl, rfl, d, c, _, rfl, dr, by omega, hb, fun H' v k dr' v0 v1 => ?_⟩
    exact ⟨_, rfl, _, _, rfl, rfl, q _ _ k dr' (by omega) (by omega)⟩
end
section
variable {P : Program} {w : World} {K : PySem.W.Frag} {mg : Str → Option Value} {base : Heap}
/-! ### the program's defs -/
theorem size64 {n : Nat} (h : n ≤ 100000) : n ≤ sizeLine := Nat.le_trans h (by decide)
def spReadInt (X : Addr) : Sp := fun vs H Q E => ∃ z : Str, vs = [.str z, .int 400] ∧ z.length ≤ 400 ∧ (num (TL.tl z) = none → E (.ref X) none H) ∧ ∀ n, num (TL.tl z) = some n → Q (.int n) H
theorem scRI : FnScope ["text", "most", "digits"] ["text", "most"] (defScope sReadInt) := ⟨rfl, rfl, rfl, by decide +kernel, rfl, by decide +kernel, by decide +kernel⟩
theorem ok_readint {f X : Addr} {fd : FuncData} (F : Fun K "read_integer" "read_integer" sReadInt f fd) (R : ErrR K mg "TextError" X) (ml : mg "len" = none) (mi : mg "int" = none) :
    FnOk P w K mg base (L2.CX P w) 1 f fd ["text", "most"] (spReadInt X) := by
  refine F.okX scRI (fun vs H Q E h => ?_) (fun cdv A outer s H vs Q E hr h => ?_)
  · obtain ⟨z, rfl, _⟩ := h
    rfl
  · obtain ⟨z, rfl, hz, qE, qQ⟩ := h
    refine ⟨_, (pss_cons (ps_set (i := 2) scRI.nd rfl (.inl rfl) (pe_bm PySem.F.plainAttrs_str PySem.F.slot_str_removeprefix PySem.F.type_str_removeprefix mt_removeprefix (pv 0) (pa_cons (pe_str) pa_nil)))
      (pss_cons (ps_if (PW.pt (pw_or (pt_not (PW.pt (pw_and (pt_val (pe_bm0 PySem.F.plainAttrs_str PySem.F.slot_str_isascii PySem.F.type_str_isascii mt_isascii (pv 2))) (pw_and1 (pt_val (pe_bm0 PySem.F.plainAttrs_str PySem.F.slot_str_isdigit PySem.F.type_str_isdigit mt_isdigit (pv 2))))))) (pw_or1 (pt_cmpR op_gt (pe_callB call_len_str (by rfl) ml PySem.boot_len (pa_cons (pv 2) pa_nil)) (pv 1) (nomark _))))) (pss_one (ps_raise rfl (takes_of rfl rfl rfl rfl) (pmk_own PySem.F.excBase_ValueError R.x R.g R.k (raises_own R.b R.t) rfl))) pss_nil)
      (pss_cons (ps_if (PW.pt (pw_and (pt_val (pe_bm PySem.F.plainAttrs_str PySem.F.slot_str_startswith PySem.F.type_str_startswith mt_startswith (pv 2) (pa_cons (pe_str) pa_nil))) (pw_and1 (pt_cmpR op_ne (pv 0) (pe_str) (nomark _))))) (pss_one (ps_raise rfl (takes_of rfl rfl rfl rfl) (pmk_own PySem.F.excBase_ValueError R.x R.g R.k (raises_own R.b R.t) rfl))) pss_nil)
      (pss_one (ps_ret (pe_callTy call_int_str (by rfl) mi (by decide +kernel) (pa_cons (pv 0) pa_nil))))))), ?_⟩
    refine ⟨_, rfl, rfl, z, _, rfl, rfl, size64 (by omega), ?_⟩
    have hdz := cut_dash z
    have hbl := bare_len (TL.tl z)
    have hzl := TL.len_tl z
    have hdl := TL.len_tl (Txt.removeprefix z "-")
    have hdd := dig_text (Txt.removeprefix z "-")
    have hst := starts_one (Txt.removeprefix z "-") "0" 48 rfl
    have hnum : num (TL.tl z) = _ := rfl
    unfold num at hnum
    generalize Txt.removeprefix z "-" = dz at *
    rw [hdz] at hdd hst hdl
    unfold num at qE qQ
    refine ⟨_, rfl, rfl, dz, rfl, rfl, trivial, _, rfl, ?_⟩
    cases hA : Txt.isascii dz with
    | false =>
      rw [hA, Bool.false_and] at hdd
      refine iteF (iteT (qE ?_))
      rw [← hdd, if_neg Bool.false_ne_true]
    | true =>
      refine iteT ⟨_, rfl, rfl, dz, rfl, rfl, trivial, _, rfl, ?_⟩
      rw [hA, Bool.true_and] at hdd
      rw [hdd]
      cases hB : digB (bare (TL.tl z)) with
      | false =>
        refine iteT (qE ?_)
        rw [hB, if_neg Bool.false_ne_true]
      | true =>
        rw [hB, if_pos rfl] at qE qQ
        refine iteF ⟨_, rfl, dz, rfl, size64 (by omega), _, rfl, _, _, rfl, rfl, _, rfl, ?_⟩
        rw [decide_eq_false (show ¬ ((400 : Int) < (dz.length : Int)) by omega)]
        refine iteF ⟨_, rfl, rfl, dz, _, rfl, rfl, _, rfl, ?_⟩
        rw [hst]
        by_cases h48 : (bare (TL.tl z)).head? = some 48
        · rw [decide_eq_true h48]
          refine iteT ⟨_, rfl, rfl, _, rfl, ?_⟩
          rw [dec_tl]
          have e0 : TL.tl ("0" : Str) = [48] := rfl
          rw [e0]
          by_cases hz0 : TL.tl z = [48]
          · rw [decide_eq_true hz0]
            have hn : ¬ ((bare (TL.tl z)).head? = some 48 ∧ TL.tl z ≠ [48]) := fun h => h.2 hz0
            rw [if_neg hn] at qQ
            refine iteF ⟨_, rfl, z, _, rfl, num_int ?_ (by omega), by omega, qQ _ rfl⟩
            unfold num
            rw [hB, if_pos rfl, if_neg hn]
          · rw [decide_eq_false hz0]
            refine iteT (qE ?_)
            rw [if_pos ⟨h48, hz0⟩]
        · rw [decide_eq_false h48]
          have hn : ¬ ((bare (TL.tl z)).head? = some 48 ∧ TL.tl z ≠ [48]) := fun h => h48 h.1
          rw [if_neg hn] at qQ
          refine iteF ⟨_, rfl, z, _, rfl, num_int ?_ (by omega), by omega, qQ _ rfl⟩
          unfold num
          rw [hB, if_pos rfl, if_neg hn]
end
section
variable {P : Program} {w : World} {K : PySem.W.Frag} {mg : Str → Option Value} {base : Heap}
abbrev FrT (H : Hp) (p : Addr) (n m : Int) : Prop := H p = some (.tup [.int n, .int m])
theorem new_tup {H : Hp} {p : Addr} {o : HO} (h : H p = none) : Same H (upd H p o) := fun b x e => by
  rw [upd_ne (ne_of_none e h)]
  exact e
def spFrac (Z : Addr) : Sp := fun vs H Q E => ∃ a b : Int, vs = [.int a, .int b] ∧ Bg 1000 a ∧ Bg 1000 b ∧ (b = 0 → E (.ref Z) none H) ∧
  (b ≠ 0 → ∀ p, H p = none → Q (.ref p) (upd H p (.tup [.int (a.fdiv (dv a b)), .int (b.fdiv (dv a b))])))
theorem scF : FnScope ["numerator", "denominator", "divisor"] ["numerator", "denominator"] (defScope sFrac) := ⟨rfl, rfl, rfl, by decide +kernel, rfl, by decide +kernel, by decide +kernel⟩
theorem ok_frac {f Z : Addr} {fd : FuncData} (F : Fun K "fraction" "fraction" sFrac f fd) (R : ErrR K mg "ZeroDenominator" Z) (mg0 : mg "gcd" = some (.builtin "math.gcd")) :
    FnOk P w K mg base (L2.CX P w) 1 f fd ["numerator", "denominator"] (spFrac Z) := by
  refine F.okX scF (fun vs H Q E h => ?_) (fun cdv A outer s H vs Q E hr h => ?_)
  · obtain ⟨a, b, rfl, _⟩ := h
    rfl
  · obtain ⟨a, b, rfl, ha, hb, hz, q⟩ := h
    refine ⟨_, pss_cons (ps_if (pt_cmpR op_eq (pv 1) pe_int (nomark _)) (pss_one (ps_raise rfl (takes_of rfl rfl rfl rfl) (pmk_own PySem.F.excBase_ValueError R.x R.g R.k (raises_own R.b R.t) rfl))) pss_nil)
      (pss_cons (ps_set (i := 2) scF.nd rfl (.inl rfl) (pe_callBfun cr_gcd (by rfl) mg0 (pa_cons (pv 0) (pa_cons (pv 1) pa_nil))))
      (Evl.pss_cut (ps_if (pt_cmpR op_lt (pv 1) pe_int (nomark _)) (pss_one (ps_set (i := 2) scF.nd rfl (.inl rfl) (pe_un un_neg (pv 2)))) pss_nil)
      (pss_one (ps_ret (pe_tup (pa_cons (pe_op op_fdivX (pv 0) (pv 2)) (pa_cons (pe_op op_fdivX (pv 1) (pv 2)) pa_nil))))))), ?_⟩
    refine ⟨_, rfl, rfl, _, rfl, ite2 (fun e => ?_) (fun e => ?_)⟩
    · exact hz (V.int.inj (of_decide_eq_true e))
    · have hb0 : b ≠ 0 := fun z => e (decide_eq_true (by rw [z]))
      refine ⟨_, rfl, _, rfl, a, b, rfl, ?_⟩
      refine ⟨fun σ' H' => σ' = [some (.int a), some (.int b), some (.int (dv a b))] ∧ H' = H, ?_, ?_⟩
      · refine ⟨_, rfl, _, _, rfl, rfl, _, rfl, ite2 (fun e2 => ?_) (fun e2 => ?_)⟩
        · refine ⟨_, rfl, _, rfl, ?_, rfl⟩
          unfold dv
          rw [if_pos (of_decide_eq_true e2)]
          rfl
        · refine ⟨?_, rfl⟩
          unfold dv
          rw [if_neg (fun z => e2 (decide_eq_true z))]
          rfl
      · rintro σ' H' ⟨rfl, rfl⟩
        have hd := dv_bg (a := a) hb hb0
        have h0 := dv_ne (a := a) hb0
        refine ⟨_, rfl, _, rfl, _, _, rfl, rfl, hd.div h0 (by decide) (by decide), _, rfl, _, rfl, _, _, rfl, rfl, hd.div h0 (by decide) (by decide), by show 2 ≤ sizeLine; decide, fun p np => ?_⟩
        exact q hb0 p np

/-! ### texts of fractions -/
def rd2 (a b : List Nat) : Option (Int × Int) := (num a).bind fun n => (num b).bind fun m => if m < 2 ∨ gi n m ≠ 1 then none else some (n, m)
def rd (l : List Nat) : Option (Int × Int) := if 400 < l.length then none else if 47 ∈ l then rd2 (l.takeWhile (· != 47)) (l.dropWhile (· != 47)).tail else (num l).map fun n => (n, 1)
theorem rd_no {l : List Nat} (h : 47 ∉ l) (hl : l.length ≤ 400) : rd l = (num l).map fun n => (n, 1) := by
  unfold rd
  rw [if_neg (by omega), if_neg h]
theorem tw_all {a r : List Nat} (h : 47 ∉ a) : (a ++ 47 :: r).takeWhile (· != 47) = a ∧ (a ++ 47 :: r).dropWhile (· != 47) = 47 :: r := by
  induction a with
  | nil => exact ⟨rfl, rfl⟩
  | cons c a ih =>
    have hc : (c != 47) = true := bne_iff_ne.mpr fun e => h (by rw [e]; exact List.mem_cons_self)
    obtain ⟨h1, h2⟩ := ih fun e => h (List.mem_cons_of_mem _ e)
    rw [List.cons_append, List.takeWhile_cons, List.dropWhile_cons, hc]
    simp only [if_true]
    exact ⟨by rw [h1], h2⟩
theorem rd_cut {l a b : List Nat} (h : l = a ++ 47 :: b) (ha : 47 ∉ a) (hl : l.length ≤ 400) : rd l = rd2 a b := by
  unfold rd
  obtain ⟨h1, h2⟩ := tw_all (r := b) ha
  rw [if_neg (by omega), h, if_pos (by simp), h1, h2]
  rfl
theorem cut_of {l : List Nat} (h : 47 ∈ l) : ∃ a b, l = a ++ 47 :: b ∧ 47 ∉ a := List.eq_append_cons_of_mem h
/-- where a reading ends -/
def RdEnd (K : PySem.W.Frag) (r : Option (Int × Int)) (Q : VK) (N : Hp → Prop) (H' : Hp) : Prop := (r = none → N H') ∧ ∀ n m p, r = some (n, m) → SqT K H' p [.int n, .int m] → Q (.ref p) H'
def spReadF (K : PySem.W.Frag) (X : Addr) : Sp := fun vs H Q E => ∃ z : Str, vs = [.str z] ∧ z.length ≤ 1000 ∧ ∀ H', Same H H' → RdEnd K (rd (TL.tl z)) Q (E (.ref X) none) H'
theorem scRF : FnScope ["text", "first", "slash", "second", "numerator", "denominator"] ["text"] (defScope sReadF) := ⟨rfl, rfl, rfl, by decide +kernel, rfl, by decide +kernel, by decide +kernel⟩
theorem same_upd {H : Hp} {p : Addr} {o : HO} (h : H p = none) : Same H (upd H p o) := fun b x e => by
  rw [upd_ne (ne_of_none e h)]
  exact e
theorem sqL_same {K : PySem.W.Frag} {H H' : Hp} {a : Addr} {xs : List V} (h : SqL K H a xs) (s : Same H H') : SqL K H' a xs := by
  rcases h with (h | ⟨o, h⟩) | h
  · exact .inl (.inl (s _ _ h))
  · exact .inl (.inr ⟨o, s _ _ h⟩)
  · exact .inr h
theorem ok_readf {f fI X : Addr} {fd fdI : FuncData} (F : Fun K "read_fraction" "read_fraction" sReadF f fd) (R : ErrR K mg "TextError" X) (ml : mg "len" = none) (mg0 : mg "gcd" = some (.builtin "math.gcd")) (l1 : ∃ u, mg "_TEXT_LIMIT" = some u ∧ RelV (.int 400) u)
    (GI : FnOk P w K mg base (L2.CX P w) 1 fI fdI ["text", "most"] (spReadInt X)) (kI : PySem.W.keepIn K (.ref fI) = true) (bI : Binds K fdI ["text", "most"] []) (gI : mg "read_integer" = some (.ref fI)) :
    FnOk P w K mg base (L2.CX P w) 2 f fd ["text"] (spReadF K X) := by
  obtain ⟨u1, gl1, rl1⟩ := l1
  refine F.okX scRF (fun vs H Q E h => ?_) (fun cdv A outer s H vs Q E hr h => ?_)
  · obtain ⟨z, rfl, _⟩ := h
    rfl
  · obtain ⟨z, rfl, hz, q⟩ := h
    refine ⟨_, (pss_cons (ps_if (pt_cmpR op_gt (pe_callB call_len_str (by rfl) ml PySem.boot_len (pa_cons (pv 0) pa_nil)) (pe_glob (v := .int 400) (by rfl) gl1 rl1) (nomark _)) (pss_one (ps_raise rfl (takes_of rfl rfl rfl rfl) (pmk_own PySem.F.excBase_ValueError R.x R.g R.k (raises_own R.b R.t) rfl))) pss_nil)
      (pss_cons (ps_asg (pe_partition (pv 0) pe_str) (pg_tup rfl (pgs_cons (pg_name (i := 1) scRF.nd rfl (.inl rfl)) (pgs_cons (pg_name (i := 2) scRF.nd rfl (.inl rfl)) (pgs_cons (pg_name (i := 3) scRF.nd rfl (.inl rfl)) pgs_nil)))))
      (pss_cons (ps_set (i := 4) scRF.nd rfl (.inl rfl) (pe_callS GI hr (by rfl) gI kI bI (fun σ => passAt (takes_of rfl rfl rfl rfl) σ) (pa_cons (pv 1) (pa_cons (pe_glob (v := .int 400) (by rfl) gl1 rl1) pa_nil))))
      (pss_cons (ps_if (pt_cmpR op_eq (pv 2) (pe_str) (nomark _)) (pss_one (ps_ret (pe_tup (pa_cons (pv 4) (pa_cons (pe_int) pa_nil))))) pss_nil)
      (pss_cons (ps_set (i := 5) scRF.nd rfl (.inl rfl) (pe_callS GI hr (by rfl) gI kI bI (fun σ => passAt (takes_of rfl rfl rfl rfl) σ) (pa_cons (pv 3) (pa_cons (pe_glob (v := .int 400) (by rfl) gl1 rl1) pa_nil))))
      (pss_cons (ps_if (PW.pt (pw_or (pt_cmpR op_lt (pv 5) (pe_int) (nomark _)) (pw_or1 (pt_cmpR op_ne (pe_callBfun cr_gcd (by rfl) mg0 (pa_cons (pv 4) (pa_cons (pv 5) pa_nil))) (pe_int) (nomark _))))) (pss_one (ps_raise rfl (takes_of rfl rfl rfl rfl) (pmk_own PySem.F.excBase_ValueError R.x R.g R.k (raises_own R.b R.t) rfl))) pss_nil)
      (pss_one (ps_ret (pe_tup (pa_cons (pv 4) (pa_cons (pv 5) pa_nil))))))))))), ?_⟩
    have hzl := TL.len_tl z
    refine ⟨_, rfl, z, rfl, size64 (by omega), _, _, rfl, rfl, _, rfl, ite2 (fun e1 => ?_) (fun e1 => ?_)⟩
    · refine (q _ (Same.refl _)).1 ?_
      have := of_decide_eq_true e1
      unfold rd
      rw [if_pos (by omega)]
    · have e1' : z.length ≤ 400 := by
        have : ¬ ((400 : Int) < (z.length : Int)) := fun x => e1 (decide_eq_true x)
        omega
      refine ⟨_, rfl, ⟨_, rfl⟩, z, _, rfl, rfl, rfl, size64 (by omega), fun p np => ?_⟩
      have s1 := same_upd (o := .tup [.str (Txt.partition z "/").1, .str (Txt.partition z "/").2.1, .str (Txt.partition z "/").2.2]) np
      refine ⟨p, _, rfl, SqT.of upd_same, rfl, _, _, rfl, _, _, rfl, _, _, rfl, rfl, ?_⟩
      generalize upd H p _ = H1 at *
      by_cases hs : 47 ∈ TL.tl z
      · obtain ⟨a, b, hab, ha⟩ := cut_of hs
        have hlen : a.length + b.length + 1 ≤ 400 := by
          rw [hab, List.length_append, List.length_cons] at hzl
          omega
        have hza : z = (⟨a.toArray⟩ : Str) ++ "/" ++ ⟨b.toArray⟩ := TL.ext_tl (by
          rw [TL.tl_append, TL.tl_append, hab, List.append_assoc]
          rfl)
        have hp : Txt.partition z "/" = ((⟨a.toArray⟩ : Str), ("/" : Str), (⟨b.toArray⟩ : Str)) := by
          rw [hza]
          exact TL.partition_app (s := 47) (S := []) rfl ha
        rw [hp]
        rw [rd_cut hab ha (by omega)] at q
        refine ⟨_, rfl, ⟨a.toArray⟩, rfl, by show a.toArray.size ≤ 400; simp; omega, fun e => (q _ s1).1 ?_, fun n e => ?_⟩
        · have e' : num a = none := e
          unfold rd2
          rw [e']
          rfl
        · have e' : num a = some n := e
          refine ⟨_, rfl, rfl, _, rfl, ?_⟩
          rw [dec_tl, decide_eq_false (show ¬ TL.tl ("/" : Str) = TL.tl ("" : Str) by decide +kernel)]
          refine iteF ⟨_, rfl, ⟨b.toArray⟩, rfl, by show b.toArray.size ≤ 400; simp; omega, fun e2 => (q _ s1).1 ?_, fun m e2 => ?_⟩
          · have e2' : num b = none := e2
            unfold rd2
            rw [e', e2']
            rfl
          · have e2' : num b = some m := e2
            have hr2 : rd2 a b = if m < 2 ∨ gi n m ≠ 1 then none else some (n, m) := by
              unfold rd2
              rw [e', e2']
              rfl
            rw [hr2] at q
            refine ⟨_, rfl, _, _, rfl, rfl, _, rfl, ite2 (fun e3 => iteT ?_) (fun e3 => ?_)⟩
            · refine (q _ s1).1 ?_
              rw [if_pos (.inl (of_decide_eq_true e3))]
            · refine ⟨_, rfl, _, rfl, n, m, rfl, rfl, _, rfl, ?_⟩
              by_cases hg : gi n m = 1
              · rw [decide_eq_true (show V.int ((Nat.gcd n.natAbs m.natAbs : Nat) : Int) = V.int 1 from congrArg V.int hg)]
                refine iteF ⟨_, rfl, _, rfl, by show 2 ≤ sizeLine; decide, fun p2 np2 => ?_⟩
                have s2 := same_upd (o := .tup [.int n, .int m]) np2
                refine (q _ (s1.trans s2)).2 n m p2 ?_ (SqT.of upd_same)
                rw [if_neg]
                rintro (h | h)
                · exact e3 (decide_eq_true h)
                · exact h hg
              · rw [decide_eq_false (show ¬ V.int ((Nat.gcd n.natAbs m.natAbs : Nat) : Int) = V.int 1 from fun h => hg (V.int.inj h))]
                refine iteT ((q _ s1).1 ?_)
                rw [if_pos (.inr hg)]
      · rw [TL.partition_none (s := 47) (S := []) rfl hs]
        rw [rd_no hs (by omega)] at q
        refine ⟨_, rfl, z, rfl, by omega, fun e => (q _ s1).1 (by rw [e]; rfl), fun n e => ?_⟩
        refine ⟨_, rfl, rfl, _, rfl, ?_⟩
        rw [dec_tl, decide_eq_true (show TL.tl Str.empty = TL.tl ("" : Str) by rfl)]
        refine iteT ⟨_, rfl, by show 2 ≤ sizeLine; decide, fun p2 np2 => ?_⟩
        have s2 := same_upd (o := .tup [.int n, .int 1]) np2
        refine (q _ (s1.trans s2)).2 n 1 p2 ?_ (SqT.of upd_same)
        rw [e]
        rfl
def wl (n m : Int) : List Nat := if m = 1 then txt n else txt n ++ 47 :: txt m
def spWriteF (K : PySem.W.Frag) : Sp := fun vs H Q _ => ∃ (p : Addr) (n m : Int), vs = [.ref p] ∧ SqT K H p [.int n, .int m] ∧ n.natAbs < 10 ^ 50 ∧ m.natAbs < 10 ^ 50 ∧ ∀ z, TL.tl z = wl n m → Q (.str z) H
theorem scWF : FnScope ["a"] ["a"] (defScope sWriteF) := ⟨rfl, rfl, rfl, by decide +kernel, rfl, by decide +kernel, by decide +kernel⟩
theorem log50 {n : Int} (h : n.natAbs < 10 ^ 50) : n.natAbs.log2 < 1920 := by
  by_cases h0 : n.natAbs = 0
  · rw [h0]; decide
  · have h1 := Nat.log2_self_le h0
    refine Classical.byContradiction fun e => ?_
    have h2 : 2 ^ 1920 ≤ 2 ^ n.natAbs.log2 := Nat.pow_le_pow_right (by decide) (by omega)
    have h3 : (10 : Nat) ^ 50 < 2 ^ 1920 := by decide +kernel
    omega
theorem f0 {a b : V} : atI [a, b] (0 : Int) = some a := rfl
theorem f1 {a b : V} : atI [a, b] (1 : Int) = some b := rfl
theorem str_txt (n : Int) : TL.tl ((toString n : String) : Str) = txt n := tl_int n
theorem str_len {n : Int} (h : n.natAbs < 10 ^ 50) : ((toString n : String) : Str).length ≤ 51 := by
  rw [TL.len_tl, str_txt]
  exact txt_len' (by decide) h
theorem ok_writef {f : Addr} {fd : FuncData} (F : Fun K "write_fraction" "write_fraction" sWriteF f fd) (ms : mg "str" = none) : FnOk P w K mg base CX0 1 f fd ["a"] (spWriteF K) := by
  refine F.ok scWF (fun vs H Q E h => ?_) (fun cdv A outer s H vs Q E hr h => ?_)
  · obtain ⟨p, n, m, rfl, _⟩ := h
    rfl
  · obtain ⟨p, n, m, rfl, hp, hn, hm, q⟩ := h
    refine ⟨_, (pss_cons (ps_if (pt_cmpR op_eq (pe_ix ix_tup (pv 0) pe_int (fun _ _ => rfl)) (pe_int) (nomark _)) (pss_one (ps_ret (pe_callTy call_str_int (by rfl) ms (by decide +kernel) (pa_cons (pe_ix ix_tup (pv 0) pe_int (fun _ _ => rfl)) pa_nil)))) pss_nil)
      (pss_one (ps_ret (pe_joined (.cons (pe_fmt (pe_ix ix_tup (pv 0) pe_int (fun _ _ => rfl))) (.cons pe_str (.cons (pe_fmt (pe_ix ix_tup (pv 0) pe_int (fun _ _ => rfl))) .nil))))))), ?_⟩
    refine ⟨_, rfl, p, _, 1, _, rfl, rfl, hp, f1, rfl, _, rfl, ?_⟩
    by_cases e : m = 1
    · rw [decide_eq_true (show V.int m = V.int 1 by rw [e])]
      refine iteT ⟨_, rfl, p, _, 0, _, rfl, rfl, hp, f0, n, rfl, log50 hn, q _ ?_⟩
      rw [str_txt, wl, if_pos e]
    · rw [decide_eq_false (fun h => e (V.int.inj h))]
      have a1 := str_len hn
      have a2 := str_len hm
      have h0 : Str.empty.length = 0 := rfl
      have h1 : ("/" : Str).length = 1 := rfl
      refine iteF ⟨_, rfl, p, _, 0, _, rfl, rfl, hp, f0, .inr ⟨n, rfl, log50 hn, _, rfl, ?_, _, rfl, ?_, _, rfl, p, _, 1, _, rfl, rfl, hp, f1, .inr ⟨m, rfl, log50 hm, _, rfl, ?_, q _ ?_⟩⟩⟩
      · exact size64 (by rw [PySem.Str.length_append]; omega)
      · exact size64 (by rw [PySem.Str.length_append, PySem.Str.length_append]; omega)
      · exact size64 (by rw [PySem.Str.length_append, PySem.Str.length_append, PySem.Str.length_append]; omega)
      · rw [TL.tl_append, TL.tl_append, TL.tl_append, str_txt, str_txt, wl, if_neg e]
        show [] ++ txt n ++ [47] ++ txt m = _
        rw [List.nil_append, List.append_assoc]
        rfl
end

/-! ### the law's look at texts -/
def dg (l : List Nat) : Bool := digB l && (decide (l = [48]) || decide (l.head? ≠ some 48))
def vl (l : List Nat) : Int := if l.head? = some 45 then -((NumText.digitsVal (bare l) : Nat) : Int) else ((NumText.digitsVal (bare l) : Nat) : Int)
theorem dg_iff {l : List Nat} : dg l = true ↔ digB l = true ∧ (l = [48] ∨ l.head? ≠ some 48) := by
  unfold dg
  rw [Bool.and_eq_true, Bool.or_eq_true, decide_eq_true_iff, decide_eq_true_iff]
theorem num_dg (l : List Nat) : num l = if dg (bare l) = true ∧ l ≠ [45, 48] then some (vl l) else none := by
  unfold num
  by_cases h1 : digB (bare l) = true
  · rw [if_pos h1]
    by_cases h2 : (bare l).head? = some 48 ∧ l ≠ [48]
    · rw [if_pos h2, if_neg]
      rintro ⟨h3, h4⟩
      rcases (dg_iff.mp h3).2 with h5 | h5
      · unfold bare at h5
        by_cases h6 : l.head? = some 45
        · rw [if_pos h6] at h5
          cases l with
          | nil => cases h6
          | cons a r =>
            have : a = 45 := Option.some.inj h6
            subst this
            have : r = [48] := h5
            exact h4 (by rw [this])
        · rw [if_neg h6] at h5
          exact h2.2 h5
      · exact h5 h2.1
    · rw [if_neg h2]
      show some (vl l) = _
      rw [if_pos]
      refine ⟨dg_iff.mpr ⟨h1, ?_⟩, fun e => ?_⟩
      · by_cases h3 : (bare l).head? = some 48
        · left
          have h4 : l = [48] := Classical.byContradiction fun e => h2 ⟨h3, e⟩
          rw [h4]
          rfl
        · exact .inr h3
      · subst e
        exact h2 ⟨rfl, by decide⟩
  · rw [if_neg h1, if_neg]
    rintro ⟨h3, _⟩
    exact h1 (dg_iff.mp h3).1
theorem dg_head {l : List Nat} (h : digB l = true) : l.head? ≠ some 45 := by
  intro e
  obtain ⟨_, h2⟩ := digB_iff.mp h
  cases l with
  | nil => cases e
  | cons a r =>
    have : a = 45 := Option.some.inj e
    have := h2 a List.mem_cons_self
    omega
theorem bare_dg {l : List Nat} (h : digB l = true) : bare l = l := by
  unfold bare
  rw [if_neg (dg_head h)]
theorem num_of_dg {l : List Nat} (h : dg l = true) : num l = some ((NumText.digitsVal l : Nat) : Int) := by
  have hd := (dg_iff.mp h).1
  rw [num_dg, bare_dg hd, if_pos ⟨h, fun e => dg_head hd (by rw [e]; rfl)⟩, vl, if_neg (dg_head hd), bare_dg hd]
theorem num_slash {l : List Nat} (h : 47 ∈ l) : num l = none := by
  rw [num_dg, if_neg]
  rintro ⟨h3, _⟩
  obtain ⟨_, h2⟩ := digB_iff.mp (dg_iff.mp h3).1
  have : 47 ∈ bare l := by
    unfold bare
    by_cases e : l.head? = some 45
    · rw [if_pos e]
      cases l with
      | nil => cases h
      | cons a r =>
        have ea : a = 45 := Option.some.inj e
        rcases List.mem_cons.mp h with h | h
        · omega
        · exact h
    · rw [if_neg e]
      exact h
  have := h2 _ this
  omega
theorem val_snoc (r : List Nat) (c : Nat) : NumText.digitsVal (r ++ [c]) = NumText.digitsVal r * 10 + (c - 48) := by
  unfold NumText.digitsVal
  rw [List.foldl_append]
  rfl
/-- digits without a zero in front are those of their number -/
theorem numL_back : ∀ (n : Nat) (l : List Nat), l.length = n → dg l = true → TL.numL (NumText.digitsVal l) = l := by
  intro n
  induction n with
  | zero =>
    intro l hl h
    rw [List.length_eq_zero_iff.mp hl] at h
    cases h
  | succ n ih =>
    intro l hl h
    obtain ⟨r, c, rfl⟩ : ∃ r c, l = r ++ [c] := ⟨l.dropLast, l.getLast (by intro z; rw [z] at hl; cases hl), (List.dropLast_concat_getLast _).symm⟩
    obtain ⟨h1, h2⟩ := dg_iff.mp h
    obtain ⟨h3, h4⟩ := digB_iff.mp h1
    have hc := h4 c (List.mem_append_right _ List.mem_cons_self)
    have hrl : r.length = n := by simpa using hl
    rw [val_snoc]
    cases hr : r with
    | nil =>
      show TL.numL (0 * 10 + (c - 48)) = [c]
      rw [Nat.zero_mul, Nat.zero_add, TL.numL_lt (by omega)]
      congr 1
      omega
    | cons a q =>
      rw [← hr]
      have hh : (r ++ [c]).head? = r.head? := by rw [hr]; rfl
      have h5 : r.head? ≠ some 48 := by
        rcases h2 with h2 | h2
        · rw [hr] at h2
          have := congrArg List.length h2
          simp at this
        · rwa [hh] at h2
      have hd : dg r = true := dg_iff.mpr ⟨digB_iff.mpr ⟨by rw [hr]; exact List.cons_ne_nil _ _, fun x hx => h4 x (List.mem_append_left _ hx)⟩, .inr h5⟩
      have e := ih r hrl hd
      have hv : NumText.digitsVal r ≠ 0 := fun z => by
        rw [z] at e
        have : r = [48] := e.symm
        rw [this] at h5
        exact h5 rfl
      rw [TL.numL_step (by omega), show (NumText.digitsVal r * 10 + (c - 48)) / 10 = NumText.digitsVal r by omega, e]
      congr 1
      congr 1
      omega
theorem val_small {l : List Nat} (h : dg l = true) : NumText.digitsVal l < 2 ↔ l = [48] ∨ l = [49] := by
  have e := numL_back _ l rfl h
  constructor
  · intro hv
    have : NumText.digitsVal l = 0 ∨ NumText.digitsVal l = 1 := by omega
    rcases this with hv | hv
    · rw [hv] at e; exact .inl e.symm
    · rw [hv] at e; exact .inr e.symm
  · rintro (rfl | rfl) <;> decide
theorem num_big {l : List Nat} {m : Int} (h : num l = some m) (h2 : 2 ≤ m) : dg l = true := by
  rw [num_dg] at h
  by_cases hc : dg (bare l) = true ∧ l ≠ [45, 48]
  · rw [if_pos hc] at h
    cases h
    unfold vl at h2
    by_cases h3 : l.head? = some 45
    · rw [if_pos h3] at h2
      omega
    · have : bare l = l := by unfold bare; rw [if_neg h3]
      rw [this] at hc
      exact hc.1
  · rw [if_neg hc] at h
    cases h
theorem gi_one (a : Int) : gi a 1 = 1 := by
  unfold gi
  rw [show (1 : Int).natAbs = 1 from rfl, Nat.gcd_one_right]
  rfl
theorem gi_vl (l : List Nat) (m : Int) : gi (vl l) m = gi ((NumText.digitsVal (bare l) : Nat) : Int) m := by
  unfold vl gi
  split
  · rw [Int.natAbs_neg]
  · rfl
/-- the law's answer for a / b -/
theorem rd2_dg (a b : List Nat) : rd2 a b = if dg (bare a) = true ∧ a ≠ [45, 48] ∧ dg b = true ∧ b ≠ [48] ∧ b ≠ [49] ∧ gi ((NumText.digitsVal (bare a) : Nat) : Int) ((NumText.digitsVal b : Nat) : Int) = 1 then some (vl a, ((NumText.digitsVal b : Nat) : Int)) else none := by
  unfold rd2
  rw [num_dg a]
  by_cases h1 : dg (bare a) = true ∧ a ≠ [45, 48]
  · rw [if_pos h1, Option.bind_some]
    by_cases h2 : dg b = true
    · rw [num_of_dg h2, Option.bind_some]
      have h3 := val_small h2
      rw [gi_vl]
      by_cases h4 : b = [48] ∨ b = [49]
      · have := h3.mpr h4
        rw [if_pos (.inl (by omega)), if_neg]
        rintro ⟨_, _, _, h5, h6, _⟩
        exact h4.elim h5 h6
      · have h4' : ¬ NumText.digitsVal b < 2 := fun z => h4 (h3.mp z)
        by_cases h5 : gi ((NumText.digitsVal (bare a) : Nat) : Int) ((NumText.digitsVal b : Nat) : Int) = 1
        · rw [if_neg (by rintro (h | h); omega; exact h h5), if_pos ⟨h1.1, h1.2, h2, fun e => h4 (.inl e), fun e => h4 (.inr e), h5⟩]
        · rw [if_pos (.inr h5), if_neg (fun h => h5 h.2.2.2.2.2)]
    · rw [if_neg (fun h => h2 h.2.2.1)]
      cases e : num b with
      | none => rfl
      | some m =>
        rw [Option.bind_some, if_pos (.inl (Int.not_le.mp fun h => h2 (num_big e h)))]
  · rw [if_neg h1, if_neg (fun h => h1 ⟨h.1, h.2.1⟩), Option.bind_none]
section
variable {P : Program} {w : World} {K : PySem.W.Frag} {mg : Str → Option Value} {base : Heap}
theorem scD : FnScope ["a", "b"] ["a", "b"] (defScope sDiv) := ⟨rfl, rfl, rfl, by decide +kernel, rfl, by decide +kernel, by decide +kernel⟩
def spDiv : Sp := fun vs H Q _ => ∃ a b : Int, vs = [.int a, .int b] ∧ 0 ≤ a ∧ 0 ≤ b ∧ Q (.int (gi a b)) H
theorem ok_div {f : Addr} {fd : FuncData} (F : Fun K "_law_divisor" "_law_divisor" sDiv f fd) (mn : mg "int" = none) : FnOk P w K mg base CX0 1 f fd ["a", "b"] spDiv := by
  refine F.ok scD (fun vs H Q E h => ?_) (fun cdv A outer s H vs Q E hr h => ?_)
  · obtain ⟨a, b, rfl, _⟩ := h
    rfl
  · obtain ⟨a, b, rfl, ha, hb, q⟩ := h
    refine ⟨_, pss_cons (ps_while PassesOwn.never (pt_cmpR op_gt (pv 1) pe_int (nomark _))
        (pss_one (ps_par (i := 0) (j := 1) (by rfl) scD.nd rfl rfl (by decide) rfl rfl (pa_cons (pv 1) (pa_cons (pe_op op_mod (pe_callTy call_int1 (by rfl) mn (by decide +kernel) (pa_cons (pv 0) pa_nil)) (pv 1)) pa_nil)) (by rfl))))
      (pss_one (ps_ret (pv 0))), ?_⟩
    refine ⟨fun m σ H' => ∃ x y : Int, σ = [some (.int x), some (.int y)] ∧ H' = H ∧ 0 ≤ x ∧ 0 ≤ y ∧ m = y.toNat ∧ gi x y = gi a b, ⟨_, _, _, rfl, rfl, ha, hb, rfl, rfl⟩, ?_⟩
    rintro m σ H' ⟨x, y, rfl, rfl, hx, hy, rfl, e⟩
    refine ⟨_, rfl, _, _, rfl, rfl, _, rfl, ite2 (fun g => ?_) (fun g => ?_)⟩
    · have g' : 0 < y := of_decide_eq_true g
      refine ⟨fun σ' H'' => σ' = [some (.int y), some (.int (x % y))] ∧ H'' = H', ?_, ?_⟩
      · rintro σ' H'' ⟨rfl, rfl⟩
        have h1 := Int.emod_lt_of_pos x g'
        have h2 := Int.emod_nonneg x (show y ≠ 0 by omega)
        exact ⟨(x % y).toNat, by omega, y, x % y, rfl, rfl, by omega, h2, rfl, by rw [gi_step hx g', e]⟩
      · exact ⟨_, rfl, _, rfl, .inl ⟨_, rfl, _, rfl, _, _, rfl, rfl, g', _, _, rfl, rfl, rfl⟩⟩
    · have g' : y = 0 := by
        have : ¬ 0 < y := fun z => g (decide_eq_true z)
        omega
      subst g'
      have hz : gi x 0 = x := by
        unfold gi
        rw [Int.natAbs_zero, Nat.gcd_zero_right]
        omega
      rw [hz] at e
      refine ⟨_, rfl, ?_⟩
      rw [e]
      exact q
/-- the signs of a digit test -/
def tenS : Str := "0123456789"
theorem ten_mem (c : Nat) : decide (c ∈ tenS.cps.toList) = (decide (48 ≤ c) && decide (c ≤ 57)) := by
  have e : tenS.cps.toList = [48, 49, 50, 51, 52, 53, 54, 55, 56, 57] := by decide +kernel
  rw [e, Bool.eq_iff_iff, Bool.and_eq_true, decide_eq_true_iff, decide_eq_true_iff, decide_eq_true_iff]
  simp only [List.mem_cons, List.not_mem_nil, or_false]
  omega
abbrev nLD : List Str := ["text", "sign"]
theorem scLD : FnScope nLD ["text"] (defScope sDigits) := ⟨rfl, rfl, rfl, by decide +kernel, rfl, by decide +kernel, by decide +kernel⟩
def spDigits : Sp := fun vs H Q _ => ∃ z : Str, vs = [.str z] ∧ z.length ≤ 500 ∧ ∀ H', Same H H' → Q (.bl (dg (TL.tl z))) H'
theorem ok_digits {f : Addr} {fd : FuncData} (F : Fun K "_law_digits" "_law_digits" sDigits f fd) (ma : mg "all" = none) : FnOk P w K mg base CX0 1 f fd ["text"] spDigits := by
  refine F.ok scLD (fun vs H Q E h => ?_) (fun cdv A outer s H vs Q E hr h => ?_)
  · obtain ⟨z, rfl, _⟩ := h
    rfl
  · obtain ⟨z, rfl, hz, q⟩ := h
    refine ⟨_, (pss_one (ps_ret (pe_and (pe_cmpR op_ne (pv 0) (pe_str) (nomark _)) (pe_and (pe_callB (cr_all rfl) (by rfl) ma (by decide +kernel) (pa_cons (pe_lc (own := [("sign", 1)]) (g := gName 1) (tt := tYes) (te := tOp (fun x y H Q => ∃ (c : Nat) (z : Str), x = .str ⟨#[c]⟩ ∧ y = .str z ∧ Q (.bl (decide (c ∈ z.cps.toList))) H) (tVar 1) (tC (.str tenS))) rfl scLD.nd (pi_str (pv 0)) (blkOk_by (N := nLD) (sc := defScope sDigits) (by decide +kernel)) (fun _ _ _ _ _ => pg_name (i := 1) scLD.nd rfl (.inl rfl) (hf := Or.inr rfl)) (fun _ _ _ _ _ => pts_nil) (fun _ _ _ _ _ => pe_cmpR op_in_sign (pv 1) pe_str rfl)) pa_nil)) (pe_one (pe_or (pe_cmpR op_eq (pv 0) (pe_str) (nomark _)) (pe_one (pe_cmpR op_ne (pe_ix ix_str (pv 0) (pe_int) (fun _ _ => rfl)) (pe_str) (nomark _))))))))), ?_⟩
    have hzl := TL.len_tl z
    have hzs : z.cps.size = (TL.tl z).length := hzl
    refine ⟨_, rfl, rfl, _, rfl, ?_⟩
    rw [dec_tl]
    have et : TL.tl ("" : Str) = [] := rfl
    rw [et]
    by_cases he : TL.tl z = []
    · rw [decide_eq_true he]
      refine iteF ?_
      have := q _ (Same.refl _)
      rw [he] at this
      exact this
    · rw [decide_eq_false he]
      refine iteT ⟨_, rfl, z, rfl, fun D nD => lc_it walk_str (fun i H' => Same H H' ∧ H' D = some (.lst (((TL.tl z).take i).map fun c => V.bl (decide (48 ≤ c) && decide (c ≤ 57)))))
        ⟨same_upd nD, upd_same⟩ (fun _ _ _ _ => trivial) ?_ ?_⟩
      · rintro i x H1 _ hi ⟨sm, hD⟩ ⟨rfl, c, hc, rfl⟩
        have hc' : (TL.tl z)[i]? = some c := by
          show z.cps.toList[i]? = some c
          rw [Array.getElem?_toList]
          exact hc
        refine ⟨rfl, ?_⟩
        unfold tYes
        dsimp only
        rw [if_pos rfl]
        refine ⟨_, rfl, c, tenS, rfl, rfl, _, hD, ?_, ?_, ?_⟩
        · rw [List.length_map, List.length_take]
          exact Nat.lt_of_le_of_lt (Nat.min_le_left _ _) (Nat.lt_of_lt_of_le (show i < 100000 by omega) (by decide))
        · exact fun b o e => by rw [upd_ne (ne_of_none e nD)]; exact sm _ _ e
        · rw [upd_same, ten_mem, List.take_add_one, hc', List.map_append]
          rfl
      · rintro H1 ⟨sm, hD⟩
        rw [hzs, List.take_length] at hD
        refine ⟨D, (TL.tl z).map fun c => decide (48 ≤ c) && decide (c ≤ 57), rfl, SqL.of (by rw [List.map_map]; exact hD), ?_⟩
        have hall : ((TL.tl z).map fun c => decide (48 ≤ c) && decide (c ≤ 57)).all id = digB (TL.tl z) := by
          unfold digB
          rw [List.all_map]
          cases e : TL.tl z with
          | nil => exact absurd e he
          | cons a r => rfl
        rw [hall]
        have q1 := q _ sm
        unfold dg at q1
        refine ⟨_, rfl, ?_⟩
        cases hB : digB (TL.tl z) with
        | false =>
          rw [hB] at q1
          exact iteF q1
        | true =>
          rw [hB, Bool.true_and] at q1
          refine iteT ⟨_, rfl, rfl, _, rfl, ?_⟩
          rw [dec_tl, show TL.tl ("0" : Str) = [48] from rfl]
          by_cases h48 : TL.tl z = [48]
          · rw [decide_eq_true h48] at q1 ⊢
            exact iteT q1
          · rw [decide_eq_false h48, Bool.false_or] at q1
            rw [decide_eq_false h48]
            obtain ⟨c, r, hr⟩ : ∃ c r, TL.tl z = c :: r := by
              cases e : TL.tl z with
              | nil => exact absurd e he
              | cons c r => exact ⟨c, r, rfl⟩
            refine iteF ⟨_, rfl, z, 0, c, rfl, rfl, size64 (by omega), atI_nat (j := 0) ?_, rfl, ?_⟩
            · show (TL.tl z)[0]? = some c
              rw [hr]
              rfl
            · rw [dec_tl]
              have e2 : decide (TL.tl (⟨#[c]⟩ : Str) = TL.tl ("0" : Str)) = decide ((TL.tl z).head? = some 48) := by
                rw [hr]
                show decide ([c] = [48]) = decide (some c = some 48)
                rw [Bool.eq_iff_iff, decide_eq_true_iff, decide_eq_true_iff]
                simp
              rw [e2]
              rw [decide_not] at q1
              exact q1
end
section
variable {P : Program} {w : World} {K : PySem.W.Frag} {mg : Str → Option Value} {base : Heap}
theorem cut_first (z : Str) : TL.tl (cutS z none (some 1)) = (TL.tl z).take 1 := by
  show ((TL.tl z).drop (HT.sIx z.length 0 none)).take (HT.sIx z.length z.length (some ((1 : Nat) : Int)) - HT.sIx z.length 0 none) = _
  rw [HT.sIx_nat, HT.sIx_none, TL.len_tl, List.drop_zero]
  cases TL.tl z with
  | nil => rfl
  | cons a r => rw [Nat.min_eq_left (by simp)]
theorem cut_rest (z : Str) : TL.tl (cutS z (some 1) none) = (TL.tl z).tail := by
  show ((TL.tl z).drop (HT.sIx z.length 0 (some ((1 : Nat) : Int)))).take (HT.sIx z.length z.length none - HT.sIx z.length 0 (some ((1 : Nat) : Int))) = _
  rw [HT.sIx_nat, HT.sIx_none, TL.len_tl]
  cases TL.tl z with
  | nil => rfl
  | cons a r =>
    rw [Nat.min_eq_left (by simp)]
    show (r).take (r.length + 1 - 1) = r
    rw [Nat.add_sub_cancel, List.take_length]
/-- the parts of a text -/
theorem parts_of (z : Str) (hz : z.length ≤ 400) : ∃ (A : Str) (rest : List Str), Txt.split z "/" = A :: rest ∧ A.length ≤ 400 ∧ (∀ B ∈ rest, B.length ≤ 400) ∧ rest.length ≤ 400 ∧
    ((rest = [] ∧ rd (TL.tl z) = (num (TL.tl A)).map fun n => (n, 1)) ∨ (∃ B, rest = [B] ∧ rd (TL.tl z) = rd2 (TL.tl A) (TL.tl B)) ∨ (2 ≤ rest.length ∧ rd (TL.tl z) = none)) := by
  have hs := TL.split_spl z "/" (by decide) (TL.kind_ok (by decide +kernel))
  rw [show TL.tl ("/" : Str) = [47] from rfl] at hs
  have hzl := TL.len_tl z
  by_cases h : 47 ∈ TL.tl z
  · obtain ⟨a, b, hab, ha⟩ := cut_of h
    have hsp : TL.spl [47] 0 [] (TL.tl z) = a :: TL.spl [47] 0 [] b := by
      rw [hab]
      exact TL.spl_part1 (s := 47) (S := []) (acc := []) (rest := b) ha
    have hlen : a.length + b.length + 1 ≤ 400 := by
      rw [hab, List.length_append, List.length_cons] at hzl
      omega
    rw [hsp] at hs
    by_cases h2 : 47 ∈ b
    · obtain ⟨b1, b2, hb, hb1⟩ := cut_of h2
      have hsp2 : TL.spl [47] 0 [] b = b1 :: TL.spl [47] 0 [] b2 := by
        rw [hb]
        exact TL.spl_part1 (s := 47) (S := []) (acc := []) (rest := b2) hb1
      rw [hsp2] at hs
      have tot : ∀ (n : Nat) (l : List Nat), l.length = n → (TL.spl [47] 0 [] l).length ≤ n + 1 ∧ 1 ≤ (TL.spl [47] 0 [] l).length ∧ ∀ p ∈ TL.spl [47] 0 [] l, p.length ≤ n := by
        intro n
        induction n using Nat.strongRecOn with
        | ind n ih =>
          intro l hl
          by_cases hm : 47 ∈ l
          · obtain ⟨x, y, hxy, hx⟩ := cut_of hm
            have e : TL.spl [47] 0 [] l = x :: TL.spl [47] 0 [] y := by
              rw [hxy]
              exact TL.spl_part1 (s := 47) (S := []) (acc := []) (rest := y) hx
            have hll : x.length + y.length + 1 = n := by rw [← hl, hxy, List.length_append, List.length_cons]; omega
            obtain ⟨i1, i2, i3⟩ := ih y.length (by omega) y rfl
            rw [e]
            refine ⟨by rw [List.length_cons]; omega, by rw [List.length_cons]; omega, fun p hp => ?_⟩
            rcases List.mem_cons.mp hp with rfl | hp
            · omega
            · have := i3 p hp
              omega
          · rw [TL.spl_last1 (s := 47) (S := []) (acc := []) hm]
            refine ⟨by simp, by simp, fun p hp => ?_⟩
            rw [List.nil_append, List.mem_singleton] at hp
            rw [hp, hl]
            exact Nat.le_refl _
      obtain ⟨i1, i2, i3⟩ := tot _ b2 rfl
      have hbl : b1.length + b2.length + 1 = b.length := by rw [hb, List.length_append, List.length_cons]; omega
      cases hp : Txt.split z "/" with
      | nil => rw [hp] at hs; cases hs
      | cons A rest =>
        rw [hp, List.map_cons] at hs
        obtain ⟨e1, e2⟩ := List.cons.inj hs
        have el : rest.length = 1 + (TL.spl [47] 0 [] b2).length := by
          have := congrArg List.length e2
          rw [List.length_map, List.length_cons] at this
          omega
        refine ⟨A, rest, rfl, by rw [TL.len_tl, e1]; omega, fun B hB => ?_, by omega, .inr (.inr ⟨by omega, ?_⟩)⟩
        · have hm : TL.tl B ∈ rest.map TL.tl := List.mem_map.mpr ⟨B, hB, rfl⟩
          rw [e2] at hm
          rw [TL.len_tl]
          rcases List.mem_cons.mp hm with e | hm
          · rw [e]; omega
          · have := i3 _ hm
            omega
        · rw [rd_cut hab ha (by omega)]
          unfold rd2
          rw [num_slash h2]
          cases num a <;> rfl
    · rw [TL.spl_last1 (s := 47) (S := []) (acc := []) h2, List.nil_append] at hs
      cases hp : Txt.split z "/" with
      | nil => rw [hp] at hs; cases hs
      | cons A rest =>
        rw [hp, List.map_cons] at hs
        obtain ⟨e1, e2⟩ := List.cons.inj hs
        cases rest with
        | nil => cases e2
        | cons B rest =>
          rw [List.map_cons] at e2
          obtain ⟨e3, e4⟩ := List.cons.inj e2
          have : rest = [] := List.map_eq_nil_iff.mp e4
          subst this
          refine ⟨A, [B], rfl, by rw [TL.len_tl, e1]; omega, fun C hC => ?_, by simp, .inr (.inl ⟨B, rfl, ?_⟩)⟩
          · rw [List.mem_singleton] at hC
            rw [hC, TL.len_tl, e3]
            omega
          · rw [rd_cut hab ha (by omega), e1, e3]
  · rw [TL.spl_last1 (s := 47) (S := []) (acc := []) h, List.nil_append] at hs
    cases hp : Txt.split z "/" with
    | nil => rw [hp] at hs; cases hs
    | cons A rest =>
      rw [hp, List.map_cons] at hs
      obtain ⟨e1, e2⟩ := List.cons.inj hs
      have : rest = [] := List.map_eq_nil_iff.mp e2
      subst this
      refine ⟨A, [], rfl, by rw [TL.len_tl, e1]; omega, fun C hC => (by cases hC), by simp, .inl ⟨rfl, ?_⟩⟩
      rw [rd_no h (by omega), e1]
theorem scDU : FnScope ["text", "parts", "top", "digits", "bottom"] ["text"] (defScope sDue) := ⟨rfl, rfl, rfl, by decide +kernel, rfl, by decide +kernel, by decide +kernel⟩
def spDue (K : PySem.W.Frag) : Sp := fun vs H Q _ => ∃ z : Str, vs = [.str z] ∧ z.length ≤ 400 ∧ ∀ H', Same H H' → RdEnd K (rd (TL.tl z)) Q (Q .non) H'
theorem val_int {z : Str} (h : digB (TL.tl z) = true) (hl : z.length ≤ 400) : intText? z = some ((NumText.digitsVal (TL.tl z) : Nat) : Int) :=
  PySem.intText_digits (digB_iff.mp h).2 (digB_iff.mp h).1 (by omega)
theorem ok_due {f fG fV : Addr} {fd fdG fdV : FuncData} (F : Fun K "_law_due" "_law_due" sDue f fd) (ml : mg "len" = none) (mi : mg "int" = none)
    (GG : FnOk P w K mg base CX0 1 fG fdG ["text"] spDigits) (kG : PySem.W.keepIn K (.ref fG) = true) (bG : Binds K fdG ["text"] []) (gG : mg "_law_digits" = some (.ref fG))
    (GV : FnOk P w K mg base CX0 1 fV fdV ["a", "b"] spDiv) (kV : PySem.W.keepIn K (.ref fV) = true) (bV : Binds K fdV ["a", "b"] []) (gV : mg "_law_divisor" = some (.ref fV)) :
    FnOk P w K mg base CX0 2 f fd ["text"] (spDue K) := by
  refine F.ok scDU (fun vs H Q E h => ?_) (fun cdv A outer s H vs Q E hr h => ?_)
  · obtain ⟨z, rfl, _⟩ := h
    rfl
  · obtain ⟨z, rfl, hz, q⟩ := h
    refine ⟨_, (pss_cons (ps_set (i := 1) scDU.nd rfl (.inl rfl) (pe_split (pv 0) pe_str))
      (pss_cons (ps_set (i := 2) scDU.nd rfl (.inl rfl) (pe_ix ix_list (pv 1) (pe_int) (fun _ _ => rfl)))
      (Evl.pss_cut (ps_set (i := 3) scDU.nd rfl (.inl rfl) (pe_ifExp (pt_cmpR op_eq (pe_slice sl_str (pv 2) po_none (po_some pe_int)) (pe_str) (nomark _)) (pe_slice sl_str (pv 2) (po_some pe_int) po_none) (pv 2)))
      (pss_cons (ps_if (PW.pt (pw_or (pt_cmpR op_gt (pe_callB call_len_seq (by rfl) ml PySem.boot_len (pa_cons (pv 1) pa_nil)) (pe_int) (nomark _)) (pw_or (pt_not (pt_val (pe_call GG hr (by rfl) gG kG bG .nil pass0 (pa_cons (pv 3) pa_nil)))) (pw_or1 (pt_cmpR op_eq (pv 2) (pe_str) (nomark _)))))) (pss_one (ps_ret (pe_non))) pss_nil)
      (pss_cons (ps_set (i := 4) scDU.nd rfl (.inl rfl) (pe_int))
      (Evl.pss_cut (ps_if (pt_cmpR op_eq (pe_callB call_len_seq (by rfl) ml PySem.boot_len (pa_cons (pv 1) pa_nil)) (pe_int) (nomark _)) (pss_cons (ps_if (PW.pt (pw_or (pt_not (pt_val (pe_call GG hr (by rfl) gG kG bG .nil pass0 (pa_cons (pe_ix ix_list (pv 1) (pe_int) (fun _ _ => rfl)) pa_nil)))) (pw_or1 (pt_cmpR op_in_seq (pe_ix ix_list (pv 1) (pe_int) (fun _ _ => rfl)) (pe_tup (pa_cons (pe_str) (pa_cons (pe_str) pa_nil))) rfl)))) (pss_one (ps_ret (pe_non))) pss_nil)
      (pss_one (ps_set (i := 4) scDU.nd rfl (.inl rfl) (pe_callTy call_int_str (by rfl) mi (by decide +kernel) (pa_cons (pe_ix ix_list (pv 1) (pe_int) (fun _ _ => rfl)) pa_nil))))) pss_nil)
      (pss_cons (ps_if (pt_cmpR op_ne (pe_call GV hr (by rfl) gV kV bV .nil pass0 (pa_cons (pe_callTy call_int_str (by rfl) mi (by decide +kernel) (pa_cons (pv 3) pa_nil)) (pa_cons (pv 4) pa_nil))) (pe_int) (nomark _)) (pss_one (ps_ret (pe_non))) pss_nil)
      (pss_one (ps_ret (pe_tup (pa_cons (pe_callTy call_int_str (by rfl) mi (by decide +kernel) (pa_cons (pv 2) pa_nil)) (pa_cons (pv 4) pa_nil)))))))))))), ?_⟩
    obtain ⟨A, rest, hp, hA, hB, hrl, hcase⟩ := parts_of z hz
    refine ⟨_, rfl, ⟨_, rfl⟩, z, _, rfl, rfl, rfl, size64 (by omega), fun p np => ?_⟩
    rw [hp]
    have s1 := same_upd (o := .lst ((A :: rest).map V.str)) np
    have hL : SqL K (upd H p (.lst ((A :: rest).map V.str))) p ((A :: rest).map V.str) := SqL.of upd_same
    generalize upd H p (.lst ((A :: rest).map V.str)) = H1 at *
    refine ⟨_, rfl, p, _, (0 : Nat), _, rfl, rfl, hL, atI_nat (j := 0) rfl, ?_⟩
    refine ⟨fun σ' H' => ∃ D : Str, σ' = [some (.str z), some (.ref p), some (.str A), some (.str D), none] ∧ H' = H1 ∧ TL.tl D = bare (TL.tl A) ∧ D.length ≤ 400, ?_, ?_⟩
    · refine ⟨_, rfl, 1, rfl, A, rfl, size64 (by omega), rfl, _, rfl, ?_⟩
      rw [dec_tl, cut_first, show TL.tl ("-" : Str) = [45] from rfl]
      have hbl := bare_len (TL.tl A)
      have hAl := TL.len_tl A
      by_cases e : (TL.tl A).take 1 = [45]
      · rw [decide_eq_true e]
        have e2 : (TL.tl A).head? = some 45 := by
          cases q : TL.tl A with
          | nil => rw [q] at e; cases e
          | cons a r =>
            rw [q] at e
            show some a = some 45
            rw [(List.cons.inj e).1]
        have e3 : TL.tl (cutS A (some 1) none) = bare (TL.tl A) := by
          rw [cut_rest]
          unfold bare
          rw [if_pos e2]
        refine iteT ⟨_, rfl, 1, rfl, A, rfl, size64 (by omega), _, rfl, rfl, e3, ?_⟩
        rw [TL.len_tl, e3]
        omega
      · rw [decide_eq_false e]
        have e2 : ¬ (TL.tl A).head? = some 45 := fun e2 => e (by
          cases q : TL.tl A with
          | nil => rw [q] at e2; cases e2
          | cons a r =>
            rw [q] at e2
            show [a] = [45]
            rw [Option.some.inj e2])
        refine iteF ⟨_, rfl, A, rfl, rfl, ?_, hA⟩
        unfold bare
        rw [if_neg e2]
    · rintro σ' H' ⟨D, rfl, rfl, hD, hDl⟩
      have hln : ((A :: rest).map V.str).length = rest.length + 1 := by rw [List.length_map, List.length_cons]
      have nn : ∀ H2, Same H' H2 → rd (TL.tl z) = none → Q .non H2 := fun H2 s2 e => (q _ (s1.trans s2)).1 e
      have dg_ok : dg (TL.tl D) = true → digB (TL.tl D) = true := fun h => (dg_iff.mp h).1
      refine ⟨_, rfl, p, _, rfl, .inl hL, _, _, rfl, rfl, _, rfl, ite2 (fun e1 => iteT ?_) (fun e1 => ?_)⟩
      · have e1' := of_decide_eq_true e1
        rw [hln] at e1'
        rcases hcase with ⟨hr, _⟩ | ⟨B, hr, _⟩ | ⟨_, hc⟩
        · rw [hr] at e1'
          exact absurd e1' (by decide)
        · rw [hr] at e1'
          exact absurd e1' (by simp)
        · exact nn _ (Same.refl _) hc
      · have e1' : ¬ ((2 : Int) < ((((A :: rest).map V.str).length : Nat) : Int)) := fun x => e1 (decide_eq_true x)
        rw [hln] at e1'
        refine ⟨_, rfl, D, rfl, by omega, fun H2 s2 => ⟨_, rfl, ?_⟩⟩
        rw [hD]
        have hL2 := sqL_same hL s2
        have hnd := num_dg (TL.tl A)
        have step : ∀ Z : Prop, (¬ (dg (bare (TL.tl A)) = true ∧ TL.tl A ≠ [45, 48]) → rd (TL.tl z) = none) := fun _ hno => by
          rcases hcase with ⟨hr, hc⟩ | ⟨B, hr, hc⟩ | ⟨_, hc⟩
          · rw [hc, hnd, if_neg hno]
            rfl
          · rw [hc, rd2_dg, if_neg]
            exact fun h => hno ⟨h.1, h.2.1⟩
          · exact hc
        cases hdg : dg (bare (TL.tl A)) with
        | false => exact iteT (nn _ s2 (step True (by rw [hdg]; exact fun h => Bool.false_ne_true h.1)))
        | true =>
          refine iteF ⟨_, rfl, rfl, _, rfl, ?_⟩
          rw [dec_tl, show TL.tl ("-0" : Str) = [45, 48] by decide +kernel]
          by_cases h0 : TL.tl A = [45, 48]
          · rw [decide_eq_true h0]
            exact iteT (nn _ s2 (step True (fun h => h.2 h0)))
          · rw [decide_eq_false h0]
            rw [if_pos ⟨hdg, h0⟩] at hnd
            have hdD : digB (TL.tl D) = true := by rw [hD]; exact (dg_iff.mp hdg).1
            have hiD := val_int hdD hDl
            rw [hD] at hiD
            have hiA : intText? A = some (vl (TL.tl A)) := num_int hnd (by omega)
            refine iteF ?_
            refine ⟨fun σ' H3 => ∃ m : Int, σ' = [some (.str z), some (.ref p), some (.str A), some (.str D), some (.int m)] ∧ Same H2 H3 ∧ 0 ≤ m ∧
              rd (TL.tl z) = if gi ((NumText.digitsVal (bare (TL.tl A)) : Nat) : Int) m = 1 then some (vl (TL.tl A), m) else none, ?_, ?_⟩
            · refine ⟨_, rfl, p, _, rfl, .inl hL2, rfl, _, rfl, ?_⟩
              rw [hln]
              rcases hcase with ⟨hr, hc⟩ | ⟨B, hr, hc⟩ | ⟨hc2, _⟩
              · subst hr
                refine iteF ⟨1, rfl, Same.refl _, by decide, ?_⟩
                rw [hc, hnd, gi_one, if_pos rfl]
                rfl
              · subst hr
                refine iteT ?_
                have hB' := hB B List.mem_cons_self
                refine ⟨_, rfl, p, _, (1 : Nat), _, rfl, rfl, hL2, atI_nat (j := 1) rfl, B, rfl, by omega, fun H3 s3 => ⟨_, rfl, ?_⟩⟩
                have hL3 := sqL_same hL2 s3
                have hr2 := rd2_dg (TL.tl A) (TL.tl B)
                cases hdb : dg (TL.tl B) with
                | false =>
                  refine iteT (nn _ (s2.trans s3) ?_)
                  rw [hc, hr2, if_neg]
                  rw [hdb]
                  exact fun h => Bool.false_ne_true h.2.2.1
                | true =>
                  refine iteF ⟨_, rfl, p, _, (1 : Nat), _, rfl, rfl, hL3, atI_nat (j := 1) rfl, by show 2 ≤ sizeLine; decide, fun p4 np4 => ?_⟩
                  have s4 := same_upd (o := .tup [.str "0", .str "1"]) np4
                  refine ⟨p4, _, rfl, .inr (SqT.of upd_same), rfl, rfl, _, rfl, ?_⟩
                  have hin : inV (.str B) [.str "0", .str "1"] = (decide (TL.tl B = [48]) || decide (TL.tl B = [49])) := by
                    show ((("0" : Str) == B) || ((("1" : Str) == B) || false)) = _
                    rw [Bool.or_false, Bool.eq_iff_iff, Bool.or_eq_true, Bool.or_eq_true, beq_iff_eq, beq_iff_eq, decide_eq_true_iff, decide_eq_true_iff, str_eq, str_eq]
                    show ([48] = TL.tl B ∨ [49] = TL.tl B) ↔ _
                    exact or_congr eq_comm eq_comm
                  show (if inV (.str B) [.str "0", .str "1"] = true then _ else _)
                  rw [hin]
                  have s24 := (s2.trans s3).trans s4
                  by_cases hb : TL.tl B = [48] ∨ TL.tl B = [49]
                  · have : (decide (TL.tl B = [48]) || decide (TL.tl B = [49])) = true := by
                      rw [Bool.or_eq_true, decide_eq_true_iff, decide_eq_true_iff]
                      exact hb
                    rw [this]
                    refine iteT (nn _ s24 ?_)
                    rw [hc, hr2, if_neg]
                    exact fun h => hb.elim h.2.2.2.1 h.2.2.2.2.1
                  · have : (decide (TL.tl B = [48]) || decide (TL.tl B = [49])) = false := by
                      rw [Bool.or_eq_false_iff, decide_eq_false_iff_not, decide_eq_false_iff_not]
                      exact ⟨fun h => hb (.inl h), fun h => hb (.inr h)⟩
                    rw [this]
                    have hib := val_int (dg_iff.mp hdb).1 hB'
                    refine iteF ⟨_, rfl, p, _, (1 : Nat), _, rfl, rfl, sqL_same hL3 s4, atI_nat (j := 1) rfl, B, _, rfl, hib, by omega, _, rfl, s3.trans s4, by omega, ?_⟩
                    rw [hc, hr2]
                    by_cases hg : gi ((NumText.digitsVal (bare (TL.tl A)) : Nat) : Int) ((NumText.digitsVal (TL.tl B) : Nat) : Int) = 1
                    · rw [if_pos ⟨hdg, h0, hdb, fun h => hb (.inl h), fun h => hb (.inr h), hg⟩, if_pos hg]
                    · rw [if_neg (fun h => hg h.2.2.2.2.2), if_neg hg]
              · exact absurd hc2 (by omega)
            · rintro σ' H3 ⟨m, rfl, s3, hm0, hrd⟩
              refine ⟨_, rfl, D, _, rfl, hiD, by omega, _, rfl, _, _, rfl, by omega, hm0, rfl, _, rfl, ?_⟩
              have s23 := s2.trans s3
              by_cases hg : gi ((NumText.digitsVal (bare (TL.tl A)) : Nat) : Int) m = 1
              · rw [decide_eq_true (show V.int (gi ((NumText.digitsVal (bare (TL.tl A)) : Nat) : Int) m) = V.int 1 from congrArg V.int hg)]
                rw [if_pos hg] at hrd
                refine iteF ⟨_, rfl, A, _, rfl, hiA, by omega, _, rfl, by show 2 ≤ sizeLine; decide, fun p5 np5 => ?_⟩
                exact (q _ ((s1.trans s23).trans (same_upd np5))).2 _ _ p5 hrd (SqT.of upd_same)
              · rw [decide_eq_false (show ¬ V.int (gi ((NumText.digitsVal (bare (TL.tl A)) : Nat) : Int) m) = V.int 1 from fun h => hg (V.int.inj h))]
                rw [if_neg hg] at hrd
                exact iteT (nn _ s23 hrd)
end
/-- what is no list stays -/
def NL (H H' : Hp) : Prop := ∀ b o, H b = some o → (∃ xs, o = .lst xs) ∨ H' b = some o
theorem NL.refl (H : Hp) : NL H H := fun _ _ h => .inr h
theorem NL.trans {H H1 H2 : Hp} (a : NL H H1) (b : NL H1 H2) : NL H H2 := fun c o h => (a c o h).elim .inl fun h => b c o h
theorem Same.nl {H H' : Hp} (s : Same H H') : NL H H' := fun b o h => .inr (s b o h)
theorem nl_upd {H : Hp} {p : Addr} {xs : List V} {o : HO} (h : H p = some (.lst xs)) : NL H (upd H p o) := fun b u e => by
  by_cases hb : b = p
  · subst hb
    rw [h] at e
    exact .inl ⟨xs, (Option.some.inj e).symm⟩
  · exact .inr (by rw [upd_ne hb]; exact e)
theorem nl_new {H : Hp} {p : Addr} {o : HO} (h : H p = none) : NL H (upd H p o) := fun b u e => .inr (by rw [upd_ne (ne_of_none e h)]; exact e)
theorem sqT_nl {K : PySem.W.Frag} {H H' : Hp} {a : Addr} {xs : List V} (h : SqT K H a xs) (s : NL H H') : SqT K H' a xs := by
  rcases h with (h | ⟨o, h⟩) | h
  · rcases s _ _ h with ⟨_, e⟩ | e
    · cases e
    · exact .inl (.inl e)
  · rcases s _ _ h with ⟨_, e⟩ | e
    · cases e
    · exact .inl (.inr ⟨o, e⟩)
  · exact .inr h

theorem But.nl {d c : Addr} {H H' : Hp} (k : But d H H') (h : DrAt H d c) : NL H H' := fun b o e => by
  by_cases hb : b = d
  · subst hb
    obtain ⟨xs, hx⟩ := h.lst
    rw [hx] at e
    exact .inl ⟨xs, (Option.some.inj e).symm⟩
  · exact .inr (by rw [k b hb]; exact e)
section
variable {P : Program} {w : World} {K : PySem.W.Frag} {mg : Str → Option Value} {base : Heap}
structure ErrX (K : PySem.W.Frag) (mg : Str → Option Value) (X TE : Addr) : Prop where
  r : ErrR K mg "TextError" X
  nT : ErrN K mg "TensorError" TE
  isi : mg "isinstance" = none
  sub : PySem.W.subIn K (.ref X) (.ref TE) = some true
  exc : ExcC K X
  kit : PySem.W.kitOne K (.ref X) (.ref X) = some true
theorem scRD : FnScope ["text", "found", "e"] ["text"] (defScope sRead) := ⟨rfl, rfl, rfl, by decide +kernel, rfl, by decide +kernel, by decide +kernel⟩
def spRead (K : PySem.W.Frag) : Sp := fun vs H Q _ => ∃ z : Str, vs = [.str z] ∧ z.length ≤ 1000 ∧ ∀ H', Same H H' → RdEnd K (rd (TL.tl z)) Q (Q .non) H'
theorem ok_read {f fR X TE : Addr} {fd fdR : FuncData} (F : Fun K "_law_read" "_law_read" sRead f fd) (T : ErrX K mg X TE)
    (GR : FnOk P w K mg base (L2.CX P w) 2 fR fdR ["text"] (spReadF K X)) (kR : PySem.W.keepIn K (.ref fR) = true) (bR : Binds K fdR ["text"] []) (gR : mg "read_fraction" = some (.ref fR)) : FnOk P w K mg base CX0 3 f fd ["text"] (spRead K) := by
  refine F.ok scRD (fun vs H Q E h => ?_) (fun cdv A outer s H vs Q E hr h => ?_)
  · obtain ⟨z, rfl, _⟩ := h
    rfl
  · obtain ⟨z, rfl, hz, q⟩ := h
    refine ⟨_, pss_cons (ps_try_as (i := 2) (tb := fun W => tAsg (tCallS (spReadF K X) (WE W) (tCons (tVar 0) tNil)) (gName 1)) (Wout := fun _ _ _ _ => False) rfl rfl scRD.nd rfl rfl ⟨rfl, by decide, Or.inl T.nT.g⟩ takes0
        (fun W pn xe tk _ => pss_one (ps_set (i := 1) scRD.nd rfl (.inl rfl) (by exact (pe_callS GR hr (by rfl) gR kR bR (fun σ => passAt tk σ) (by exact (pa_cons (pv 0) pa_nil))))))
        (fun a oe cls d pn hz hf => su_ok hz hf))
      (pss_one (ps_ret (pv 1))), ?_⟩
    refine ⟨_, rfl, z, rfl, hz, fun H1 s1 => ⟨fun e => ?_, fun n m p e hp => ?_⟩⟩
    · refine ⟨true, T.nT.ex T.sub, fun _ ax hax => fun oe pn hz hf => ?_, fun z => nomatch z⟩
      refine ⟨_, pss_one (ps_ret (pe_ifExp (pt_val (pe_callB (call_isE T.exc hz hf) (by rfl) T.isi (by decide +kernel) (pa_cons (pv 2) (pa_cons (pe_glob (v := .ref X) (by rfl) T.r.g rfl) pa_nil)))) pe_non pe_str)), ?_⟩
      refine ⟨_, rfl, _, _, _, rfl, fun _ h => h, T.kit, _, rfl, iteT ?_⟩
      exact (q _ s1).1 e
    · exact ⟨_, rfl, (q _ s1).2 n m p e hp⟩
theorem scSP : FnScope ["d", "text", "top", "bottom", "menu", "place", "sign"] ["d", "text", "top", "bottom"] (defScope sSpoilt) := ⟨rfl, rfl, rfl, by decide +kernel, rfl, by decide +kernel, by decide +kernel⟩
def spSpoilt : Sp := fun vs H Q _ => ∃ (d c : Addr) (z : Str) (n m : Int), vs = [.ref d, .str z, .int n, .int m] ∧ DrAt H d c ∧ z.length ≤ 150 ∧ n.natAbs < 10 ^ 49 ∧ m.natAbs < 10 ^ 49 ∧
  ∀ H' z', But d H H' → DrAt H' d c → z'.length ≤ 400 → Q (.str z') H'
theorem bnd500 {m : Int} (h : m ≤ 500) : Bnd m := by
  unfold Bnd
  have : (500 : Int) < 2 ^ 400 := by decide +kernel
  omega
def signs15 : Str := "0123456789-/ +x"
theorem dec_ieq (i j : Int) : decide (V.int i = V.int j) = decide (i = j) := by
  rw [Bool.eq_iff_iff, decide_eq_true_iff, decide_eq_true_iff]
  exact ⟨V.int.inj, congrArg V.int⟩
theorem ok_spoilt {f fT : Addr} {fd fdT : FuncData} (F : Fun K "_law_spoilt" "_law_spoilt" sSpoilt f fd) (ml : mg "len" = none) (ms : mg "str" = none)
    (GT : FnOk P w K mg base CX0 1 fT fdT ["d", "many"] spTake) (kT : PySem.W.keepIn K (.ref fT) = true) (bT : Binds K fdT ["d", "many"] []) (gT : mg "_law_take" = some (.ref fT)) : FnOk P w K mg base CX0 2 f fd ["d", "text", "top", "bottom"] spSpoilt := by
  refine F.ok scSP (fun vs H Q E h => ?_) (fun cdv A outer s H vs Q E hr h => ?_)
  · obtain ⟨d, c, z, n, m, rfl, _⟩ := h
    rfl
  · obtain ⟨d, c, z, n, m, rfl, dr, hz, hn, hm, q⟩ := h
    refine ⟨_, (pss_cons (ps_set (i := 4) scSP.nd rfl (.inl rfl) (pe_call GT hr (by rfl) gT kT bT .nil pass0 (pa_cons (pv 0) (pa_cons (pe_int) pa_nil))))
      (pss_cons (ps_if (pt_cmpR op_eq (pv 4) (pe_int) (nomark _)) (pss_one (ps_ret (pe_op op_add_str (pe_str) (pv 1)))) pss_nil)
      (pss_cons (ps_if (pt_cmpR op_eq (pv 4) (pe_int) (nomark _)) (pss_one (ps_ret (pe_op op_add_str (pe_str) (pv 1)))) pss_nil)
      (pss_cons (ps_if (pt_cmpR op_eq (pv 4) (pe_int) (nomark _)) (pss_one (ps_ret (pe_op op_add_str (pe_op op_add_str (pe_callTy call_str_int (by rfl) ms (by decide +kernel) (pa_cons (pe_op op_mulW pe_int (pv 2)) pa_nil)) (pe_str)) (pe_callTy call_str_int (by rfl) ms (by decide +kernel) (pa_cons (pe_op op_mulW pe_int (pv 3)) pa_nil))))) pss_nil)
      (pss_cons (ps_if (pt_cmpR op_eq (pv 4) (pe_int) (nomark _)) (pss_one (ps_ret (pe_op op_add_str (pe_callTy call_str_int (by rfl) ms (by decide +kernel) (pa_cons (pv 2) pa_nil)) (pe_str)))) pss_nil)
      (pss_cons (ps_if (pt_cmpR op_eq (pv 4) (pe_int) (nomark _)) (pss_one (ps_ret (pe_op op_add_str (pv 1) (pe_str)))) pss_nil)
      (pss_cons (ps_set (i := 5) scSP.nd rfl (.inl rfl) (pe_call GT hr (by rfl) gT kT bT .nil pass0 (pa_cons (pv 0) (pa_cons (pe_op op_add (pe_callB call_len_str (by rfl) ml PySem.boot_len (pa_cons (pv 1) pa_nil)) pe_int) pa_nil))))
      (pss_cons (ps_set (i := 6) scSP.nd rfl (.inl rfl) (pe_ix ix_str (pe_str) (pe_call GT hr (by rfl) gT kT bT .nil pass0 (pa_cons (pv 0) (pa_cons (pe_int) pa_nil))) (fun _ _ => rfl)))
      (pss_cons (ps_if (pt_cmpR op_eq (pv 4) (pe_int) (nomark _)) (pss_one (ps_ret (pe_op op_add_str (pe_op op_add_str (pe_slice sl_str (pv 1) po_none (po_some (pv 5))) (pv 6)) (pe_slice sl_str (pv 1) (po_some (pv 5)) po_none)))) pss_nil)
      (pss_one (ps_ret (pe_op op_add_str (pe_op op_add_str (pe_slice sl_str (pv 1) po_none (po_some (pv 5))) (pv 6)) (pe_slice sl_str (pv 1) (po_some (pe_op op_add (pv 5) pe_int)) po_none))))))))))))), ?_⟩
    have h1 : ∀ y : Str, y.length ≤ 3 → y.length + z.length ≤ sizeLine := fun y h => size64 (by omega)
    refine ⟨_, rfl, d, c, 8, rfl, dr, by decide, bnd500 (by decide), fun H1 v k1 dr1 v0 v1 => ?_⟩
    have two : ∀ x : Int, x.natAbs < 10 ^ 49 → (2 * x).natAbs < 10 ^ 50 := fun x hx => by
      have : (10 : Nat) ^ 50 = 10 * 10 ^ 49 := by decide +kernel
      omega
    have up : ∀ x : Int, x.natAbs < 10 ^ 49 → x.natAbs < 10 ^ 50 := fun x hx => by
      have : (10 : Nat) ^ 50 = 10 * 10 ^ 49 := by decide +kernel
      omega
    have cm : ∀ x : Int, x.natAbs < 10 ^ 49 → CMulW 2 x := fun x hx => Bg.cmul (n := 2) (m := 200) (show (2 : Int).natAbs < 2 ^ 2 by decide) (Nat.lt_trans hx (by decide +kernel)) (by decide) (by decide) (by decide)
    have L0 : ("0" : Str).length = 1 := rfl
    have L1 : ("-" : Str).length = 1 := rfl
    have L2' : ("/" : Str).length = 1 := rfl
    have L3 : ("/1" : Str).length = 2 := by decide +kernel
    refine ⟨_, rfl, rfl, _, rfl, ite2 (fun _ => ?_) (fun _ => ?_)⟩
    · refine ⟨_, rfl, _, _, rfl, rfl, size64 (by omega), q _ _ k1 dr1 ?_⟩
      rw [PySem.Str.length_append]
      omega
    refine ⟨_, rfl, rfl, _, rfl, ite2 (fun _ => ?_) (fun _ => ?_)⟩
    · refine ⟨_, rfl, _, _, rfl, rfl, size64 (by omega), q _ _ k1 dr1 ?_⟩
      rw [PySem.Str.length_append]
      omega
    refine ⟨_, rfl, rfl, _, rfl, ite2 (fun _ => ?_) (fun _ => ?_)⟩
    · have a1 := str_len (two n hn)
      have a2 := str_len (two m hm)
      refine ⟨_, rfl, _, _, rfl, rfl, cm n hn, _, rfl, log50 (two n hn), _, _, rfl, rfl, size64 (by omega), _, rfl, _, _, rfl, rfl, cm m hm, _, rfl, log50 (two m hm), _, _, rfl, rfl, size64 (by rw [PySem.Str.length_append]; omega), q _ _ k1 dr1 ?_⟩
      rw [PySem.Str.length_append, PySem.Str.length_append]
      omega
    refine ⟨_, rfl, rfl, _, rfl, ite2 (fun _ => ?_) (fun _ => ?_)⟩
    · have a1 := str_len (up n hn)
      refine ⟨_, rfl, n, rfl, log50 (up n hn), _, _, rfl, rfl, size64 (by omega), q _ _ k1 dr1 ?_⟩
      rw [PySem.Str.length_append]
      omega
    refine ⟨_, rfl, rfl, _, rfl, ite2 (fun _ => ?_) (fun _ => ?_)⟩
    · refine ⟨_, rfl, _, _, rfl, rfl, size64 (by omega), q _ _ k1 dr1 ?_⟩
      rw [PySem.Str.length_append]
      omega
    refine ⟨_, rfl, _, rfl, z, rfl, size64 (by omega), _, _, rfl, rfl, d, c, _, rfl, dr1, by omega, bnd500 (by omega), fun H2 pl k2 dr2 p0 p1 => ?_⟩
    refine ⟨_, rfl, d, c, 15, rfl, dr2, by decide, bnd500 (by decide), fun H3 si k3 dr3 s0 s1 => ?_⟩
    have hsl : signs15.cps.toList.length = 15 := by decide +kernel
    have hsl2 : signs15.length = 15 := by decide +kernel
    obtain ⟨sn, rfl⟩ : ∃ sn : Nat, si = (sn : Int) := ⟨si.toNat, by omega⟩
    obtain ⟨ch, hch⟩ : ∃ ch, signs15.cps.toList[sn]? = some ch := ⟨_, List.getElem?_eq_getElem (show sn < signs15.cps.toList.length by omega)⟩
    refine ⟨signs15, sn, ch, rfl, rfl, small64 (by omega), atI_nat hch, ?_⟩
    have c1 : ∀ lo hi, (cutS z lo hi).length ≤ 150 := fun lo hi => Nat.le_trans (cutS_length z lo hi) hz
    have o1 : (⟨#[ch]⟩ : Str).length = 1 := rfl
    have k123 := (k1.trans k2).trans k3
    refine ⟨_, rfl, rfl, _, rfl, ite2 (fun _ => ?_) (fun _ => ?_)⟩
    · have b1 := c1 none (some pl)
      have b2 := c1 (some pl) none
      refine ⟨_, rfl, _, rfl, pl, rfl, z, rfl, size64 (by omega), _, rfl, _, _, rfl, rfl, size64 (by omega), _, rfl, _, rfl, pl, rfl, z, rfl, size64 (by omega), _, _, rfl, rfl, size64 (by rw [PySem.Str.length_append]; omega), q _ _ k123 dr3 ?_⟩
      rw [PySem.Str.length_append, PySem.Str.length_append]
      omega
    · have b1 := c1 none (some pl)
      have b2 := c1 (some (pl + 1)) none
      refine ⟨_, rfl, _, rfl, pl, rfl, z, rfl, size64 (by omega), _, rfl, _, _, rfl, rfl, size64 (by omega), _, rfl, _, rfl, _, _, rfl, rfl, pl + 1, rfl, z, rfl, size64 (by omega), _, _, rfl, rfl, size64 (by rw [PySem.Str.length_append]; omega), q _ _ k123 dr3 ?_⟩
      rw [PySem.Str.length_append, PySem.Str.length_append]
      omega
end
section
variable {P : Program} {w : World} {K : PySem.W.Frag} {mg : Str → Option Value} {base : Heap}
/-! ### the law -/
structure Calls (P : Program) (w : World) (K : PySem.W.Frag) (mg : Str → Option Value) (base : Heap) (CX : CXT) (k : Nat) (name : Str) (ps : List Str) (sp : Sp) : Prop where
  ex : ∃ (f : Addr) (fd : FuncData), FnOk P w K mg base CX k f fd ps sp ∧ PySem.W.keepIn K (.ref f) = true ∧ Binds K fd ps [] ∧ mg name = some (.ref f)
/-- s * k of one sign -/
theorem fold_signs (c : Nat) : ∀ (k : Nat) (acc : Array Nat), ((List.replicate k #[c]).foldl (· ++ ·) acc).toList = acc.toList ++ List.replicate k c
  | 0, acc => by rw [List.replicate_zero, List.replicate_zero, List.append_nil]; rfl
  | k + 1, acc => by
    rw [List.replicate_succ, List.foldl_cons, fold_signs c k, List.replicate_succ, Array.toList_append, List.append_assoc]
    rfl
def rRepS : R2 := fun x y H Q => ∃ (y0 : Str) (c k : Nat), x = .str y0 ∧ TL.tl y0 = [c] ∧ y = .int (k : Int) ∧ 2 ≤ k ∧ k ≤ 1000 ∧ ∀ z, TL.tl z = List.replicate k c → Q (.str z) H
theorem op_repS {X : Cx} : OpR X (binaryOp .Mult) rRepS := by
  intro pins s σ H x y v u Q I rx ry h
  obtain ⟨y0, c, k, rfl, hy, rfl, h1, h2, q⟩ := h
  obtain ⟨t, rfl⟩ := rx
  obtain ⟨t', rfl⟩ := ry
  have hl : y0.length = 1 := by rw [TL.len_tl, hy]; rfl
  have hc : y0.cps = #[c] := Array.toList_inj.mp hy
  have e63 : ((2 : Int) ^ 63) = 9223372036854775808 := by decide
  have g1 : ((k : Int) == 1 || y0.length == 0) = false := by
    rw [hl, Bool.or_eq_false_iff]
    exact ⟨beq_eq_false_iff_ne.mpr (by omega), rfl⟩
  refine PySem.P.mul_str ?_ (fun _ _ => ?_) (fun _ _ => ?_) ?_
  · rw [Bool.or_eq_false_iff, decide_eq_false_iff_not, decide_eq_false_iff_not, e63]
    omega
  · rw [hl]
    have : (2 ^ 63 - 1 : Int) / (k : Int) ≥ 1 := by
      rw [e63]
      exact Int.le_ediv_of_mul_le (by omega) (by omega)
    omega
  · have : (k : Int).toNat = k := Int.toNat_natCast k
    rw [hl, this]
    have h5 : 1000 < sizeLine := by decide
    exact decide_eq_false (by omega)
  · rw [if_neg (by omega), if_neg (by rw [g1]; exact Bool.false_ne_true)]
    have e : TL.tl (⟨(List.replicate (k : Int).toNat y0.cps).foldl (· ++ ·) #[]⟩ : Str) = List.replicate k c := by
      show ((List.replicate (k : Int).toNat y0.cps).foldl (· ++ ·) #[]).toList = _
      rw [Int.toNat_natCast, hc, fold_signs]
      rfl
    refine ⟨?_, .str _, H, I.tok _, ⟨_, rfl⟩, q _ e⟩
    have := congrArg List.length e
    rw [← TL.len_tl, List.length_replicate] at this
    exact Nat.le_trans (Nat.le_of_eq this) (Nat.le_trans h2 (by decide))
/-! ### comparing -/
def datR : Option (Int × Int) → PyData
  | none => .none
  | some p => .tuple [.int p.1, .int p.2]
theorem datR_shaped (r : Option (Int × Int)) : SeqAt.shaped (datR r) = true := by
  cases r with
  | none => decide +kernel
  | some p => simp [datR, SeqAt.shaped, PyData.canLay0, PyData.canLayAll0, PyData.depth, PyData.depthAll]
theorem eqv_self {d : PyData} (h : SeqAt.shaped d = true) : PyData.eqv d d = true := by
  unfold SeqAt.shaped at h
  rw [Bool.and_eq_true] at h
  exact PySem.SeqAt.eqv_refl d h.1
theorem sqT_same {H H' : Hp} {a : Addr} {xs : List V} (h : SqT K H a xs) (s : Same H H') : SqT K H' a xs := sqT_nl h (Same.nl s)
theorem RdEnd.of {r : Option (Int × Int)} {Q : VK} {H' : Hp} (h : ∀ v, (∀ H'', Same H' H'' → Dp K H'' v (datR r)) → (r = none → v = .non) → Q v H') : RdEnd K r Q (Q .non) H' := by
  refine ⟨fun e => h _ (fun H'' s => ?_) fun _ => rfl, fun n m p e hp => h _ (fun H'' s => ?_) fun e2 => ?_⟩
  · rw [e]
    exact .non
  · rw [e]
    exact .tup (sqT_same hp s) (.cons (.int _) (.cons (.int _) .nil))
  · rw [e] at e2
    cases e2
theorem txt_free (n : Int) : 47 ∉ txt n := by
  unfold txt
  split
  · intro h
    rcases List.mem_cons.mp h with h | h
    · cases h
    · exact TL.numL_free (by decide) h
  · exact TL.numL_free (by decide)
theorem rd_wl {n m : Int} (hm : 1 ≤ m) (hg : gi n m = 1) (hl : (wl n m).length ≤ 400) : rd (wl n m) = some (n, m) := by
  unfold wl at *
  by_cases e : m = 1
  · rw [if_pos e] at hl ⊢
    rw [rd_no (txt_free n) hl, num_txt, e]
    rfl
  · rw [if_neg e] at hl ⊢
    rw [rd_cut rfl (txt_free n) hl]
    unfold rd2
    rw [num_txt, num_txt, Option.bind_some, Option.bind_some, if_neg]
    rintro (h | h)
    · omega
    · exact h hg
theorem wl_len {n m : Int} (h1 : n.natAbs < 10 ^ 49) (h2 : m.natAbs < 10 ^ 49) : (wl n m).length ≤ 101 := by
  have a := txt_len' (by decide) h1
  have b := txt_len' (by decide) h2
  unfold wl
  split
  · omega
  · rw [List.length_append, List.length_cons]
    omega
theorem rd_empty : rd [] = none := rfl
theorem rd_401 : rd (List.replicate 401 49) = none := by
  unfold rd
  rw [if_pos (by rw [List.length_replicate]; decide)]
theorem dg_400 : dg (List.replicate 400 49) = true := by
  refine dg_iff.mpr ⟨digB_iff.mpr ⟨by decide +kernel, fun c hc => ?_⟩, .inr (by decide +kernel)⟩
  have := List.eq_of_mem_replicate hc
  omega
theorem rd_400 : rd (List.replicate 400 49) = some (((NumText.digitsVal (List.replicate 400 49) : Nat) : Int), 1) := by
  rw [rd_no (fun h => by have := List.eq_of_mem_replicate h; omega) (by rw [List.length_replicate]; decide), num_of_dg dg_400]
  rfl
def spLaw (K : PySem.W.Frag) : Sp := fun vs H Q _ => ∃ (a : Addr) (ns : List Int), vs = [.ref a] ∧ SqL K H a (ns.map V.int) ∧ ns.length ≤ 63 ∧ ∀ H', Q (.bl true) H'
theorem scL : FnScope ["script", "d", "top", "bottom", "pair", "text", "actual", "k", "spoilt"] ["script"] (defScope sLaw) := ⟨rfl, rfl, rfl, by decide +kernel, rfl, by decide +kernel, by decide +kernel⟩
theorem ten38 : ((10 : Int) ^ (38 : Int).toNat) = 100000000000000000000000000000000000000 := by decide +kernel
theorem bnd38 : Bnd ((10 : Int) ^ (38 : Int).toNat) := by unfold Bnd; decide +kernel
theorem bnd2000 {m : Int} (h : m ≤ 2000) : Bnd m := by
  unfold Bnd
  have : (2000 : Int) < 2 ^ 400 := by decide +kernel
  omega
structure Txt0 (mg : Str → Option Value) extends TxtD mg where
  isi : mg "isinstance" = none
  str : mg "str" = none
  range : mg "range" = none
theorem ok_law {f Z : Addr} {fd : FuncData} (F : Fun K "law" "law" sLaw f fd) (T : Txt0 mg)
    (cB : Calls P w K mg base CX0 1 "_law_begin" ["script"] (spBegin K)) (cT : Calls P w K mg base CX0 1 "_law_take" ["d", "many"] spTake) (cS : Calls P w K mg base CX0 2 "_law_signed" ["d", "most"] spSigned)
    (cF : Calls P w K mg base (L2.CX P w) 1 "fraction" ["numerator", "denominator"] (spFrac Z)) (cW : Calls P w K mg base CX0 1 "write_fraction" ["a"] (spWriteF K))
    (cR : Calls P w K mg base CX0 3 "_law_read" ["text"] (spRead K)) (cD : Calls P w K mg base CX0 2 "_law_due" ["text"] (spDue K)) (cP : Calls P w K mg base CX0 2 "_law_spoilt" ["d", "text", "top", "bottom"] spSpoilt) :
    FnOk P w K mg base CX0 4 f fd ["script"] (spLaw K) := by
  obtain ⟨fB, dB, GB, kB, bB, gB⟩ := cB.ex
  obtain ⟨fT, dT, GT, kT, bT, gT⟩ := cT.ex
  obtain ⟨fS, dS, GS, kS, bS, gS⟩ := cS.ex
  obtain ⟨fF, dF, GF, kF, bF, gF⟩ := cF.ex
  obtain ⟨fW, dW, GW, kW, bW, gW⟩ := cW.ex
  obtain ⟨fR, dR, GR, kR, bR, gR⟩ := cR.ex
  obtain ⟨fD, dD, GD, kD, bD, gD⟩ := cD.ex
  obtain ⟨fP, dP, GP, kP, bP, gP⟩ := cP.ex
  clear cB cT cS cF cW cR cD cP
  refine F.ok scL (fun vs H Q E h => ?_) (fun cdv A outer s H vs Q E hr h => ?_)
  · obtain ⟨a, ns, rfl, _⟩ := h
    rfl
  · obtain ⟨a, ns, rfl, hS, hlen, q⟩ := h
    have hr1 : Room 1 _ := hr.mono (by decide)
    have hr2 : Room 2 _ := hr.mono (by decide)
    refine ⟨_, (pss_cons (ps_set (i := 1) scL.nd rfl (.inl rfl) (pe_call GB hr1 (by rfl) gB kB bB .nil pass0 (pa_cons (pv 0) pa_nil)))
      (pss_cons (ps_set (i := 2) scL.nd rfl (.inl rfl) (pe_call GS hr2 (by rfl) gS kS bS .nil pass0 (pa_cons (pv 1) (pa_cons (pe_int) pa_nil))))
      (pss_cons (ps_set (i := 3) scL.nd rfl (.inl rfl) (pe_op op_add pe_int (pe_call GT hr1 (by rfl) gT kT bT .nil pass0 (pa_cons (pv 1) (pa_cons (pe_int) pa_nil)))))
      (Evl.pss_cut (ps_if (pt_cmpR op_eq (pe_call GT hr1 (by rfl) gT kT bT .nil pass0 (pa_cons (pv 1) (pa_cons (pe_int) pa_nil))) (pe_int) (nomark _)) (pss_one (ps_set (i := 2) scL.nd rfl (.inl rfl) (pe_op op_add (pe_op op_mul (pv 2) (pe_op op_pow pe_int pe_int)) (pe_call GT hr1 (by rfl) gT kT bT .nil pass0 (pa_cons (pv 1) (pa_cons (pe_op op_pow pe_int pe_int) pa_nil)))))) pss_nil)
      (Evl.pss_cut (ps_if (pt_cmpR op_eq (pe_call GT hr1 (by rfl) gT kT bT .nil pass0 (pa_cons (pv 1) (pa_cons (pe_int) pa_nil))) (pe_int) (nomark _)) (pss_one (ps_set (i := 3) scL.nd rfl (.inl rfl) (pe_op op_add (pe_op op_mul (pv 3) (pe_op op_pow pe_int pe_int)) (pe_call GT hr1 (by rfl) gT kT bT .nil pass0 (pa_cons (pv 1) (pa_cons (pe_op op_pow pe_int pe_int) pa_nil)))))) pss_nil)
      (pss_cons (ps_set (i := 4) scL.nd rfl (.inl rfl) (pe_call GF hr1 (by rfl) gF kF bF .nil passL (pa_cons (pv 2) (pa_cons (pv 3) pa_nil))))
      (Evl.pss_cut (ps_set (i := 5) scL.nd rfl (.inl rfl) (pe_ifExp (pt_cmpR op_eq (pe_ix ix_tup (pv 4) (pe_int) (fun _ _ => rfl)) (pe_int) (nomark _)) (pe_callTy call_str_int (by rfl) T.str (by decide +kernel) (pa_cons (pe_ix ix_tup (pv 4) (pe_int) (fun _ _ => rfl)) pa_nil)) (pe_op op_add_str (pe_op op_add_str (pe_callTy call_str_int (by rfl) T.str (by decide +kernel) (pa_cons (pe_ix ix_tup (pv 4) (pe_int) (fun _ _ => rfl)) pa_nil)) (pe_str)) (pe_callTy call_str_int (by rfl) T.str (by decide +kernel) (pa_cons (pe_ix ix_tup (pv 4) (pe_int) (fun _ _ => rfl)) pa_nil)))))
      (pss_cons (ps_set (i := 6) scL.nd rfl (.inl rfl) (pe_call GW hr1 (by rfl) gW kW bW .nil pass0 (pa_cons (pv 4) pa_nil)))
      (pss_cons (ps_if (PW.pt (pw_or (pt_not (pt_val (pe_callB call_isi (by rfl) T.isi (by decide +kernel) (pa_cons (pv 6) (pa_cons (pe_bltn (v := .ty "str") (by rfl) T.str (by decide +kernel) rfl) pa_nil))))) (pw_or (pt_cmpR op_ne (pv 6) (pv 5) (nomark _)) (pw_or1 (pt_cmpR (op_neD hr.units) (pe_call GR hr (by rfl) gR kR bR .nil pass0 (pa_cons (pv 5) pa_nil)) (pv 4) (nomark _)))))) (pss_one (ps_ret (pe_bl))) pss_nil)
      (pss_cons (ps_for PassesOwn.never rfl (pi_range1 rfl T.range (pa_cons pe_int pa_nil)) (pg_name (i := 7) scL.nd rfl (.inl rfl)) (pss_cons (ps_set (i := 8) scL.nd rfl (.inl rfl) (pe_call GP hr2 (by rfl) gP kP bP .nil pass0 (pa_cons (pv 1) (pa_cons (pv 5) (pa_cons (pe_ix ix_tup (pv 4) (pe_int) (fun _ _ => rfl)) (pa_cons (pe_ix ix_tup (pv 4) (pe_int) (fun _ _ => rfl)) pa_nil))))))
      (pss_one (ps_if (pt_cmpR (op_neD hr.units) (pe_call GR hr (by rfl) gR kR bR .nil pass0 (pa_cons (pv 8) pa_nil)) (pe_call GD hr2 (by rfl) gD kD bD .nil pass0 (pa_cons (pv 8) pa_nil)) (nomark _)) (pss_one (ps_ret (pe_bl))) pss_nil))))
      (pss_one (ps_ret (pe_and (pe_cmpR op_isN (pe_call GR hr (by rfl) gR kR bR .nil pass0 (pa_cons (pe_str) pa_nil)) (pe_non) (nomark _)) (pe_and (pe_cmpR op_isN (pe_call GR hr (by rfl) gR kR bR .nil pass0 (pa_cons (pe_op op_repS pe_str pe_int) pa_nil)) (pe_non) (nomark _)) (pe_one (pe_cmpR (op_eqD hr.units) (pe_call GR hr (by rfl) gR kR bR .nil pass0 (pa_cons (pe_op op_repS pe_str pe_int) pa_nil)) (pe_tup (pa_cons (pe_callTy call_int_str (by rfl) T.int (by decide +kernel) (pa_cons (pe_op op_repS pe_str pe_int) pa_nil)) (pa_cons (pe_int) pa_nil))) (nomark _))))))))))))))))), ?_⟩
    refine ⟨_, rfl, a, ns, rfl, hS, hlen, fun H1 d c sm1 nd nc dr => ?_⟩
    refine ⟨_, rfl, d, c, 999, rfl, dr, by decide, bnd2000 (by decide), fun H2 t k2 dr2 t0 t1 => ?_⟩
    refine ⟨_, rfl, d, c, 60, rfl, dr2, by decide, bnd2000 (by decide), fun H3 b k3 dr3 b0 b1 => ⟨_, _, rfl, rfl, ?_⟩⟩
    clear sm1 nd nc dr k2 dr2 k3
    refine ⟨fun σ' H' => ∃ t : Int, σ' = [some (.ref a), some (.ref d), some (.int t), some (.int (1 + b)), none, none, none, none, none] ∧ t.natAbs < 2 ^ 140 ∧ DrAt H' d c, ?_, ?_⟩
    · refine ⟨_, rfl, d, c, 3, rfl, dr3, by decide, bnd2000 (by decide), fun H4 v k4 dr4 v0 v1 => ⟨rfl, _, rfl, ite2 (fun _ => ?_) (fun _ => ?_)⟩⟩
      · refine ⟨_, rfl, _, _, rfl, rfl, ⟨by decide, by decide, by decide⟩, _, _, rfl, rfl, .inl ⟨by omega, by omega⟩, ?_⟩
        refine ⟨_, rfl, _, _, rfl, rfl, ⟨by decide, by decide, by decide⟩, d, c, _, rfl, dr4, by rw [ten38]; decide, bnd38, fun H5 z k5 dr5 z0 z1 => ⟨_, _, rfl, rfl, _, rfl, ?_, dr5⟩⟩
        rw [ten38] at z1
        show (t * ((10 : Int) ^ (38 : Int).toNat) + z).natAbs < _
        rw [ten38]
        have : (2 : Nat) ^ 140 = 1393796574908163946345982392040522594123776 := by decide +kernel
        omega
      · refine ⟨t, rfl, ?_, dr4⟩
        have : (2 : Nat) ^ 140 = 1393796574908163946345982392040522594123776 := by decide +kernel
        omega
    clear dr3 t0 t1 t
    rintro σ' H4 ⟨t, rfl, ht, dr4⟩
    refine ⟨fun σ' H' => ∃ u : Int, σ' = [some (.ref a), some (.ref d), some (.int t), some (.int u), none, none, none, none, none] ∧ 0 < u ∧ u.natAbs < 2 ^ 140 ∧ DrAt H' d c, ?_, ?_⟩
    · refine ⟨_, rfl, d, c, 3, rfl, dr4, by decide, bnd2000 (by decide), fun H5 v k5 dr5 v0 v1 => ⟨rfl, _, rfl, ite2 (fun _ => ?_) (fun _ => ?_)⟩⟩
      · refine ⟨_, rfl, _, _, rfl, rfl, ⟨by decide, by decide, by decide⟩, _, _, rfl, rfl, .inl ⟨by omega, by omega⟩, ?_⟩
        refine ⟨_, rfl, _, _, rfl, rfl, ⟨by decide, by decide, by decide⟩, d, c, _, rfl, dr5, by rw [ten38]; decide, bnd38, fun H6 z k6 dr6 z0 z1 => ⟨_, _, rfl, rfl, _, rfl, ?_, ?_, dr6⟩⟩
        · show 0 < (1 + b) * ((10 : Int) ^ (38 : Int).toNat) + z
          rw [ten38]
          omega
        · rw [ten38] at z1
          show ((1 + b) * ((10 : Int) ^ (38 : Int).toNat) + z).natAbs < _
          rw [ten38]
          have : (2 : Nat) ^ 140 = 1393796574908163946345982392040522594123776 := by decide +kernel
          omega
      · refine ⟨1 + b, rfl, by omega, ?_, dr5⟩
        have : (2 : Nat) ^ 140 = 1393796574908163946345982392040522594123776 := by decide +kernel
        omega
    clear dr4 b0 b1
    rintro σ' H5 ⟨u, rfl, hu0, hu, dr5⟩
    have hu1 : u ≠ 0 := by omega
    have hfr := frc (a := t) hu1
    have hd0 := dv_ne (a := t) hu1
    have bn := fdiv_bg (n := 140) ht (dv_l t u) hd0
    have bm := fdiv_bg (n := 140) hu (dv_r t u) hd0
    refine ⟨_, rfl, _, rfl, t, u, rfl, Bg.mono (n := 140) ht (by decide), Bg.mono (n := 140) hu (by decide), fun e => absurd e hu1, fun _ p np => ?_⟩
    obtain ⟨m1, _, hg⟩ := hfr
    generalize t.fdiv (dv t u) = n at *
    generalize u.fdiv (dv t u) = m at *
    have p49 : (2 : Nat) ^ 140 < 10 ^ 49 := by decide +kernel
    have hn : n.natAbs < 10 ^ 49 := Nat.lt_trans bn p49
    have hm : m.natAbs < 10 ^ 49 := Nat.lt_trans bm p49
    have p50 : (10 : Nat) ^ 50 = 10 * 10 ^ 49 := by decide +kernel
    have dr6 := dr5.same (same_upd (o := .tup [.int n, .int m]) np)
    have hp : SqT K (upd H5 p (.tup [.int n, .int m])) p [.int n, .int m] := SqT.of upd_same
    clear np dr5
    generalize upd H5 p (.tup [.int n, .int m]) = H6 at *
    have hwl := wl_len hn hm
    have hrd := rd_wl m1 hg (by omega)
    have hsh := datR_shaped (some (n, m))
    refine ⟨fun σ' H' => ∃ z : Str, σ' = [some (.ref a), some (.ref d), some (.int t), some (.int u), some (.ref p), some (.str z), none, none, none] ∧ H' = H6 ∧ TL.tl z = wl n m, ?_, ?_⟩
    · refine ⟨_, rfl, p, _, 1, _, rfl, rfl, hp, f1, rfl, _, rfl, ?_⟩
      by_cases e : m = 1
      · rw [decide_eq_true (show V.int m = V.int 1 by rw [e])]
        refine iteT ⟨_, rfl, p, _, 0, _, rfl, rfl, hp, f0, n, rfl, log50 (by omega), _, rfl, rfl, ?_⟩
        rw [str_txt, wl, if_pos e]
      · rw [decide_eq_false (fun h => e (V.int.inj h))]
        have a1 := str_len (n := n) (by omega)
        have a2 := str_len (n := m) (by omega)
        have h1 : ("/" : Str).length = 1 := rfl
        refine iteF ⟨_, rfl, p, _, 0, _, rfl, rfl, hp, f0, n, rfl, log50 (by omega), _, _, rfl, rfl, size64 (by omega), _, rfl, p, _, 1, _, rfl, rfl, hp, f1, m, rfl, log50 (by omega), _, _, rfl, rfl, size64 (by rw [PySem.Str.length_append]; omega), _, rfl, rfl, ?_⟩
        rw [TL.tl_append, TL.tl_append, str_txt, str_txt, wl, if_neg e, List.append_assoc]
        rfl
    rintro σ' _ ⟨z, rfl, rfl, hz⟩
    have hzl : z.length ≤ 101 := by rw [TL.len_tl, hz]; exact hwl
    refine ⟨_, rfl, p, n, m, rfl, hp, by omega, by omega, fun z2 hz2 => ?_⟩
    have ez : z2 = z := TL.ext_tl (hz2.trans hz.symm)
    subst ez
    refine ⟨_, rfl, _, _, _, _, true, rfl, ClsV.ty "str", TyX.base (TyOf.str z2), kit_ty (by decide +kernel), _, rfl, iteF ?_⟩
    refine ⟨_, rfl, _, rfl, rfl, _, rfl, ?_⟩
    rw [decide_eq_true rfl]
    refine iteF ⟨_, rfl, z2, rfl, by omega, fun H7 s7 => ?_⟩
    rw [hz, hrd]
    refine RdEnd.of fun v hv _ => ?_
    refine ⟨_, rfl, _, _, hv _ (Same.refl _), .tup (sqT_same hp s7) (.cons (.int _) (.cons (.int _) .nil)), hsh, hsh, _, rfl, ?_⟩
    rw [show PyData.eqv (datR (some (n, m))) (.tuple [.int n, .int m]) = true from eqv_self hsh]
    refine iteF ?_
    replace dr6 := dr6.same s7
    replace hp := sqT_same hp s7
    clear hv s7
    refine ⟨4, rfl, by decide, by decide, for_range (lo := 0) (n := 4) (fun i σ H' => ∃ (v7 v8 : Option V), σ = [some (.ref a), some (.ref d), some (.int t), some (.int u), some (.ref p), some (.str z2), some (.str z2), v7, v8] ∧ DrAt H' d c ∧ SqT K H' p [.int n, .int m])
      ⟨none, none, rfl, dr6, hp⟩ ?_ ?_⟩
    · clear dr6 hp
      rintro i σ H8 hi ⟨v7, v8, rfl, dr8, hp⟩
      refine ⟨_, rfl, _, rfl, _, rfl, p, _, 0, _, rfl, rfl, hp, f0, _, rfl, p, _, 1, _, rfl, rfl, hp, f1, d, c, z2, n, m, rfl, dr8, by omega, hn, hm, fun H9 z' k9 dr9 hz' => ?_⟩
      have hp9 := sqT_nl hp (But.nl k9 dr8)
      refine ⟨_, rfl, z', rfl, by omega, fun H10 s10 => RdEnd.of fun v hv _ => ⟨_, rfl, z', rfl, hz', fun H11 s11 => RdEnd.of fun v' hv' _ => ?_⟩⟩
      have hsh' := datR_shaped (rd (TL.tl z'))
      refine ⟨_, _, hv _ s11, hv' _ (Same.refl _), hsh', hsh', _, rfl, ?_⟩
      rw [eqv_self hsh']
      exact iteF ⟨_, _, rfl, (dr9.same s10).same s11, sqT_same (sqT_same hp9 s10) s11⟩
    · clear dr6 hp
      rintro σ H8 ⟨v7, v8, rfl, dr8, hp⟩
      refine ⟨"", rfl, by decide, fun H9 s9 => RdEnd.of fun v hv hn => ?_⟩
      rw [hn rd_empty]
      refine ⟨rfl, _, rfl, iteT ?_⟩
      refine ⟨"1", 49, 401, rfl, rfl, rfl, by decide, by decide, fun z1 hz1 => ⟨z1, rfl, by rw [TL.len_tl, hz1, List.length_replicate]; decide, fun H10 s10 => RdEnd.of fun v hv hn => ?_⟩⟩
      rw [hz1] at hn
      rw [hn rd_401]
      refine ⟨rfl, _, rfl, iteT ?_⟩
      refine ⟨"1", 49, 400, rfl, rfl, rfl, by decide, by decide, fun z3 hz3 => ⟨z3, rfl, by rw [TL.len_tl, hz3, List.length_replicate]; decide, fun H11 s11 => RdEnd.of fun v hv hn => ?_⟩⟩
      rw [hz3, rd_400] at hv
      refine ⟨"1", 49, 400, rfl, rfl, rfl, by decide, by decide, fun z4 hz4 => ⟨z4, _, rfl, val_int (by rw [hz4]; exact (dg_iff.mp dg_400).1) (by rw [TL.len_tl, hz4, List.length_replicate]; decide), by rw [TL.len_tl, hz4, List.length_replicate]; decide, by show 2 ≤ sizeLine; decide, fun p12 np12 => ?_⟩⟩
      have hsh4 := datR_shaped (some (((NumText.digitsVal (List.replicate 400 49) : Nat) : Int), 1))
      rw [hz4]
      refine ⟨_, _, hv _ (same_upd np12), .tup (SqT.of upd_same) (.cons (.int _) (.cons (.int _) .nil)), hsh4, hsh4, ?_⟩
      rw [show PyData.eqv (datR (some (((NumText.digitsVal (List.replicate 400 49) : Nat) : Int), 1))) (.tuple [.int ((NumText.digitsVal (List.replicate 400 49) : Nat) : Int), .int 1]) = true from eqv_self hsh4]
      exact q _
end
/-! ### what the top has written, the head -/
theorem all_mk {l : PySem.W.OpenLaw} {w : World} {K : PySem.W.Frag} {h : Heap} {mg : Str → Option Value} {fa f1 f2 f3 f4 f5 f6 f7 f8 f9 f10 f11 f12 f13 cZ cX cT : Addr} (X : K.In h) (G : h.Ns mainGlobals mg) (hfa : mg "law" = some (.ref fa))
    {od1 an1 od2 an2 od3 an3 od4 an4 od5 an5 od6 an6 od7 an7 od8 an8 od9 an9 od10 an10 od11 an11 od12 an12 od13 an13 : Option Addr} {sl1 sl2 sl3 sl4 sl5 sl6 sl7 sl8 sl9 sl10 sl11 sl12 sl13 : Array (Option Value)} {oc1 kV1 dc1 pm1 cd1 ct1 oc2 kV2 dc2 pm2 cd2 ct2 oc3 kV3 dc3 pm3 cd3 ct3 oc4 kV4 dc4 pm4 cd4 ct4 oc5 kV5 dc5 pm5 cd5 ct5 oc6 kV6 dc6 pm6 cd6 ct6 oc7 kV7 dc7 pm7 cd7 ct7 oc8 kV8 dc8 pm8 cd8 ct8 oc9 kV9 dc9 pm9 cd9 ct9 oc10 kV10 dc10 pm10 cd10 ct10 oc11 kV11 dc11 pm11 cd11 ct11 oc12 kV12 dc12 pm12 cd12 ct12 oc13 kV13 dc13 pm13 cd13 ct13 : Value}
    {tk1 : Tok}
    (a1 : PySem.W.nsIn K mainGlobals "read_integer" = some (some (.ref f1))) (l1 : K.lookup f1 = some ⟨oc1, od1, .func (PySem.W.fnOf "read_integer" "read_integer" (defArgs sReadInt) (defBody sReadInt) (defScope sReadInt) .none kV1 dc1 pm1 an1 cd1 ct1), sl1⟩) (c1 : PySem.W.codeIn K cd1 "read_integer" = true) (k1 : PySem.W.keepIn K (.ref f1) = true)
    (a2 : PySem.W.nsIn K mainGlobals "fraction" = some (some (.ref f2))) (l2 : K.lookup f2 = some ⟨oc2, od2, .func (PySem.W.fnOf "fraction" "fraction" (defArgs sFrac) (defBody sFrac) (defScope sFrac) .none kV2 dc2 pm2 an2 cd2 ct2), sl2⟩) (c2 : PySem.W.codeIn K cd2 "fraction" = true) (k2 : PySem.W.keepIn K (.ref f2) = true)
    (a3 : PySem.W.nsIn K mainGlobals "write_fraction" = some (some (.ref f3))) (l3 : K.lookup f3 = some ⟨oc3, od3, .func (PySem.W.fnOf "write_fraction" "write_fraction" (defArgs sWriteF) (defBody sWriteF) (defScope sWriteF) .none kV3 dc3 pm3 an3 cd3 ct3), sl3⟩) (c3 : PySem.W.codeIn K cd3 "write_fraction" = true) (k3 : PySem.W.keepIn K (.ref f3) = true)
    (a4 : PySem.W.nsIn K mainGlobals "read_fraction" = some (some (.ref f4))) (l4 : K.lookup f4 = some ⟨oc4, od4, .func (PySem.W.fnOf "read_fraction" "read_fraction" (defArgs sReadF) (defBody sReadF) (defScope sReadF) .none kV4 dc4 pm4 an4 cd4 ct4), sl4⟩) (c4 : PySem.W.codeIn K cd4 "read_fraction" = true) (k4 : PySem.W.keepIn K (.ref f4) = true)
    (a5 : PySem.W.nsIn K mainGlobals "_law_begin" = some (some (.ref f5))) (l5 : K.lookup f5 = some ⟨oc5, od5, .func (PySem.W.fnOf "_law_begin" "_law_begin" (defArgs sBegin) (defBody sBegin) (defScope sBegin) .none kV5 dc5 pm5 an5 cd5 ct5), sl5⟩) (c5 : PySem.W.codeIn K cd5 "_law_begin" = true) (k5 : PySem.W.keepIn K (.ref f5) = true)
    (a6 : PySem.W.nsIn K mainGlobals "_law_take" = some (some (.ref f6))) (l6 : K.lookup f6 = some ⟨oc6, od6, .func (PySem.W.fnOf "_law_take" "_law_take" (defArgs sTake) (defBody sTake) (defScope sTake) .none kV6 dc6 pm6 an6 cd6 ct6), sl6⟩) (c6 : PySem.W.codeIn K cd6 "_law_take" = true) (k6 : PySem.W.keepIn K (.ref f6) = true)
    (a7 : PySem.W.nsIn K mainGlobals "_law_signed" = some (some (.ref f7))) (l7 : K.lookup f7 = some ⟨oc7, od7, .func (PySem.W.fnOf "_law_signed" "_law_signed" (defArgs sSigned) (defBody sSigned) (defScope sSigned) .none kV7 dc7 pm7 an7 cd7 ct7), sl7⟩) (c7 : PySem.W.codeIn K cd7 "_law_signed" = true) (k7 : PySem.W.keepIn K (.ref f7) = true)
    (a8 : PySem.W.nsIn K mainGlobals "_law_divisor" = some (some (.ref f8))) (l8 : K.lookup f8 = some ⟨oc8, od8, .func (PySem.W.fnOf "_law_divisor" "_law_divisor" (defArgs sDiv) (defBody sDiv) (defScope sDiv) .none kV8 dc8 pm8 an8 cd8 ct8), sl8⟩) (c8 : PySem.W.codeIn K cd8 "_law_divisor" = true) (k8 : PySem.W.keepIn K (.ref f8) = true)
    (a9 : PySem.W.nsIn K mainGlobals "_law_digits" = some (some (.ref f9))) (l9 : K.lookup f9 = some ⟨oc9, od9, .func (PySem.W.fnOf "_law_digits" "_law_digits" (defArgs sDigits) (defBody sDigits) (defScope sDigits) .none kV9 dc9 pm9 an9 cd9 ct9), sl9⟩) (c9 : PySem.W.codeIn K cd9 "_law_digits" = true) (k9 : PySem.W.keepIn K (.ref f9) = true)
    (a10 : PySem.W.nsIn K mainGlobals "_law_due" = some (some (.ref f10))) (l10 : K.lookup f10 = some ⟨oc10, od10, .func (PySem.W.fnOf "_law_due" "_law_due" (defArgs sDue) (defBody sDue) (defScope sDue) .none kV10 dc10 pm10 an10 cd10 ct10), sl10⟩) (c10 : PySem.W.codeIn K cd10 "_law_due" = true) (k10 : PySem.W.keepIn K (.ref f10) = true)
    (a11 : PySem.W.nsIn K mainGlobals "_law_read" = some (some (.ref f11))) (l11 : K.lookup f11 = some ⟨oc11, od11, .func (PySem.W.fnOf "_law_read" "_law_read" (defArgs sRead) (defBody sRead) (defScope sRead) .none kV11 dc11 pm11 an11 cd11 ct11), sl11⟩) (c11 : PySem.W.codeIn K cd11 "_law_read" = true) (k11 : PySem.W.keepIn K (.ref f11) = true)
    (a12 : PySem.W.nsIn K mainGlobals "_law_spoilt" = some (some (.ref f12))) (l12 : K.lookup f12 = some ⟨oc12, od12, .func (PySem.W.fnOf "_law_spoilt" "_law_spoilt" (defArgs sSpoilt) (defBody sSpoilt) (defScope sSpoilt) .none kV12 dc12 pm12 an12 cd12 ct12), sl12⟩) (c12 : PySem.W.codeIn K cd12 "_law_spoilt" = true) (k12 : PySem.W.keepIn K (.ref f12) = true)
    (a13 : PySem.W.nsIn K mainGlobals "law" = some (some (.ref f13))) (l13 : K.lookup f13 = some ⟨oc13, od13, .func (PySem.W.fnOf "law" "law" (defArgs sLaw) (defBody sLaw) (defScope sLaw) .none kV13 dc13 pm13 an13 cd13 ct13), sl13⟩) (c13 : PySem.W.codeIn K cd13 "law" = true) (k13 : PySem.W.keepIn K (.ref f13) = true)
    (aEcZ : PySem.W.nsIn K mainGlobals "ZeroDenominator" = some (some (.ref cZ)))
    (kEcZ : PySem.W.keepIn K (.ref cZ) = true)
    (bEcZ : PySem.W.subIn K (.ref cZ) (.type "BaseException") = some true)
    (tEcZ : PySem.W.typeIn K (.ref cZ) = some (.type "type"))
    (hEcZ : PySem.W.hasDictIn K cZ = true)
    (aEcX : PySem.W.nsIn K mainGlobals "TextError" = some (some (.ref cX)))
    (kEcX : PySem.W.keepIn K (.ref cX) = true)
    (bEcX : PySem.W.subIn K (.ref cX) (.type "BaseException") = some true)
    (tEcX : PySem.W.typeIn K (.ref cX) = some (.type "type"))
    (hEcX : PySem.W.hasDictIn K cX = true)
    (aEcT : PySem.W.nsIn K mainGlobals "TensorError" = some (some (.ref cT)))
    (kEcT : PySem.W.keepIn K (.ref cT) = true)
    (bEcT : PySem.W.subIn K (.ref cT) (.type "BaseException") = some true)
    (tEcT : PySem.W.typeIn K (.ref cT) = some (.type "type"))
    (hEcT : PySem.W.hasDictIn K cT = true)
    (xcZ : PySem.W.excIn K cZ valErr "ValueError.__new__" = true)
    (xcX : PySem.W.excIn K cX valErr "ValueError.__new__" = true)
    (sXT : PySem.W.subIn K (.ref cX) (.ref cT) = some true)
    (sXX : PySem.W.subIn K (.ref cX) (.ref cX) = some true)
    (i1cX : PySem.W.findIn K (.ref cX) "__getattribute__" = some (some (.builtin "BaseException.__getattribute__")))
    (i2cX : PySem.W.findIn K (.ref cX) "__getattr__" = some none)
    (i3cX : PySem.W.findIn K (.ref cX) "__class__" = some (some (.builtin "object.__class__")))
    (i6cX : PySem.W.mroIn K cX (.type "object") = some true)
    (i4 : PySem.W.specialIn K (.builtin "object.__class__") "__get__" = some (some (.builtin "getset_descriptor.__get__")))
    (i5 : PySem.W.takesIn K (.builtin "object.__class__") = some true)
    (gcd : PySem.W.nsIn K mainGlobals "gcd" = some (some (.builtin "math.gcd")))
    (e1 : PySem.W.nsIn K mainGlobals "_TEXT_LIMIT" = some (some (.int 400 tk1)))
    (z_int : PySem.W.nsIn K mainGlobals "int" = some none)
    (z_abs : PySem.W.nsIn K mainGlobals "abs" = some none)
    (z_len : PySem.W.nsIn K mainGlobals "len" = some none)
    (z_list : PySem.W.nsIn K mainGlobals "list" = some none)
    (z_range : PySem.W.nsIn K mainGlobals "range" = some none)
    (z_isinstance : PySem.W.nsIn K mainGlobals "isinstance" = some none)
    (z_str : PySem.W.nsIn K mainGlobals "str" = some none)
    (z_all : PySem.W.nsIn K mainGlobals "all" = some none)
    : ∃ fd : FuncData, (∀ (s : Shared) (v : Value), BindsTo s fd ⟨[v], []⟩ [("script", v)]) ∧ ∀ base : Heap, K.In base → base.Ns mainGlobals mg → FnOk l.prog w K mg base CX0 4 fa fd ["script"] (spLaw K) := by
  have e := hfa.symm.trans (PySem.W.mg_of X G a13)
  cases e
  have F1 := fun_mk (st := sReadInt) l1 c1 k1
  have m1 := PySem.W.mg_of X G a1
  have b1 := F1.binds (ps := ["text", "most"]) fun _ _ _ _ _ _ us hl => match us, hl with | [_, _], _ => rfl
  have F2 := fun_mk (st := sFrac) l2 c2 k2
  have m2 := PySem.W.mg_of X G a2
  have b2 := F2.binds (ps := ["numerator", "denominator"]) fun _ _ _ _ _ _ us hl => match us, hl with | [_, _], _ => rfl
  have F3 := fun_mk (st := sWriteF) l3 c3 k3
  have m3 := PySem.W.mg_of X G a3
  have b3 := F3.binds (ps := ["a"]) fun _ _ _ _ _ _ us hl => match us, hl with | [_], _ => rfl
  have F4 := fun_mk (st := sReadF) l4 c4 k4
  have m4 := PySem.W.mg_of X G a4
  have b4 := F4.binds (ps := ["text"]) fun _ _ _ _ _ _ us hl => match us, hl with | [_], _ => rfl
  have F5 := fun_mk (st := sBegin) l5 c5 k5
  have m5 := PySem.W.mg_of X G a5
  have b5 := F5.binds (ps := ["script"]) fun _ _ _ _ _ _ us hl => match us, hl with | [_], _ => rfl
  have F6 := fun_mk (st := sTake) l6 c6 k6
  have m6 := PySem.W.mg_of X G a6
  have b6 := F6.binds (ps := ["d", "many"]) fun _ _ _ _ _ _ us hl => match us, hl with | [_, _], _ => rfl
  have F7 := fun_mk (st := sSigned) l7 c7 k7
  have m7 := PySem.W.mg_of X G a7
  have b7 := F7.binds (ps := ["d", "most"]) fun _ _ _ _ _ _ us hl => match us, hl with | [_, _], _ => rfl
  have F8 := fun_mk (st := sDiv) l8 c8 k8
  have m8 := PySem.W.mg_of X G a8
  have b8 := F8.binds (ps := ["a", "b"]) fun _ _ _ _ _ _ us hl => match us, hl with | [_, _], _ => rfl
  have F9 := fun_mk (st := sDigits) l9 c9 k9
  have m9 := PySem.W.mg_of X G a9
  have b9 := F9.binds (ps := ["text"]) fun _ _ _ _ _ _ us hl => match us, hl with | [_], _ => rfl
  have F10 := fun_mk (st := sDue) l10 c10 k10
  have m10 := PySem.W.mg_of X G a10
  have b10 := F10.binds (ps := ["text"]) fun _ _ _ _ _ _ us hl => match us, hl with | [_], _ => rfl
  have F11 := fun_mk (st := sRead) l11 c11 k11
  have m11 := PySem.W.mg_of X G a11
  have b11 := F11.binds (ps := ["text"]) fun _ _ _ _ _ _ us hl => match us, hl with | [_], _ => rfl
  have F12 := fun_mk (st := sSpoilt) l12 c12 k12
  have m12 := PySem.W.mg_of X G a12
  have b12 := F12.binds (ps := ["d", "text", "top", "bottom"]) fun _ _ _ _ _ _ us hl => match us, hl with | [_, _, _, _], _ => rfl
  have F13 := fun_mk (st := sLaw) l13 c13 k13
  have m13 := PySem.W.mg_of X G a13
  have n_int := PySem.W.mg_none_of X G z_int
  have n_abs := PySem.W.mg_none_of X G z_abs
  have n_len := PySem.W.mg_none_of X G z_len
  have n_list := PySem.W.mg_none_of X G z_list
  have n_range := PySem.W.mg_none_of X G z_range
  have n_isinstance := PySem.W.mg_none_of X G z_isinstance
  have n_str := PySem.W.mg_none_of X G z_str
  have n_all := PySem.W.mg_none_of X G z_all
  have TD : TxtD mg := ⟨n_int, n_abs, n_len, n_list⟩
  have T : Txt0 mg := ⟨TD, n_isinstance, n_str, n_range⟩
  have G0 := PySem.W.mg_of X G gcd
  have RZ : ErrR K mg "ZeroDenominator" cZ := ⟨PySem.W.mg_of X G aEcZ, xcZ, kEcZ, bEcZ, tEcZ⟩
  have RX : ErrR K mg "TextError" cX := ⟨PySem.W.mg_of X G aEcX, xcX, kEcX, bEcX, tEcX⟩
  have EX : ErrX K mg cX cT := ⟨RX, ⟨PySem.W.mg_of X G aEcT, bEcT, hEcT, tEcT⟩, n_isinstance, sXT, ⟨i1cX, i2cX, bEcX, hEcX, i3cX, i4, i5, i6cX⟩, kit_rr sXX sXX hEcX tEcX⟩
  refine ⟨PySem.W.fnOf "law" "law" (defArgs sLaw) (defBody sLaw) (defScope sLaw) .none kV13 dc13 pm13 an13 cd13 ct13, fun s v => .of_eq rfl, fun base _ _ => ?_⟩
  have gRI : FnOk l.prog w K mg base (L2.CX l.prog w) 1 _ _ ["text", "most"] (spReadInt cX) := ok_readint F1 RX n_len n_int
  have gFR : FnOk l.prog w K mg base (L2.CX l.prog w) 1 _ _ ["numerator", "denominator"] (spFrac cZ) := ok_frac F2 RZ G0
  have gWF : FnOk l.prog w K mg base CX0 1 _ _ ["a"] (spWriteF K) := ok_writef F3 n_str
  have gRF : FnOk l.prog w K mg base (L2.CX l.prog w) 2 _ _ ["text"] (spReadF K cX) := ok_readf F4 RX n_len G0 ⟨_, PySem.W.mg_of X G e1, _, rfl⟩ gRI k1 b1 m1
  have gB : FnOk l.prog w K mg base CX0 1 _ _ ["script"] (spBegin K) := ok_begin F5 TD
  have gT : FnOk l.prog w K mg base CX0 1 _ _ ["d", "many"] spTake := ok_take F6 TD
  have gS : FnOk l.prog w K mg base CX0 2 _ _ ["d", "most"] spSigned := ok_signed F7 gT k6 b6 m6
  have gDV : FnOk l.prog w K mg base CX0 1 _ _ ["a", "b"] spDiv := ok_div F8 n_int
  have gDG : FnOk l.prog w K mg base CX0 1 _ _ ["text"] spDigits := ok_digits F9 n_all
  have gDU : FnOk l.prog w K mg base CX0 2 _ _ ["text"] (spDue K) := ok_due F10 n_len n_int gDG k9 b9 m9 gDV k8 b8 m8
  have gRD : FnOk l.prog w K mg base CX0 3 _ _ ["text"] (spRead K) := ok_read F11 EX gRF k4 b4 m4
  have gSP : FnOk l.prog w K mg base CX0 2 _ _ ["d", "text", "top", "bottom"] spSpoilt := ok_spoilt F12 n_len n_str gT k6 b6 m6
  exact ok_law F13 T ⟨_, _, gB, k5, b5, m5⟩ ⟨_, _, gT, k6, b6, m6⟩ ⟨_, _, gS, k7, b7, m7⟩ ⟨_, _, gFR, k2, b2, m2⟩ ⟨_, _, gWF, k3, b3, m3⟩ ⟨_, _, gRD, k11, b11, m11⟩ ⟨_, _, gDU, k10, b10, m10⟩ ⟨_, _, gSP, k12, b12, m12⟩
end My
open PySem PySem.W PyProof.Rows
set_option maxRecDepth 100000 in
set_option maxHeartbeats 0 in
theorem PySem.Challenge.cw_tensorcompiler_k02_fraction_texts_holds : PySem.Challenge.rw_tensorcompiler_k02_fraction_texts.Holds := by
  w_on; o_law; k_head; (case hw => w_witness2)
  k_fill
  refine L2.walk_of (l := PySem.Challenge.rw_tensorcompiler_k02_fraction_texts) (n := 63) (k := 4) (x := "script") (CX := fun _ => L2.CX0) (sp := fun w => My.spLaw _) rfl (by decide) rfl ⟨rfl, by decide, by decide⟩ (fun w h Y => PySem.W.kIn_of Y) ?F (fun _ _ a ns hl _ hS => ⟨a, ns, rfl, hS, hl, fun _ => rfl⟩) (fun _ _ _ _ _ h => h)
  case F =>
    intro w mg fa h KX G hmg
    refine' My.all_mk KX G hmg ?a1 ?l1 ?c1 ?k1 ?a2 ?l2 ?c2 ?k2 ?a3 ?l3 ?c3 ?k3 ?a4 ?l4 ?c4 ?k4 ?a5 ?l5 ?c5 ?k5 ?a6 ?l6 ?c6 ?k6 ?a7 ?l7 ?c7 ?k7 ?a8 ?l8 ?c8 ?k8 ?a9 ?l9 ?c9 ?k9 ?a10 ?l10 ?c10 ?k10 ?a11 ?l11 ?c11 ?k11 ?a12 ?l12 ?c12 ?k12 ?a13 ?l13 ?c13 ?k13 ?aEcZ ?kEcZ ?bEcZ ?tEcZ ?hEcZ ?aEcX ?kEcX ?bEcX ?tEcX ?hEcX ?aEcT ?kEcT ?bEcT ?tEcT ?hEcT ?xcZ ?xcX ?sXT ?sXX ?i1cX ?i2cX ?i3cX ?i6cX ?i4 ?i5 ?gcd ?e1 ?z_int ?z_abs ?z_len ?z_list ?z_range ?z_isinstance ?z_str ?z_all
    (case a1 => k_is); (case l1 => k_is); (case c1 => k_is); (case k1 => k_is); (case a2 => k_is); (case l2 => k_is); (case c2 => k_is); (case k2 => k_is); (case a3 => k_is); (case l3 => k_is); (case c3 => k_is); (case k3 => k_is); (case a4 => k_is); (case l4 => k_is); (case c4 => k_is); (case k4 => k_is); (case a5 => k_is); (case l5 => k_is); (case c5 => k_is); (case k5 => k_is); (case a6 => k_is); (case l6 => k_is); (case c6 => k_is); (case k6 => k_is); (case a7 => k_is); (case l7 => k_is); (case c7 => k_is); (case k7 => k_is); (case a8 => k_is); (case l8 => k_is); (case c8 => k_is); (case k8 => k_is); (case a9 => k_is); (case l9 => k_is); (case c9 => k_is); (case k9 => k_is); (case a10 => k_is); (case l10 => k_is); (case c10 => k_is); (case k10 => k_is); (case a11 => k_is); (case l11 => k_is); (case c11 => k_is); (case k11 => k_is); (case a12 => k_is); (case l12 => k_is); (case c12 => k_is); (case k12 => k_is); (case a13 => k_is); (case l13 => k_is); (case c13 => k_is); (case k13 => k_is); (case aEcZ => k_is); (case kEcZ => k_is); (case bEcZ => k_is); (case tEcZ => k_is); (case hEcZ => k_is); (case aEcX => k_is); (case kEcX => k_is); (case bEcX => k_is); (case tEcX => k_is); (case hEcX => k_is); (case aEcT => k_is); (case kEcT => k_is); (case bEcT => k_is); (case tEcT => k_is); (case hEcT => k_is); (case xcZ => k_exc); (case xcX => k_exc); (case sXT => k_is); (case sXX => first | rfl | k_is); (case i1cX => k_is); (case i2cX => k_is); (case i3cX => k_is); (case i6cX => k_is); (case i4 => k_is); (case i5 => k_is); (case gcd => k_is); (case e1 => k_is); (case z_int => k_is); (case z_abs => k_is); (case z_len => k_is); (case z_list => k_is); (case z_range => k_is); (case z_isinstance => k_is); (case z_str => k_is); (case z_all => k_is)
