import PyProof.Rows.All
import Wide.All
import OpenK.AllK
import Wide.FinOn
import HandS.ForMost
import HandS.Wide
import HandS.Evl
import HandS.Exc
import HandS.ExcOwn
import HandS.TryOnly
import HandS.WordsExc
import HandS.ExcIs
import HandS.IsInst
import HandS.RaiseMore
import HandS.FStr
import HandS.Zip
import HandS.ExcCtx
import HandS.Hot
import HandS.HotCalls
import HandS.RaiseFrom
import HandS.SuiteRaise
import HandS.TryMany
import HandS.Wide
import HandS.WideBits
import HandS.Walk
import HandS.RevRange
import HandS.Text
import HandS.StrMore
import HandS.Codes
import HandS.Style
import HandS.TupAny
import PyProof.StrLaws
import PyProof.P3Eq
import KE.IntTextLaws
import KE.GoesComp
import KE.GoesRaise
import KE.KAsSuite
import KE.GoesEnumKw
import KE.GoesMore
import PyProof.EnumMake
import PyProof.Rows.SumAny
import PySem.Challenge.RW_tensorcompiler_k70_lines_of_the_journal
set_option Elab.async false
set_option linter.all false
set_option maxRecDepth 100000
set_option maxHeartbeats 4000000
namespace My
open PySem L2
/-! ### the text -/
def topS (i : Nat) : Stmt := PySem.Challenge.pw_tensorcompiler_k70_lines_of_the_journal.main.body.getD i (.Pass ⟨0, 0, 0, 0⟩)
abbrev sReadInt : Stmt := topS 5
abbrev sWI : Stmt := topS 6
abbrev sCN : Stmt := topS 10
abbrev sJL : Stmt := topS 11
abbrev sRL : Stmt := topS 12
abbrev sRW : Stmt := topS 13
abbrev sBegin : Stmt := topS 15
abbrev sTake : Stmt := topS 16
abbrev sSigned : Stmt := topS 17
abbrev sTold : Stmt := topS 18
abbrev sLC : Stmt := topS 19
abbrev sLN : Stmt := topS 20
abbrev sLaw : Stmt := topS 21
structure Calls (P : Program) (w : World) (K : PySem.W.Frag) (mg : Str → Option Value) (base : Heap) (CX : CXT) (k : Nat) (name : Str) (ps : List Str) (sp : Sp) : Prop where
  ex : ∃ (f : Addr) (fd : FuncData), FnOk P w K mg base CX k f fd ps sp ∧ PySem.W.keepIn K (.ref f) = true ∧ Binds K fd ps [] ∧ mg name = some (.ref f)
/-! ### numbers in texts -/
def digB (l : List Nat) : Bool := !l.isEmpty && l.all fun c => decide (48 ≤ c) && decide (c ≤ 57)
theorem digB_iff {l : List Nat} : digB l = true ↔ l ≠ [] ∧ NumText.AllDigits l := by
  unfold digB NumText.AllDigits
  rw [Bool.and_eq_true, List.all_eq_true]
  refine and_congr ?_ ⟨fun h c hc => ?_, fun h c hc => ?_⟩
  · cases l <;> simp
  · have := h c hc
    rw [Bool.and_eq_true] at this
    exact ⟨of_decide_eq_true this.1, of_decide_eq_true this.2⟩
  · rw [Bool.and_eq_true]
    exact ⟨decide_eq_true (h c hc).1, decide_eq_true (h c hc).2⟩
def bare (l : List Nat) : List Nat := if l.head? = some 45 then l.tail else l
/-- the number that is written -/
def num (l : List Nat) : Option Int :=
  if digB (bare l) = true then (if (bare l).head? = some 48 ∧ l ≠ [48] then none else some (if l.head? = some 45 then -((NumText.digitsVal (bare l) : Nat) : Int) else ((NumText.digitsVal (bare l) : Nat) : Int))) else none
theorem bare_neg (l : List Nat) : bare (45 :: l) = l := rfl
theorem bare_pos {c : Nat} {l : List Nat} (h : c ≠ 45) : bare (c :: l) = c :: l := by
  unfold bare
  rw [if_neg]
  intro e
  exact h (Option.some.inj e)
theorem bare_len (l : List Nat) : (bare l).length ≤ l.length := by
  unfold bare
  split
  · rw [List.length_tail]; omega
  · exact Nat.le_refl _
theorem all_list (x : Str) (p : Nat → Bool) : x.cps.all p = (TL.tl x).all p := by
  show x.cps.all p = x.cps.toList.all p
  rw [Array.all_toList]
theorem asc_digit : ∀ c, c < 128 → Unicode.isDigit c = (decide (48 ≤ c) && decide (c ≤ 57)) := by decide +kernel
theorem dig_text (x : Str) : (Txt.isascii x && Txt.isdigit x) = digB (TL.tl x) := by
  unfold Txt.isascii Txt.isdigit digB
  rw [all_list, all_list]
  have hl : decide (x.length > 0) = !(TL.tl x).isEmpty := by
    rw [TL.len_tl]
    cases TL.tl x <;> rfl
  show ((TL.tl x).all (fun c => decide (c < 128)) && (decide (x.length > 0) && (TL.tl x).all Unicode.isDigit)) = _
  rw [hl]
  generalize TL.tl x = l
  rw [Bool.eq_iff_iff]
  simp only [Bool.and_eq_true, List.all_eq_true, decide_eq_true_eq]
  constructor
  · rintro ⟨h1, h2, h3⟩
    refine ⟨h2, fun c hc => ?_⟩
    have := h3 c hc
    rw [asc_digit c (h1 c hc)] at this
    simpa using this
  · rintro ⟨h2, h3⟩
    refine ⟨fun c hc => by have := h3 c hc; omega, h2, fun c hc => ?_⟩
    have := h3 c hc
    rw [asc_digit c (by omega)]
    simpa using this
theorem tl_dash : TL.tl ("-" : Str) = [45] := rfl
theorem sub_one (z : Str) (y : Str) (c : Nat) (hy : TL.tl y = [c]) : Builtin.Str.subAt z y 0 = decide ((TL.tl z).head? = some c) := by
  have hl : y.length = 1 := by rw [TL.len_tl, hy]; rfl
  rw [PySem.StrLaws.subAt_eq, hl]
  have e1 : y.cps.toList = [c] := hy
  rw [e1, List.drop_zero]
  show ((TL.tl z).take 1 == [c]) = _
  cases TL.tl z with
  | nil => rfl
  | cons d r =>
    show ([d] == [c]) = decide (some d = some c)
    rw [Bool.eq_iff_iff]
    simp
theorem cut_dash (z : Str) : TL.tl (Txt.removeprefix z "-") = bare (TL.tl z) := by
  unfold Txt.removeprefix bare
  rw [sub_one z "-" 45 tl_dash]
  by_cases h : (TL.tl z).head? = some 45
  · rw [if_pos h, if_pos (decide_eq_true h)]
    have hl : z.length = (TL.tl z).length := TL.len_tl z
    obtain ⟨r, hr⟩ : ∃ r, TL.tl z = 45 :: r := by
      cases e : TL.tl z with
      | nil => rw [e] at h; cases h
      | cons d r =>
        rw [e] at h
        exact ⟨r, by rw [Option.some.inj h]⟩
    unfold Txt.affix
    have h1 : ("-" : Str).length = 1 := rfl
    dsimp only
    rw [h1, if_neg (by rw [hl, hr]; simp), TL.tl_strSub_end, hr]
    rfl
  · rw [if_neg h, if_neg (fun e => h (of_decide_eq_true e))]
    rfl
theorem starts_one (z y : Str) (c : Nat) (hy : TL.tl y = [c]) : Txt.startswith z y = decide ((TL.tl z).head? = some c) := by
  have hl : y.length = 1 := by rw [TL.len_tl, hy]; rfl
  unfold Txt.startswith
  rw [sub_one z y c hy, hl, TL.len_tl]
  cases TL.tl z with
  | nil => rfl
  | cons d r =>
    show (decide (0 + 1 ≤ r.length + 1) && _) = _
    rw [decide_eq_true (by omega), Bool.true_and]
theorem str_eq {x y : Str} : x = y ↔ TL.tl x = TL.tl y := ⟨fun e => by rw [e], TL.ext_tl⟩
theorem dec_tl (x y : Str) : decide (V.str x = V.str y) = decide (TL.tl x = TL.tl y) := by
  rw [Bool.eq_iff_iff, decide_eq_true_iff, decide_eq_true_iff]
  exact ⟨fun e => by rw [V.str.inj e], fun e => by rw [TL.ext_tl e]⟩
/-- the text of a number -/
def txt (n : Int) : List Nat := if n < 0 then 45 :: TL.numL n.natAbs else TL.numL n.natAbs
theorem tl_int (n : Int) : TL.tl (Str.ofString (toString n)) = txt n := by
  unfold txt
  cases n with
  | ofNat k =>
    rw [if_neg (by show ¬ ((k : Int) < 0); omega)]
    exact TL.tl_num k
  | negSucc k =>
    rw [if_pos (by omega)]
    have e : toString (Int.negSucc k) = "-" ++ toString (((k + 1 : Nat) : Nat) : Int) := rfl
    rw [e, TL.tl_ofString, String.toList_append, List.map_append, ← TL.tl_ofString (toString (((k + 1 : Nat) : Nat) : Int)), TL.tl_num]
    rfl
theorem txt_len' {n : Int} {k : Nat} (hk : 0 < k) (h : n.natAbs < 10 ^ k) : (txt n).length ≤ k + 1 := by
  have := TL.numL_len hk h
  unfold txt
  split
  · rw [List.length_cons]; omega
  · omega
theorem numL_head {n : Nat} (h : TL.numL n ≠ [48]) : (TL.numL n).head? ≠ some 48 := by
  intro e
  induction n using Nat.strongRecOn with
  | ind n ih =>
    by_cases hn : n < 10
    · rw [TL.numL_lt hn] at e h
      have : 48 + n = 48 := Option.some.inj e
      exact h (by rw [this])
    · rw [TL.numL_step (by omega)] at e
      have hne := TL.numL_ne (n / 10)
      have e2 : (TL.numL (n / 10)).head? = some 48 := by
        cases q : TL.numL (n / 10) with
        | nil => exact absurd q hne
        | cons a r => rw [q] at e; exact e
      refine ih (n / 10) (by omega) ?_ e2
      intro q
      have := TL.numL_val (n / 10)
      rw [q] at this
      have : n / 10 = 0 := this.symm
      omega
theorem numL_zero {n : Nat} : TL.numL n = [48] ↔ n = 0 := by
  constructor
  · intro e
    have := TL.numL_val n
    rw [e] at this
    exact this.symm
  · intro e
    subst e
    rfl
theorem numL_no (n : Nat) : (TL.numL n).head? ≠ some 45 := by
  intro e
  cases q : TL.numL n with
  | nil => rw [q] at e; cases e
  | cons a r =>
    rw [q] at e
    have := (TL.numL_digits n) a (by rw [q]; exact List.mem_cons_self)
    have : a = 45 := Option.some.inj e
    omega
theorem bare_num (n : Nat) : bare (TL.numL n) = TL.numL n := by
  unfold bare
  rw [if_neg (numL_no n)]
theorem bare_txt (n : Int) : bare (txt n) = TL.numL n.natAbs := by
  unfold txt
  split
  · rfl
  · exact bare_num _
/-- what is written is read -/
theorem num_txt (n : Int) : num (txt n) = some n := by
  unfold num
  rw [bare_txt, if_pos (digB_iff.mpr ⟨TL.numL_ne _, TL.numL_digits _⟩), if_neg, TL.numL_val]
  · unfold txt
    by_cases h : n < 0
    · rw [if_pos h, if_pos (show (45 :: TL.numL n.natAbs).head? = some 45 from rfl)]
      congr 1
      omega
    · rw [if_neg h, if_neg (numL_no _)]
      congr 1
      omega
  · rintro ⟨h1, h2⟩
    have h3 : TL.numL n.natAbs = [48] := Classical.byContradiction fun e => numL_head e h1
    have h4 := numL_zero.mp h3
    have h5 : n = 0 := by omega
    subst h5
    exact h2 rfl
theorem num_nat (n : Nat) : num (TL.numL n) = some (n : Int) := by
  have := num_txt (n : Int)
  unfold txt at this
  rw [if_neg (by omega), Int.natAbs_natCast] at this
  exact this
/-- int(text) reads it -/
theorem num_int {z : Str} {n : Int} (h : num (TL.tl z) = some n) (hl : z.length ≤ 4300) : intText? z = some n := by
  unfold num at h
  by_cases hd : digB (bare (TL.tl z)) = true
  · rw [if_pos hd] at h
    obtain ⟨h1, h2⟩ := digB_iff.mp hd
    by_cases hz : (bare (TL.tl z)).head? = some 48 ∧ TL.tl z ≠ [48]
    · rw [if_pos hz] at h; cases h
    · rw [if_neg hz] at h
      cases h
      by_cases hm : (TL.tl z).head? = some 45
      · rw [if_pos hm]
        obtain ⟨r, hr⟩ : ∃ r, TL.tl z = 45 :: r := by
          cases e : TL.tl z with
          | nil => rw [e] at hm; cases hm
          | cons d r =>
            rw [e] at hm
            exact ⟨r, by rw [Option.some.inj hm]⟩
        rw [hr, bare_neg] at h1 h2
        rw [hr, bare_neg]
        exact PySem.intText_neg hr h2 h1 hl
      · rw [if_neg hm]
        have hb : bare (TL.tl z) = TL.tl z := by unfold bare; rw [if_neg hm]
        rw [hb] at h1 h2 ⊢
        exact PySem.intText_digits h2 h1 hl
  · rw [if_neg hd] at h
    cases h
/-! ### own errors -/
abbrev valErr : List Value := [.type "ValueError", .type "Exception", .type "BaseException", .type "object"]
/-- what the written part says of an error class that is raised -/
structure ErrR (K : PySem.W.Frag) (mg : Str → Option Value) (n : Str) (C : Addr) : Prop where
  g : mg n = some (.ref C)
  x : PySem.W.excIn K C valErr "ValueError.__new__" = true
  k : PySem.W.keepIn K (.ref C) = true
  b : PySem.W.subIn K (.ref C) (.type "BaseException") = some true
  t : PySem.W.typeIn K (.ref C) = some (.type "type")
/-- of one that an except clause names -/
structure ErrN (K : PySem.W.Frag) (mg : Str → Option Value) (n : Str) (C : Addr) : Prop where
  g : mg n = some (.ref C)
  b : PySem.W.subIn K (.ref C) (.type "BaseException") = some true
  h : PySem.W.hasDictIn K C = true
  t : PySem.W.typeIn K (.ref C) = some (.type "type")
theorem ErrN.ex {K : PySem.W.Frag} {mg : Str → Option Value} {n : Str} {C : Addr} (e : ErrN K mg n C) {cls : Value} {r : Bool} (s : PySem.W.subIn K cls (.ref C) = some r) : PySem.W.exmOne K cls (.ref C) = some r := PySem.W.exm_ref e.b e.h e.t s
theorem pss_if {X : Cx} {sts : List Stmt} {t : TS} {P : Prop} (h : P → PSs X sts t) : PSs X sts (fun D σ H => P ∧ t D σ H) := ⟨fun pins s σ H D I hh => (h hh.1).run pins s σ H D I hh.2⟩
theorem kit_rr {K : PySem.W.Frag} {Z C : Addr} {r : Bool} (s : PySem.W.subIn K (.ref Z) (.ref C) = some r) (z : PySem.W.subIn K (.ref Z) (.ref Z) = some true) (h : PySem.W.hasDictIn K C = true) (t : PySem.W.typeIn K (.ref C) = some (.type "type")) : PySem.W.kitOne K (.ref Z) (.ref C) = some r := by
  have hc : (PySem.W.clsIn K C).isSome = true := by
    unfold PySem.W.hasDictIn at h
    cases e : PySem.W.clsIn K C with
    | none => rw [e] at h; cases h
    | some _ => rfl
  have e2 : ((PySem.W.clsIn K C).isSome && PySem.W.typeIn K (.ref C) == some (.type "type")) = true := by rw [hc, t] <;> rfl
  show (if (Value.ref Z == Value.ref C) = true then some true else (if ((PySem.W.clsIn K C).isSome && PySem.W.typeIn K (.ref C) == some (.type "type")) = true then PySem.W.subIn K (.ref Z) (.ref C) else none)) = some r
  by_cases g : (Value.ref Z == Value.ref C) = true
  · rw [if_pos g]
    have e : Value.ref Z = Value.ref C := beq_iff_eq.mp g
    rw [← e, z] at s
    exact s
  · rw [if_neg g, if_pos e2]
    exact s
theorem kit_rt {K : PySem.W.Frag} {Z : Addr} {T : String} {r : Bool} (s : PySem.W.subIn K (.ref Z) (.type T) = some r) (m : PySem.W.kitMeta T = true) : PySem.W.kitOne K (.ref Z) (.type T) = some r := by
  have g : (Value.ref Z == Value.type T) = false := rfl
  show (if (Value.ref Z == Value.type T) = true then some true else (if PySem.W.kitMeta T = true then PySem.W.subIn K (.ref Z) (.type T) else none)) = some r
  rw [g, if_neg Bool.false_ne_true, if_pos m]
  exact s
/-- the suite of an except clause, by what is known when it is reached -/
def tSu (X : Cx) (sts : List Stmt) : Addr → Value → Option Addr → TS := fun a cls d D σ H => ∀ (oe : Obj) (pn : List (Addr × Obj)), Zc cls d oe → (∃ vs, oe.data = .fields vs) → ∃ t, PSs (X.suite a ((a, oe) :: pn)) sts t ∧ t D σ H
theorem su_ok {X : Cx} {sts : List Stmt} {a : Addr} {cls : Value} {d : Option Addr} {oe : Obj} {pn : List (Addr × Obj)} (hz : Zc cls d oe) (hf : ∃ vs, oe.data = .fields vs) : PSs (X.suite a ((a, oe) :: pn)) sts (tSu X sts a cls d) :=
  ⟨fun pins s σ H D I h => by
    obtain ⟨t, p, q⟩ := h oe pn hz hf
    exact p.run pins s σ H D I q⟩
/-! ### bounds -/
/-- below 2 ^ n in size -/
def Bg (n : Nat) (x : Int) : Prop := x.natAbs < 2 ^ n
theorem Bg.mono {n m : Nat} {x : Int} (h : Bg n x) (l : n ≤ m) : Bg m x := Nat.lt_of_lt_of_le h (Nat.pow_le_pow_right (by decide) l)
theorem Bg.mul {n m : Nat} {x y : Int} (h : Bg n x) (k : Bg m y) : Bg (n + m) (x * y) := wide_lt h k
theorem Bg.add {n : Nat} {x y : Int} (h : Bg n x) (k : Bg n y) : Bg (n + 1) (x + y) := by
  unfold Bg at *
  rw [Nat.pow_succ]
  omega
theorem Bg.sub {n : Nat} {x y : Int} (h : Bg n x) (k : Bg n y) : Bg (n + 1) (x - y) := by
  unfold Bg at *
  rw [Nat.pow_succ]
  omega
theorem Bg.cmul {n m : Nat} {x y : Int} (h : Bg n x) (k : Bg m y) (n0 : 0 < n) (m0 : 0 < m) (l : n + m ≤ 1000000) : CMulW x y := wide_mul h k n0 m0 l
def CDivX (_ j : Int) : Prop := j ≠ 0 ∧ j.natAbs.log2 < 9000
theorem op_fdivX {X : Cx} : OpR X (binaryOp .FloorDiv) (rI CDivX fun i j => .int (i.fdiv j)) := opI fun i j _ _ _ _ _ hc q =>
  PyProof.Rows.floordiv_int hc.1 q (.inl (PyProof.noPylong_of_log2 hc.2))
theorem Bg.div {n : Nat} {x y : Int} (h : Bg n y) (h0 : y ≠ 0) (n0 : 0 < n) (l : n ≤ 9000) : CDivX x y := ⟨h0, Nat.lt_of_lt_of_le (PySem.Flt.log2_lt_of n0 h) l⟩
theorem Bg.divW {n : Nat} {x y : Int} (h : Bg n y) (h0 : 0 < y) (n0 : 0 < n) (l : n ≤ 9000) : CDivW x y := wide_div h0 h n0 l
/-! ### drawing -/
/-- all but one place stands as it was -/
def But (d : Addr) (H H' : Hp) : Prop := ∀ b, b ≠ d → H' b = H b
theorem But.refl (d : Addr) (H : Hp) : But d H H := fun _ _ => rfl
theorem But.trans {d : Addr} {H H1 H2 : Hp} (a : But d H H1) (b : But d H1 H2) : But d H H2 := fun c h => (b c h).trans (a c h)
theorem But.upd {d : Addr} {H : Hp} {o : HO} : But d H (upd H d o) := fun _ h => upd_ne h
/-- the drawing state -/
def DrAt (H : Hp) (d c : Addr) : Prop := ∃ (ns : List Int) (i : Nat) (r s : Int), c ≠ d ∧ H d = some (.lst [.ref c, .int i, .int r, .int s]) ∧ H c = some (.lst (ns.map V.int)) ∧ i ≤ ns.length ∧ 0 ≤ r ∧ 0 ≤ s ∧ s < 2147483647
theorem DrAt.same {H H' : Hp} {d c : Addr} (h : DrAt H d c) (s : Same H H') : DrAt H' d c := by
  obtain ⟨ns, i, r, sd, n, h1, h2, h3⟩ := h
  exact ⟨ns, i, r, sd, n, s _ _ h1, s _ _ h2, h3⟩
theorem DrAt.lst {H : Hp} {d c : Addr} (h : DrAt H d c) : ∃ xs, H d = some (.lst xs) := by
  obtain ⟨ns, i, r, sd, n, h1, _⟩ := h
  exact ⟨_, h1⟩
theorem DrAt.lstc {H : Hp} {d c : Addr} (h : DrAt H d c) : ∃ xs, H c = some (.lst xs) := by
  obtain ⟨ns, i, r, sd, n, _, h1, _⟩ := h
  exact ⟨_, h1⟩
/-- another list may be changed -/
theorem DrAt.upd {H : Hp} {d c p : Addr} (h : DrAt H d c) (o : HO) (nd : p ≠ d) (nc : p ≠ c) : DrAt (upd H p o) d c := by
  obtain ⟨ns, i, r, sd, n, h1, h2, h3⟩ := h
  exact ⟨ns, i, r, sd, n, by rw [upd_ne nd.symm]; exact h1, by rw [upd_ne nc.symm]; exact h2, h3⟩
/-- what is no list is kept by a draw -/
theorem But.tup {d c b : Addr} {H H' : Hp} {xs : List V} (k : But d H H') (h : DrAt H d c) (hb : H b = some (.tup xs)) : H' b = some (.tup xs) := by
  obtain ⟨ys, hd⟩ := h.lst
  rw [k b (ne_of hb hd (fun z => nomatch z))]
  exact hb
def Bnd (m : Int) : Prop := m < 2 ^ 400
structure TxtD (mg : Str → Option Value) : Prop where
  int : mg "int" = none
  abs : mg "abs" = none
  len : mg "len" = none
  list : mg "list" = none
section
variable {P : Program} {w : World} {K : PySem.W.Frag} {mg : Str → Option Value} {base : Heap}
def spBegin (K : PySem.W.Frag) : Sp := fun vs H Q _ => ∃ (a : Addr) (ns : List Int), vs = [.ref a] ∧ SqL K H a (ns.map V.int) ∧ ns.length ≤ 63 ∧
  ∀ H' d c, Same H H' → H d = none → H c = none → DrAt H' d c → Q (.ref d) H'
theorem scB : FnScope ["script", "seed", "cell"] ["script"] (defScope sBegin) := ⟨rfl, rfl, rfl, by decide +kernel, rfl, by decide +kernel, by decide +kernel⟩
theorem ok_begin {f : Addr} {fd : FuncData} (F : Fun K "_law_begin" "_law_begin" sBegin f fd) (T : TxtD mg) : FnOk P w K mg base CX0 1 f fd ["script"] (spBegin K) := by
  refine F.ok scB (fun vs H Q E h => ?_) (fun cdv A outer s H vs Q E hr h => ?_)
  · obtain ⟨a, ns, rfl, _⟩ := h
    rfl
  · obtain ⟨a, ns, rfl, hS, hlen, q⟩ := h
    refine ⟨_, pss_cons (ps_set (i := 1) scB.nd rfl (.inl rfl) pe_int)
      (pss_cons (ps_for PassesOwn.never rfl (pi_list (pv 0)) (pg_name (i := 2) scB.nd rfl (.inl rfl))
        (pss_one (ps_set (i := 1) scB.nd rfl (.inl rfl)
          (pe_op op_mod (pe_op op_add (pe_op op_add (pe_op op_mul (pv 1) pe_int) (pe_op op_mod (pe_callTy call_int1 (by rfl) T.int (by decide +kernel) (pa_cons (pv 2) pa_nil)) pe_int)) pe_int) pe_int))))
      (pss_one (ps_ret (pe_lst (pa_cons (pe_callTy call_list_of (by rfl) T.list (by decide +kernel) (pa_cons (pv 0) pa_nil)) (pa_cons pe_int (pa_cons pe_int (pa_cons (pv 1) pa_nil)))))))), ?_⟩
    refine ⟨_, rfl, a, rfl, ⟨_, hS⟩, for_list (K := K) (a := a) (xs := ns.map V.int) (fun i σ H' => ∃ (z : Int) (v : Option V), σ = [some (.ref a), some (.int z), v] ∧ H' = H ∧ 0 ≤ z ∧ z < 2147483647)
      ⟨1, none, rfl, rfl, by decide, by decide⟩ (fun i σ H' _ ⟨_, _, _, e, _⟩ => by rw [e]; exact hS) ?_ ?_⟩
    · rintro i x σ H' hi ⟨z, v, rfl, rfl, h0, h1⟩
      obtain ⟨u, rfl⟩ : ∃ u, x = V.int u := by
        rw [List.getElem?_map] at hi
        cases e : ns[i]? with
        | none => rw [e] at hi; cases hi
        | some u => rw [e] at hi; exact ⟨u, (Option.some.inj hi).symm⟩
      refine ⟨_, rfl, _, _, rfl, rfl, .inl ⟨by omega, by omega⟩, _, rfl, .inl ⟨_, rfl, _, _, rfl, rfl, (by show (0 : Int) < 2147483629; decide), _, _, rfl, rfl, _, _, rfl, rfl, _, _, rfl, rfl, (by show (0 : Int) < 2147483647; decide), ?_⟩⟩
      exact ⟨_, _, rfl, rfl, Int.emod_nonneg _ (by decide), Int.emod_lt_of_pos _ (by decide)⟩
    · rintro σ H' ⟨z, v, rfl, rfl, h0, h1⟩
      refine ⟨_, rfl, a, _, rfl, .inl hS, fun c nc => ⟨_, rfl, by show 4 ≤ sizeLine; decide, fun d nd => ?_⟩⟩
      have ndc : d ≠ c := fun e => by
        rw [e, upd_same] at nd
        cases nd
      have nd0 : H' d = none := by
        rw [upd_ne ndc] at nd
        exact nd
      refine q _ d c (fun b o e => ?_) nd0 nc ⟨ns, 0, 0, z, ndc.symm, upd_same, ?_, Nat.zero_le _, by decide, h0, h1⟩
      · rw [upd_ne (ne_of_none e nd0), upd_ne (ne_of_none e nc)]
        exact e
      · rw [upd_ne ndc.symm, upd_same]
def spTake : Sp := fun vs H Q _ => ∃ (d c : Addr) (m : Int), vs = [.ref d, .int m] ∧ DrAt H d c ∧ 0 < m ∧ Bnd m ∧
  ∀ H' v, But d H H' → DrAt H' d c → 0 ≤ v → v < m → Q (.int v) H'
theorem scT : FnScope ["d", "many", "small", "digit"] ["d", "many"] (defScope sTake) := ⟨rfl, rfl, rfl, by decide +kernel, rfl, by decide +kernel, by decide +kernel⟩
theorem at0 {a b c e : V} : atI [a, b, c, e] (0 : Int) = some a := rfl
theorem at1 {a b c e : V} : atI [a, b, c, e] (1 : Int) = some b := rfl
theorem at2 {a b c e : V} : atI [a, b, c, e] (2 : Int) = some c := rfl
theorem at3 {a b c e : V} : atI [a, b, c, e] (3 : Int) = some e := rfl
theorem bnd_nat {m : Int} (h0 : 0 < m) (h : Bnd m) : m.natAbs < 2 ^ 400 := by
  have e : ((2 ^ 400 : Nat) : Int) = 2 ^ 400 := by decide +kernel
  unfold Bnd at h
  generalize (2 ^ 400 : Nat) = B at *
  omega
theorem bndW {r m : Int} (h0 : 0 < m) (h : Bnd m) : CDivW r m := wide_div (b := 400) h0 (bnd_nat h0 h) (by decide) (by decide)
theorem ok_take {f : Addr} {fd : FuncData} (F : Fun K "_law_take" "_law_take" sTake f fd) (T : TxtD mg) : FnOk P w K mg base CX0 1 f fd ["d", "many"] spTake := by
  refine F.ok scT (fun vs H Q E h => ?_) (fun cdv A outer s H vs Q E hr h => ?_)
  · obtain ⟨d, c, m, rfl, _⟩ := h
    rfl
  · obtain ⟨d, c, m, rfl, ⟨ns, i, r, sd, ncd, hd, hc, hi, hr0, hs0, hs1⟩, hm, hb, q⟩ := h
    refine ⟨_, Evl.pss_cut (ps_if (PW.pt (pw_and (pt_cmpR op_eq (pe_ix ix_list (pv 0) pe_int (fun _ _ => rfl)) pe_int (nomark _))
        (pw_and1 (pt_cmpR op_lt (pe_ix ix_list (pv 0) pe_int (fun _ _ => rfl)) (pe_callB call_len_seq (by rfl) T.len PySem.boot_len (pa_cons (pe_ix ix_list (pv 0) pe_int (fun _ _ => rfl)) pa_nil)) (nomark _)))))
        (pss_cons (ps_asg (pe_callB call_abs (by rfl) T.abs (by decide +kernel) (pa_cons (pe_callTy call_int1 (by rfl) T.int (by decide +kernel) (pa_cons (pe_ix ix_list (pe_ix ix_list (pv 0) pe_int (fun _ _ => rfl)) (pe_ix ix_list (pv 0) pe_int (fun _ _ => rfl)) (fun _ _ => rfl)) pa_nil)) pa_nil)) (pg_sub (pv 0) pe_int set_list))
        (pss_cons (ps_asg (pe_op op_add (pe_ix ix_list (pv 0) pe_int (fun _ _ => rfl)) pe_int) (pg_sub (pv 0) pe_int set_list))
        (pss_one (ps_if (pt_cmpR op_lt (pe_ix ix_list (pv 0) pe_int (fun _ _ => rfl)) (pe_op op_pow pe_int pe_int) (nomark _))
          (pss_cons (ps_set (i := 2) scT.nd rfl (.inl rfl) (pe_callTy call_int1 (by rfl) T.int (by decide +kernel) (pa_cons (pe_ix ix_list (pv 0) pe_int (fun _ _ => rfl)) pa_nil)))
          (pss_cons (ps_asg pe_int (pg_sub (pv 0) pe_int set_list))
          (pss_one (ps_ret (pe_op op_mod (pv 2) (pv 1))))))
          pss_nil))))
        pss_nil)
      (pss_cons (ps_if (pt_cmpR op_gt (pe_ix ix_list (pv 0) pe_int (fun _ _ => rfl)) pe_int (nomark _))
        (pss_cons (ps_set (i := 3) scT.nd rfl (.inl rfl) (pe_op op_mod (pe_callTy call_int1 (by rfl) T.int (by decide +kernel) (pa_cons (pe_ix ix_list (pv 0) pe_int (fun _ _ => rfl)) pa_nil)) (pv 1)))
        (pss_cons (ps_asg (pe_op op_fdivW (pe_callTy call_int1 (by rfl) T.int (by decide +kernel) (pa_cons (pe_ix ix_list (pv 0) pe_int (fun _ _ => rfl)) pa_nil)) (pv 1)) (pg_sub (pv 0) pe_int set_list))
        (pss_one (ps_ret (pv 3)))))
        pss_nil)
      (pss_cons (ps_asg (pe_op op_mod (pe_callTy call_int1 (by rfl) T.int (by decide +kernel) (pa_cons (pe_op op_add (pe_op op_mul (pe_ix ix_list (pv 0) pe_int (fun _ _ => rfl)) pe_int) pe_int) pa_nil)) pe_int) (pg_sub (pv 0) pe_int set_list))
      (pss_one (ps_ret (pe_op op_mod (pe_callTy call_int1 (by rfl) T.int (by decide +kernel) (pa_cons (pe_op op_fdiv (pe_ix ix_list (pv 0) pe_int (fun _ _ => rfl)) pe_int) pa_nil)) (pv 1)))))), ?_⟩
    refine ⟨fun σ' H' => ∃ (i r sd : Int) (x2 : Option V) (i' : Nat), σ' = [some (.ref d), some (.int m), x2, none] ∧ H' = upd H d (.lst [.ref c, .int i, .int r, .int sd]) ∧ i = i' ∧ i' ≤ ns.length ∧ 0 ≤ r ∧ 0 ≤ sd ∧ sd < 2147483647, ?_, ?_⟩
    · have same : H = upd H d (.lst [.ref c, .int i, .int r, .int sd]) := by
        funext b
        by_cases e : b = d
        · rw [e, upd_same, hd]
        · rw [upd_ne e]
      refine ⟨_, rfl, d, _, 2, _, rfl, rfl, SqL.of hd, at2, rfl, _, rfl, ite2 (fun e => ?_) (fun e => ?_)⟩
      · refine ⟨_, rfl, d, _, 1, _, rfl, rfl, SqL.of hd, at1, _, rfl, d, _, 0, _, rfl, rfl, SqL.of hd, at0, c, _, rfl, .inl (SqL.of hc), _, _, rfl, rfl, _, rfl, ite2 (fun e2 => ?_) (fun e2 => ?_)⟩
        · have hlt : i < ns.length := by
            have := of_decide_eq_true e2
            rw [List.length_map] at this
            omega
          have hx : (ns.map V.int)[i]? = some (.int ns[i]) := by
            rw [List.getElem?_map, List.getElem?_eq_getElem hlt]
            rfl
          generalize ns[i] = x at hx
          have hcd : ∀ o, (upd H d o) c = some (.lst (ns.map V.int)) := fun o => by rw [upd_ne ncd]; exact hc
          have habs : 0 ≤ (if x < 0 then -x else x) := by split <;> omega
          -- d[2] = abs(int(d[0][d[1]]))
          refine ⟨_, rfl, d, _, 0, _, rfl, rfl, SqL.of hd, at0, _, rfl, d, _, 1, _, rfl, rfl, SqL.of hd, at1, c, _, _, _, rfl, rfl, SqL.of hc, atI_nat hx, .inl ⟨x, rfl, x, rfl, _, rfl, d, _, 2, 2, rfl, rfl, hd, rfl, ?_⟩⟩
          generalize (if x < 0 then -x else x) = y at habs
          -- d[1] = d[1] + 1
          refine ⟨_, rfl, d, _, 1, _, rfl, rfl, SqL.of upd_same, at1, _, _, rfl, rfl, _, rfl, d, _, 1, 1, rfl, rfl, upd_same, rfl, ?_⟩
          rw [upd_upd]
          -- if d[2] < 10 ** 18
          refine ⟨_, rfl, d, _, 2, _, rfl, rfl, SqL.of upd_same, at2, 10, 18, rfl, rfl, ⟨by decide, by decide, by decide⟩, _, _, rfl, rfl, _, rfl, ite2 (fun e3 => ?_) (fun e3 => ?_)⟩
          · refine ⟨_, rfl, d, _, 2, _, rfl, rfl, SqL.of upd_same, at2, .inl ⟨_, rfl, _, rfl, d, _, 2, 2, rfl, rfl, upd_same, rfl, ?_⟩⟩
            rw [upd_upd]
            refine ⟨_, rfl, _, rfl, _, _, rfl, rfl, hm, ?_⟩
            exact q _ _ But.upd ⟨ns, i + 1, 0, sd, ncd, upd_same, hcd _, hlt, by decide, hs0, hs1⟩ (Int.emod_nonneg _ (by omega)) (Int.emod_lt_of_pos _ hm)
          · exact ⟨_, _, _, _, i + 1, rfl, rfl, rfl, hlt, habs, hs0, hs1⟩
        · exact ⟨_, _, _, _, i, rfl, same, rfl, hi, hr0, hs0, hs1⟩
      · exact iteF ⟨_, _, _, _, i, rfl, same, rfl, hi, hr0, hs0, hs1⟩
    · clear hd hi hr0 hs0 hs1
      rintro σ' H' ⟨i, r, sd, x2, i', rfl, rfl, rfl, hi, hr0, hs0, hs1⟩
      have hcd : ∀ o, (upd H d o) c = some (.lst (ns.map V.int)) := fun o => by rw [upd_ne ncd]; exact hc
      refine ⟨_, rfl, d, _, 2, _, rfl, rfl, SqL.of upd_same, at2, _, _, rfl, rfl, _, rfl, ite2 (fun e => ?_) (fun e => ?_)⟩
      · refine ⟨_, rfl, d, _, 2, _, rfl, rfl, SqL.of upd_same, at2, .inl ⟨_, rfl, _, rfl, _, _, rfl, rfl, hm, ?_⟩⟩
        refine ⟨_, rfl, d, _, 2, _, rfl, rfl, SqL.of upd_same, at2, .inl ⟨_, rfl, _, rfl, _, _, rfl, rfl, bndW hm hb, _, rfl, d, _, 2, 2, rfl, rfl, upd_same, rfl, ?_⟩⟩
        rw [upd_upd]
        refine ⟨_, rfl, ?_⟩
        exact q _ _ But.upd ⟨ns, i', _, sd, ncd, upd_same, hcd _, hi, Int.ediv_nonneg hr0 (by omega), hs0, hs1⟩ (Int.emod_nonneg _ (by omega)) (Int.emod_lt_of_pos _ hm)
      · refine ⟨_, rfl, d, _, 3, _, rfl, rfl, SqL.of upd_same, at3, _, _, rfl, rfl, .inl ⟨by omega, by omega⟩, _, _, rfl, rfl, .inl ⟨_, rfl, _, _, rfl, rfl, (by show (0 : Int) < 2147483647; decide), _, rfl, d, _, 3, 3, rfl, rfl, upd_same, rfl, ?_⟩⟩
        rw [upd_upd]
        refine ⟨_, rfl, d, _, 3, _, rfl, rfl, SqL.of upd_same, at3, _, _, rfl, rfl, ⟨by decide, by decide⟩, .inl ⟨_, rfl, _, rfl, _, _, rfl, rfl, hm, ?_⟩⟩
        exact q _ _ But.upd ⟨ns, i', r, _, ncd, upd_same, hcd _, hi, hr0, Int.emod_nonneg _ (by decide), Int.emod_lt_of_pos _ (by decide)⟩ (Int.emod_nonneg _ (by omega)) (Int.emod_lt_of_pos _ hm)
def spSigned : Sp := fun vs H Q _ => ∃ (d c : Addr) (m : Int), vs = [.ref d, .int m] ∧ DrAt H d c ∧ 0 ≤ m ∧ Bnd (2 * m + 1) ∧
  ∀ H' v, But d H H' → DrAt H' d c → -m ≤ v → v ≤ m → Q (.int v) H'
theorem scS : FnScope ["d", "most"] ["d", "most"] (defScope sSigned) := ⟨rfl, rfl, rfl, by decide +kernel, rfl, by decide +kernel, by decide +kernel⟩
theorem ok_signed {f fT : Addr} {fd fdT : FuncData} (F : Fun K "_law_signed" "_law_signed" sSigned f fd) (GT : FnOk P w K mg base CX0 1 fT fdT ["d", "many"] spTake) (kT : PySem.W.keepIn K (.ref fT) = true) (bT : Binds K fdT ["d", "many"] []) (gT : mg "_law_take" = some (.ref fT)) : FnOk P w K mg base CX0 2 f fd ["d", "most"] spSigned := by
  refine F.ok scS (fun vs H Q E h => ?_) (fun cdv A outer s H vs Q E hr h => ?_)
  · obtain ⟨d, c, m, rfl, _⟩ := h
    rfl
  · obtain ⟨d, c, m, rfl, dr, h0, hb, q⟩ := h
    refine ⟨_, pss_one (ps_ret (pe_op op_sub (pe_call GT hr (by rfl) gT kT bT .nil pass0 (pa_cons (pv 0) (pa_cons (pe_op op_add (pe_op op_mul pe_int (pv 1)) pe_int) pa_nil))) (pv 1))), ?_⟩
    refine ⟨_, rfl, _, rfl, _, _, rfl, rfl, .inl ⟨by omega, by omega⟩, _, _, rfl, rfl, d, c, _, rfl, dr, by omega, hb, fun H' v k dr' v0 v1 => ?_⟩
    exact ⟨_, rfl, _, _, rfl, rfl, q _ _ k dr' (by omega) (by omega)⟩
end
/-! ### small facts -/
theorem same_upd {H : Hp} {p : Addr} {o : HO} (h : H p = none) : Same H (upd H p o) := fun b x e => by
  rw [upd_ne (ne_of_none e h)]
  exact e
theorem sqT_same {K : PySem.W.Frag} {H H' : Hp} {a : Addr} {xs : List V} (h : SqT K H a xs) (s : Same H H') : SqT K H' a xs := by
  rcases h with (h | ⟨o, h⟩) | h
  · exact .inl (.inl (s _ _ h))
  · exact .inl (.inr ⟨o, s _ _ h⟩)
  · exact .inr h
theorem sqL_same {K : PySem.W.Frag} {H H' : Hp} {a : Addr} {xs : List V} (h : SqL K H a xs) (s : Same H H') : SqL K H' a xs := by
  rcases h with (h | ⟨o, h⟩) | h
  · exact .inl (.inl (s _ _ h))
  · exact .inl (.inr ⟨o, s _ _ h⟩)
  · exact .inr h
theorem map_int_at {ns : List Int} {i : Nat} {x : V} (h : (ns.map V.int)[i]? = some x) : ∃ n, x = .int n ∧ ns[i]? = some n := by
  rw [List.getElem?_map] at h
  cases e : ns[i]? with
  | none => rw [e] at h; cases h
  | some n => rw [e] at h; exact ⟨n, (Option.some.inj h).symm, rfl⟩
theorem map_ref_at {ns : List Addr} {i : Nat} {x : V} (h : (ns.map V.ref)[i]? = some x) : ∃ n, x = .ref n ∧ ns[i]? = some n := by
  rw [List.getElem?_map] at h
  cases e : ns[i]? with
  | none => rw [e] at h; cases h
  | some n => rw [e] at h; exact ⟨n, (Option.some.inj h).symm, rfl⟩
theorem drop_at {α : Type} {l : List α} {i : Nat} {x : α} (h : l[i]? = some x) : l.drop i = x :: l.drop (i + 1) := by
  obtain ⟨hi, e⟩ := List.getElem?_eq_some_iff.mp h
  rw [List.drop_eq_getElem_cons hi, e]
theorem take_snoc {α : Type} {l : List α} {i : Nat} {x : α} (h : l[i]? = some x) : l.take (i + 1) = l.take i ++ [x] := by
  rw [List.take_add_one, h]
  rfl
theorem txt_len (a b : Str) : (a ++ b).length = a.length + b.length := PySem.Str.length_append a b
theorem bnd_le {m : Int} (h : m ≤ 1000000) : Bnd m := by
  unfold Bnd
  have : (1000000 : Int) < 2 ^ 400 := by decide +kernel
  omega
theorem keepD {d b : Addr} {H H' : Hp} {o : HO} (k : But d H H') (h : b ≠ d) (hb : H b = some o) : H' b = some o := by rw [k b h]; exact hb
theorem atI_zero {α : Type} {x : α} {xs : List α} : atI (x :: xs) (0 : Int) = some x := by
  show ((if (0 : Int) ≤ 0 then (if (0 : Int) < ((x :: xs).length : Int) then some (Int.toNat 0) else none) else _).bind _) = _
  rw [if_pos (Int.le_refl 0), if_pos (by rw [List.length_cons]; omega)]
  rfl
section
open PySem.Spec PyProof.Rows
variable {X : Cx}
/-- a block with a wish of its own about exceptions -/
abbrev blkW (X : Cx) (s : Shared) (H : Hp) (sc : Scope) (ce : Env) (fp : List Addr) (W : Value → Shared → Prop) : Cx := (X.blk s H sc ce fp).wish W
/-- an exception of a call within the block goes out of the comprehension into the def's air -/
theorem blk_out {E : XK} {pins pinsB : List (Addr × Obj)} {σ σB : L2.St} {H3 HB : Hp} {s3 sB s' : Shared} {sc : Scope} {ce : Env} {fp : List Addr} {W : Value → Shared → Prop} {u : Value}
    (hs : X.stack = X.env :: X.outer) (hf : X.env.frame = some X.env.locals) (tk : Takes X (fun c d _ H => E c d H)) (I3 : L2.Inv X pins σ H3 s3) (hfr : ce.frame = X.env.frame) (hC : ce.locals = s3.heap.objs.size)
    (hfp : ∀ b ∈ fp, FpOk X pins H3 b) (IB : L2.Inv (blkW X s3 H3 sc ce fp W) pinsB σB HB sB) (c : L2.CX X.prog X.w X.stack HB sB E u s') :
    notedBy (model X.prog X.w) X.A ce (CompFails (model X.prog X.w) X.A X.xe ce) u s' := by
  obtain ⟨a, B, H', cls, d, rfl, fl, hok, ub, na, os, ag, hE⟩ := c
  have hF : X.A.frames = some (X.env :: X.outer) := by rw [I3.ok.frames, hs]
  have IBb : Un (frs X.stack) fp H3 HB s3.heap sB.heap := IB.base
  -- the block's names
  obtain ⟨mC, hnC, _⟩ := id IB.loc
  have hnC : sB.heap.Ns ce.locals mC := hnC
  obtain ⟨oC, eC, pC, goC, dC, rC⟩ := id hnC
  have fC : HB ce.locals = none := IB.free
  have nfC : ce.locals ∉ frs X.stack := fun hm => by
    obtain ⟨_, o, ho, _⟩ := I3.stack.mem hm
    have := Heap.lt_size ho
    rw [hC] at this
    exact Nat.lt_irrefl _ this
  have gBC : B.get? ce.locals = some oC := ub.keep _ _ goC fC nfC
  have fC' : H' ce.locals = none := ub.free _ _ goC fC
  have nsC : s'.heap.Ns ce.locals mC := ⟨oC, eC, pC, fl.1 _ _ gBC, dC, rC⟩
  show wpAny _ _ (noteFrame (.ref a) ce) _ _ _
  rw [noteFrame_env _ hfr]
  refine HandSPX.looks_onZ Zc.steady hF hf (by rw [← hs]; exact fl) fun h1 hh1 up1 => ?_
  have nsC1 : h1.Ns ce.locals mC := nsC.upToSlots up1
  refine ⟨mC, nsC1, fun h2 m2 hn2 sb2 => ?_⟩
  obtain ⟨st1, na1, ff1, oe, vs, T, oT, ts, he, hz, hd, hv1, hnT, hTe, hT, hdT, hfl⟩ := hh1
  obtain ⟨o1, _, _, go1, d1, _⟩ := id nsC1
  have aC : a ≠ ce.locals := fun z => by
    rw [z, go1] at he
    cases he
    rw [d1] at hd
    cases hd
  have TC : T ≠ ce.locals := fun z => by
    rw [z, go1] at hT
    cases hT
    rw [d1] at hdT
    cases hdT
  -- the ground without the block's names
  have hh2 : HandSPX.HeldZ (PySem.W.hideAll B [ce.locals]) (X.env :: X.outer) a (Zc cls d) X.env.locals h2 := by
    refine ⟨fun b o e => ?_, ?_, ?_, oe, vs, T, oT, ts, (sb2.2 _ aC).trans he, hz, hd, hv1, ?_, hTe, (sb2.2 _ TC).trans hT, hdT, hfl⟩
    · have e' := PySem.W.of_hideAll _ e
      have ne : b ≠ ce.locals := fun z => by
        rw [z, PySem.W.hideAll_none _ (List.mem_singleton.mpr rfl)] at e
        cases e
      exact (sb2.2 b ne).trans (st1 b o e')
    · cases q : (PySem.W.hideAll B [ce.locals]).get? a with
      | none => rfl
      | some o =>
        have z := PySem.W.of_hideAll _ q
        rw [na1] at z
        cases z
    · refine Heap.FunFrames.sameBut sb2 hn2 (funFrames_none ff1 fun L hL => ?_)
      cases q : (PySem.W.hideAll B [ce.locals]).get? L with
      | none => rfl
      | some o =>
        have z := PySem.W.of_hideAll _ q
        rw [(ff1.mem hL).1] at z
        cases z
    · cases q : (PySem.W.hideAll B [ce.locals]).get? T with
      | none => rfl
      | some o =>
        have z := PySem.W.of_hideAll _ q
        rw [hnT] at z
        cases z
  unfold PySem.passOn
  refine wpAny_bind (wpAny_field ((sb2.2 _ aC).trans he) hd hv1 ?_)
  rw [if_neg (show ¬ ((Value.ref T == Value.none) = true) from by simp)]
  have fin : wpAny (model X.prog X.w) X.A (setFlight (.ref a) ce.frame) (fun _ s4 => wpAny (model X.prog X.w) X.A (throw (.ref a) : Sem Value) (fun _ _ => False) X.xe s4) X.xe { s' with heap := h2 } := by
    rw [hfr, hf]
    refine HandSPX.setFlight_onZ hh2 fun h3 hh3 up3 => wpAny_throw (tk _ _ ?_)
    -- what stays from the call on
    have on3 : ∀ b o, b ≠ ce.locals → B.get? b = some o → h3.get? b = some o := fun b o ne e => hh3.1 b o (PySem.W.hideAll_get _ e fun hm => ne (List.mem_singleton.mp hm))
    obtain ⟨o2, _, _, go2, d2, _⟩ := id hn2
    obtain ⟨sl3, go3⟩ := up3 _ o2 go2 fun vs q => by rw [d2] at q; cases q
    obtain ⟨G, g1, g2⟩ := restrict h3 fun b => (B.get? b).isSome || decide (b ∈ frs X.stack)
    obtain ⟨D, e1, e2⟩ := restrict h3 fun b => (B.get? b).isSome
    have gB : ∀ b o, b ≠ ce.locals → B.get? b = some o → G.get? b = some o := fun b o ne e => by
      rw [g1 b (by simp [e])]
      exact on3 b o ne e
    have gF : ∀ b, b ∈ frs X.stack → G.get? b = h3.get? b := fun b hb => g1 b (by simp [hb])
    have og : ∀ b o, G.get? b = some o → h3.get? b = some o ∧ ((B.get? b).isSome = true ∨ b ∈ frs X.stack) := fun b o e => by
      cases q : ((B.get? b).isSome || decide (b ∈ frs X.stack)) with
      | false =>
        rw [g2 b q] at e
        cases e
      | true =>
        rw [g1 b q] at e
        exact ⟨e, by simpa [Bool.or_eq_true] using q⟩
    have dn : ∀ b, B.get? b = none → D.get? b = none := fun b e => e2 b (by rw [e]; rfl)
    have below : ∀ b o, s3.heap.get? b = some o → b ≠ ce.locals := fun b o e z => by
      have := Heap.lt_size e
      rw [z, hC] at this
      exact Nat.lt_irrefl _ this
    have slots : ∀ b o, b ∈ frs X.stack → s3.heap.get? b = some o → ∃ sl, h3.get? b = some { o with slots := sl } := fun b o hb e => by
      obtain ⟨_, o0, e0, hnf⟩ := I3.stack.mem hb
      rw [e] at e0
      cases e0
      obtain ⟨sl1, q1⟩ := IBb.slot b o e (I3.stkFree b hb) hb fun z => by
        rcases List.mem_cons.mp (I3.stkSub b hb) with y | y
        · exact (hfp b z).2.1 y
        · exact (hfp b z).2.2.1 y
      obtain ⟨sl2, q2⟩ := ub.slot b _ q1 hb
      obtain ⟨sl4, q4⟩ := up1 b _ q2 hnf
      have q5 := (sb2.2 b (below b o e)).trans q4
      obtain ⟨sl6, q6⟩ := up3 b _ q5 hnf
      exact ⟨sl6, q6⟩
    refine ⟨a, D, { sB with heap := G, gens := s'.gens, drawn := s'.drawn, toks := s'.toks }, pins, σ, H', cls, d, rfl, ?_, fun b o e hb => ?_, Heap.UpToSlots.of_keeps fun b o e => (og b o e).1, .inr (.inr ?_), na, os, ag, hE⟩
    · refine I3.call' (ch := fp) IB.os ⟨fun b o e n hb hx => ?_, fun b o e n hb hx => ?_, fun b o e n hx => ?_, fun b o e hx => ?_, fun b xs e => ub.tups b xs (IBb.tups b xs e), fun b o xs e => ub.frzs b o xs (IBb.frzs b o xs e), fun b ps e => ?_⟩ ?_ ag
        fun b hb => ⟨(hfp b hb).2.2.2.1, (hfp b hb).2.1, (hfp b hb).2.2.2.2.1, (hfp b hb).2.2.2.2.2⟩
      · exact gB b o (below b o e) (ub.keep b o (IBb.keep b o e n hb hx) (IBb.free b o e n hx) hb)
      · obtain ⟨sl, q⟩ := slots b o hb e
        exact ⟨sl, by rw [show ({ sB with heap := G, gens := s'.gens, drawn := s'.drawn, toks := s'.toks } : Shared).heap = G from rfl, gF b hb]; exact q⟩
      · obtain ⟨o', q⟩ := IBb.there b o e hx
        exact ub.free b o' q (IBb.free b o e n hx)
      · by_cases hb : b ∈ frs X.stack
        · obtain ⟨sl, q⟩ := slots b o hb e
          exact ⟨_, by rw [show ({ sB with heap := G, gens := s'.gens, drawn := s'.drawn, toks := s'.toks } : Shared).heap = G from rfl, gF b hb]; exact q⟩
        · obtain ⟨o', q⟩ := IBb.there b o e hx
          obtain ⟨o'', q2⟩ := ub.there b o' q hb
          exact ⟨o'', gB b o'' (below b o e) q2⟩
      · obtain ⟨m1, q1⟩ := IBb.tbls b ps e
        obtain ⟨m2', q2⟩ := ub.tbls b _ q1
        exact ⟨m1 ++ m2', by rw [q2, Array.append_assoc]⟩
      · exact fun b ob q => (hok b ob q).stay (fun c v hc r => gB c v (fun z => by
          rcases hc with hc | hc
          · rw [← hc, z, fC'] at q
            cases q
          · rw [z, fC'] at hc
            cases hc) r) (fun _ r => r) fun _ _ r => r
    · obtain ⟨e', h⟩ := og b o e
      rcases h with h | h
      · rw [e1 b h]
        exact e'
      · exact absurd h hb
    · obtain ⟨_, _, ff3, oe3, vs3, T3, oT3, ts3, he3, hz3, hd3, hv3, hnT3, hTe3, hT3, hdT3, hfl3⟩ := hh3
      rw [hs]
      refine ⟨fun b o e => ?_, dn a na1, funFrames_none ff3 fun L hL => dn L (ff1.mem hL).1, oe3, vs3, T3, oT3, ts3, he3, hz3, hd3, hv3, dn T3 ?_, hTe3, hT3, hdT3, hfl3⟩
      · cases q : (B.get? b).isSome with
        | false =>
          rw [e2 b q] at e
          cases e
        | true =>
          rw [e1 b q] at e
          exact e
      · cases q : B.get? T3 with
        | none => rfl
        | some o =>
          have ne : T3 ≠ ce.locals := fun z => by
            rw [z, go3] at hT3
            cases hT3
            have : o2.data = .fields ts3 := hdT3
            rw [d2] at this
            cases this
          rw [PySem.W.hideAll_get _ q fun hm => ne (List.mem_singleton.mp hm)] at hnT3
          cases hnT3
  first
    | exact wpAny_bind (wpAny_pure (wpAny_bind fin))
    | exact wpAny_bind fin
end
section
open PySem.Spec PyProof.Rows
variable {X : Cx}
/-- a comprehension whose element may raise: the block runs with a wish of its own, which the def's wish fulfils -/
theorem lc_coreX {E : XK} {pins : List (Addr × Obj)} {s : Shared} {σ : L2.St} {H : Hp} {Q : VK} {elt tg iter : Expr} {ifs : List Expr} {scope : Scope} {own : List (Str × Nat)} {pos pos' : Pos} {wi : TI} {g : TG} {tt : TT} {te : TE} {use : Option (Value → Sem Unit)} {Qf : Value → Shared → Prop}
    (hs : X.stack = X.env :: X.outer) (hf : X.env.frame = some X.env.locals) (tk : Takes X (fun c d _ H => E c d H)) (hc : X.calm = true) (hN : X.N.Nodup) (I : L2.Inv X pins σ H s) (hi : PI X tg iter wi) (ok : BlkOk X.N X.env.scope scope own)
    (hg : ∀ (s : Shared) (H : Hp) (C : Addr) (cl : List (Str × Addr)) (fp : List Addr) (W : Value → Shared → Prop), PG (blkW X s H scope (compEnvC scope cl C X.env) fp W) tg g)
    (ht : ∀ (s : Shared) (H : Hp) (C : Addr) (cl : List (Str × Addr)) (fp : List Addr) (W : Value → Shared → Prop), PTs (blkW X s H scope (compEnvC scope cl C X.env) fp W) ifs tt)
    (he : ∀ (s : Shared) (H : Hp) (C : Addr) (cl : List (Str × Addr)) (fp : List Addr) (W : Value → Shared → Prop), (∀ σ, PassesAt (L2.CX X.prog X.w) (blkW X s H scope (compEnvC scope cl C X.env) fp W) σ E) → PE (blkW X s H scope (compEnvC scope cl C X.env) fp W) elt te)
    (hfo : ∀ x, foldedSetIterable iter X.env x = pure x) (h : tLc wi g tt te (own.map (·.2)) σ H Q)
    (hend : ∀ (D : Addr) (s' : Shared) (m : Str → Option Value) (H' : Hp) (ce : Env), L2.Inv X pins σ H' s' → Q (.ref D) H' → s'.heap.Ns ce.locals m → FpOk X pins H' ce.locals → compEnds (model X.prog X.w) X.A X.xe use Qf (.ref D) ce (.ok .next) s') :
    wpAny (model X.prog X.w) X.A (comprehension (.ListComp elt [⟨tg, iter, ifs, 0⟩] scope pos) scope X.env pos' (newList []) false (eval iter X.env) use) Qf X.xe s := by
  have clo : ∀ y ∈ scope.names, y.2 = .free → ∃ c, X.env.cells.lookup y.1 = some c := fun y hy e => (ok.free y hy e).elim (fun k => I.ok.has _ (.inl k)) fun k => I.ok.has _ (.inr k)
  refine comprehension_at (use := use) rfl hfo (closure_ok clo) ok.kind (fun y hy e => (ok.uniq y hy).trans (congrArg some e)) (thn (hi.run pins s σ H _ I h) fun xv s1 hx => thn hx fun itv s2 h2 => ?_)
  obtain ⟨it, fp, tn, J, H2, e, I2, T, st2, f2, q⟩ := h2
  subst e
  refine wpAny_newObj_type (newEnv_comp ?_) (by show 0 ≤ sizeLine; decide)
  generalize eD : s2.heap.objs.size = D
  obtain ⟨P, ⟨m0, p0⟩, turn⟩ := q D (I2.hok.fresh (Nat.le_of_eq eD))
  generalize eb : ({ s2 with heap := s2.heap.push { cls := .type "list", data := .seq ([] : List Value).toArray } } : Shared) = sb
  have hb : sb.heap = s2.heap.push { cls := .type "list", data := .seq ([] : List Value).toArray } := by rw [← eb]
  have Ib : L2.Inv X pins σ (upd H2 D (.lst [])) sb := by
    rw [← eb]
    refine I2.laid (t' := s2.toks) (fun b o e => Heap.get?_push_of_some _ e) (Nat.le_of_eq eD) ⟨Nat.zero_le _, [], 0, .nil, ?_⟩
    rw [← eD]
    exact Heap.get?_push_size _ rfl
  have fb : ∀ b ∈ fp, FpOk X pins (upd H2 D (.lst [])) b ∧ b < sb.heap.objs.size := fun b hm => by
    obtain ⟨o, e, _⟩ := T.obj _ _ st2 b hm
    have lt := Heap.lt_size e
    refine ⟨⟨?_, (f2 b hm).2⟩, by rw [hb, Heap.size_push]; exact Nat.lt_succ_of_lt lt⟩
    rw [upd_ne (by rw [← eD]; exact Nat.ne_of_lt lt)]
    exact (f2 b hm).1
  have stb : tn 0 sb.heap := T.keep _ _ _ st2 fun b _ o e => by rw [hb]; exact Heap.get?_push_of_some _ e
  have Ic := block_start Ib ok hN fb
  have PGt := hg sb (upd H2 D (.lst [])) sb.heap.objs.size (cellsFrom (sb.heap.objs.size + 1) scope.names (cloFrom X.env.cells scope.names [])) fp
  have PTt := ht sb (upd H2 D (.lst [])) sb.heap.objs.size (cellsFrom (sb.heap.objs.size + 1) scope.names (cloFrom X.env.cells scope.names [])) fp
  have PEt := he sb (upd H2 D (.lst [])) sb.heap.objs.size (cellsFrom (sb.heap.objs.size + 1) scope.names (cloFrom X.env.cells scope.names [])) fp
  show codeAny _ _ (.compStart (.ListComp elt [⟨tg, iter, ifs, 0⟩] scope pos) 0 (.ref it) (.ref D) (compEnvC scope (cellsFrom (sb.heap.objs.size + 1) scope.names (cloFrom X.env.cells scope.names [])) sb.heap.objs.size X.env)) (compEnds (model X.prog X.w) X.A X.xe use Qf (.ref D) (compEnvC scope (cellsFrom (sb.heap.objs.size + 1) scope.names (cloFrom X.env.cells scope.names [])) sb.heap.objs.size X.env)) { sb with heap := pushCells (sb.heap.push { cls := .type "dict", data := .dict #[] }) scope.names }
  have nfb : ∀ b ∈ fp, (upd H2 D (.lst [])) b = none := fun b hm => (fb b hm).1.1
  generalize ec : compEnvC scope (cellsFrom (sb.heap.objs.size + 1) scope.names (cloFrom X.env.cells scope.names [])) sb.heap.objs.size X.env = ce at Ic PGt PTt PEt ⊢
  have cL : ce.locals = sb.heap.objs.size := by subst ec; rfl
  have cF : ce.frame = X.env.frame := by subst ec; rfl
  generalize eH : upd H2 D (.lst []) = Hb at Ib Ic PGt PTt PEt p0 nfb fb
  generalize eS : ({ sb with heap := pushCells (sb.heap.push { cls := .type "dict", data := .dict #[] }) scope.names } : Shared) = sc at Ic ⊢
  have stc : tn 0 sc.heap := T.keep _ _ _ stb fun b _ o e => by rw [← eS]; exact pushCells_keeps _ _ _ _ (Heap.get?_push_of_some _ e)
  -- the block's wish
  generalize eW : notedBy (model X.prog X.w) X.A ce (CompFails (model X.prog X.w) X.A X.xe ce) = W
  have pass : ∀ σ', PassesAt (L2.CX X.prog X.w) (blkW X sb Hb scope ce fp W) σ' E := fun σ' pinsB HB sB u s' IB cx => by
    show W u s'
    rw [← eW]
    exact blk_out hs hf tk Ib cF cL (fun b hm => (fb b hm).1) IB cx
  have PGt := PGt W
  have PTt := PTt W
  have PEt := PEt W pass
  have stat : ∀ {σ' : L2.St} {H' : Hp} {s' : Shared}, L2.Inv (blkW X sb Hb scope ce fp W) [] σ' H' s' → (∀ b ∈ fp, H' b = none) → ∀ b ∈ fp, FpOk (blkW X sb Hb scope ce fp W) [] H' b := fun {σ' H' s'} I' hn b hm =>
    ⟨hn b hm, (I'.ok.exf b hm).1, I'.ok.exfs b hm, .inl hm, fun x c e => (I'.ok.exf b hm).2 x c e, fun p hp => absurd (show p ∈ ([] : List (Addr × Obj)) ++ [] from hp) (by simp)⟩
  have loop : codeAny (model X.prog X.w) X.A (.compLoop (.ListComp elt [⟨tg, iter, ifs, 0⟩] scope pos) 0 (.ref it) (.ref D) ce) (compEnds (model X.prog X.w) X.A X.xe use Qf (.ref D) ce) sc := by
    have eW' : notedBy (model X.prog X.w) X.A ce (fun e s' => compEnds (model X.prog X.w) X.A X.xe use Qf (.ref D) ce (.error e) s') = W := eW
    refine compLoop_any (fun n s' => ∃ i H', L2.Inv (blkW X sb Hb scope ce fp W) [] (wipe σ (own.map (·.2))) H' s' ∧ tn i s'.heap ∧ (∀ b ∈ fp, H' b = none) ∧ P i n H') ?_ m0 ⟨0, Hb, Ic.wish W, stc, nfb, p0⟩
    rw [eW']
    rintro n s5 ⟨i, H5, I5, st5, n5, p5⟩
    rcases turn i n H5 p5 with ⟨stop, qq⟩ | ⟨go, Nx, hNx, step⟩
    · refine thnF (T.done (blkW X sb Hb scope ce fp W) rfl rfl rfl hc i [] s5 _ H5 (fun _ _ => False) I5 (stat I5 n5) st5 stop) fun r s6 hr6 => ?_
      obtain ⟨hr, I6⟩ := hr6
      subst hr
      have I7 : L2.Inv X pins σ H5 s6 := Ib.call' (ch := fp) I6.os I6.base I6.hok I6.bare fun b hm => ⟨(fb b hm).1.2.2.2.1, (fb b hm).1.2.1, (fb b hm).1.2.2.2.2.1, (fb b hm).1.2.2.2.2.2⟩
      have nC : H5 ce.locals = none := I6.free
      obtain ⟨m, hn, _⟩ := I6.loc
      have hn : s6.heap.Ns ce.locals m := hn
      refine hend D s6 m H5 ce I7 qq hn ?_
      rw [cL] at nC ⊢
      exact Ib.fpOk (Nat.le_refl _) nC
    · refine thnF (T.item (blkW X sb Hb scope ce fp W) rfl rfl rfl hc i [] s5 _ H5 (fun _ _ => False) I5 (stat I5 n5) st5 go) fun r s6 hr6 => ?_
      obtain ⟨u, hr, h6⟩ := hr6
      subst hr
      refine thnF h6 fun _ s7 h7 => ?_
      obtain ⟨x, H7, I7, r7, y7, st7, n7⟩ := h7
      have I8 := I7.pinned (stat I7 n7) (T.obj _ _ st7)
      refine thn (PGt.run _ s7 _ H7 x u _ I8 r7 (step x H7 y7)) fun _ s8 h8 => ?_
      obtain ⟨σ8, H8, I9, hw8, q8⟩ := h8
      refine thn (PTt.run _ s8 σ8 H8 _ I9 q8) fun b s9 h9 => ?_
      obtain ⟨H9, I10, q9⟩ := h9
      have fin : ∀ {s' : Shared} {H' : Hp}, L2.Inv (blkW X sb Hb scope ce fp W) ([] ++ pinsAt fp s7.heap) σ8 H' s' → Nx H' → ∃ m, m < n ∧ ∃ i H', L2.Inv (blkW X sb Hb scope ce fp W) [] (wipe σ (own.map (·.2))) H' s' ∧ tn i s'.heap ∧ (∀ b ∈ fp, H' b = none) ∧ P i m H' := fun {s' H'} I' nx => by
        obtain ⟨m', hm, p'⟩ := hNx H' nx
        have pn : ∀ b ∈ fp, ∀ o, s7.heap.get? b = some o → s'.heap.get? b = some o ∧ H' b = none := fun b hm o e => by
          have z := I'.pin (b, o) (List.mem_append_right _ (List.mem_append_right _ (mem_pinsAt hm e)))
          exact ⟨z.1, z.2.1⟩
        refine ⟨m', hm, i + 1, H', (I'.unpinned (pins := [])).weak (by rw [← hw8, wipe_length]) (fun j v e => ?_), T.keep _ _ _ st7 fun b hm o e => (pn b hm o e).1, fun b hm => ?_, p'⟩
        · rw [← hw8] at e
          exact (wipe_some e).1
        · obtain ⟨o, e, _⟩ := T.obj _ _ st7 b hm
          exact (pn b hm o e).2
      cases b with
      | false =>
        simp only [Bool.false_eq_true, if_false] at q9 ⊢
        exact fin I10 q9
      | true =>
        simp only [if_true] at q9 ⊢
        refine thn (PEt.run _ s9 σ8 H9 _ I10 q9) fun z s10 h10 => ?_
        obtain ⟨yv, H10, I11, r10, acc, hD10, hz10, nx⟩ := h10
        exact app_ok (X := blkW X sb Hb scope ce fp W) I11 hD10 hz10 r10 fun s11 I12 => fin I12 nx
  exact codeAny_compStart_list loop (T.self X.A 0 _ _ _ stc loop)
/-- as a value -/
theorem pe_lcX {E : XK} {elt tg iter : Expr} {ifs : List Expr} {scope : Scope} {own : List (Str × Nat)} {pos : Pos} {wi : TI} {g : TG} {tt : TT} {te : TE} (hs : X.stack = X.env :: X.outer) (hf : X.env.frame = some X.env.locals) (tk : Takes X (fun c d _ H => E c d H)) (hc : X.calm = true) (hN : X.N.Nodup)
    (hi : PI X tg iter wi) (ok : BlkOk X.N X.env.scope scope own)
    (hg : ∀ (s : Shared) (H : Hp) (C : Addr) (cl : List (Str × Addr)) (fp : List Addr) (W : Value → Shared → Prop), PG (blkW X s H scope (compEnvC scope cl C X.env) fp W) tg g)
    (ht : ∀ (s : Shared) (H : Hp) (C : Addr) (cl : List (Str × Addr)) (fp : List Addr) (W : Value → Shared → Prop), PTs (blkW X s H scope (compEnvC scope cl C X.env) fp W) ifs tt)
    (he : ∀ (s : Shared) (H : Hp) (C : Addr) (cl : List (Str × Addr)) (fp : List Addr) (W : Value → Shared → Prop), (∀ σ, PassesAt (L2.CX X.prog X.w) (blkW X s H scope (compEnvC scope cl C X.env) fp W) σ E) → PE (blkW X s H scope (compEnvC scope cl C X.env) fp W) elt te)
    (hfo : ∀ x, foldedSetIterable iter X.env x = pure x := by intro _; rfl) :
    PE X (.ListComp elt [⟨tg, iter, ifs, 0⟩] scope pos) (tLc wi g tt te (own.map (·.2))) := by
  refine ⟨fun pins s σ H Q I h => ?_⟩
  rw [eval_ListComp]
  refine lc_coreX hs hf tk hc hN I hi ok hg ht he hfo h fun D s' m H' ce I' q hn f => ⟨m, hn, fun h'' sb => ?_⟩
  obtain ⟨f0, f1, f2, f3, f4, f5⟩ := f
  exact ⟨.ref D, H', I'.turned (t' := s'.toks) (fun b o hb e => (sb.2 b hb).trans e) f0 f1 f3 f4 f5, rfl, q⟩
end
section
open PySem.Spec PyProof.Rows
variable {X : Cx}
/-- an exception of a call within the block goes out of the comprehension into the def's air -/
theorem blk_outN {E : XK} {pins pinsB : List (Addr × Obj)} {σ σB : L2.St} {H3 HB : Hp} {s3 sB s' : Shared} {sc : Scope} {ce : Env} {fp : List Addr} {W : Value → Shared → Prop} {u : Value}
    (hs : X.stack = X.env :: X.outer) (hf : X.env.frame = some X.env.locals) (tk : L2N.Takes X (fun c d _ H => E c d H)) (I3 : L2.Inv X pins σ H3 s3) (hfr : ce.frame = X.env.frame) (hC : ce.locals = s3.heap.objs.size)
    (hfp : ∀ b ∈ fp, FpOk X pins H3 b) (IB : L2.Inv (blkW X s3 H3 sc ce fp W) pinsB σB HB sB) (c : L2N.CX X.prog X.w X.stack HB sB E u s') :
    notedBy (model X.prog X.w) X.A ce (CompFails (model X.prog X.w) X.A X.xe ce) u s' := by
  obtain ⟨a, B, H', cls, d, rfl, fl, hok, ub, na, os, ag, hE⟩ := c
  have hF : X.A.frames = some (X.env :: X.outer) := by rw [I3.ok.frames, hs]
  have IBb : Un (frs X.stack) fp H3 HB s3.heap sB.heap := IB.base
  -- the block's names
  obtain ⟨mC, hnC, _⟩ := id IB.loc
  have hnC : sB.heap.Ns ce.locals mC := hnC
  obtain ⟨oC, eC, pC, goC, dC, rC⟩ := id hnC
  have fC : HB ce.locals = none := IB.free
  have nfC : ce.locals ∉ frs X.stack := fun hm => by
    obtain ⟨_, o, ho, _⟩ := I3.stack.mem hm
    have := Heap.lt_size ho
    rw [hC] at this
    exact Nat.lt_irrefl _ this
  have gBC : B.get? ce.locals = some oC := ub.keep _ _ goC fC nfC
  have fC' : H' ce.locals = none := ub.free _ _ goC fC
  have nsC : s'.heap.Ns ce.locals mC := ⟨oC, eC, pC, fl.1 _ _ gBC, dC, rC⟩
  show wpAny _ _ (noteFrame (.ref a) ce) _ _ _
  rw [noteFrame_env _ hfr]
  refine PXN.looks_onZ L2N.Zn.steady hF hf (by rw [← hs]; exact fl) fun h1 hh1 up1 => ?_
  have nsC1 : h1.Ns ce.locals mC := nsC.upToSlots up1
  refine ⟨mC, nsC1, fun h2 m2 hn2 sb2 => ?_⟩
  obtain ⟨st1, na1, ff1, oe, vs, T, oT, ts, he, hz, hd, hv1, hnT, hTe, hT, hdT, hfl⟩ := hh1
  obtain ⟨o1, _, _, go1, d1, _⟩ := id nsC1
  have aC : a ≠ ce.locals := fun z => by
    rw [z, go1] at he
    cases he
    rw [d1] at hd
    cases hd
  have TC : T ≠ ce.locals := fun z => by
    rw [z, go1] at hT
    cases hT
    rw [d1] at hdT
    cases hdT
  -- the ground without the block's names
  have hh2 : HandSPX.HeldZ (PySem.W.hideAll B [ce.locals]) (X.env :: X.outer) a (L2N.Zn cls d) X.env.locals h2 := by
    refine ⟨fun b o e => ?_, ?_, ?_, oe, vs, T, oT, ts, (sb2.2 _ aC).trans he, hz, hd, hv1, ?_, hTe, (sb2.2 _ TC).trans hT, hdT, hfl⟩
    · have e' := PySem.W.of_hideAll _ e
      have ne : b ≠ ce.locals := fun z => by
        rw [z, PySem.W.hideAll_none _ (List.mem_singleton.mpr rfl)] at e
        cases e
      exact (sb2.2 b ne).trans (st1 b o e')
    · cases q : (PySem.W.hideAll B [ce.locals]).get? a with
      | none => rfl
      | some o =>
        have z := PySem.W.of_hideAll _ q
        rw [na1] at z
        cases z
    · refine Heap.FunFrames.sameBut sb2 hn2 (funFrames_none ff1 fun L hL => ?_)
      cases q : (PySem.W.hideAll B [ce.locals]).get? L with
      | none => rfl
      | some o =>
        have z := PySem.W.of_hideAll _ q
        rw [(ff1.mem hL).1] at z
        cases z
    · cases q : (PySem.W.hideAll B [ce.locals]).get? T with
      | none => rfl
      | some o =>
        have z := PySem.W.of_hideAll _ q
        rw [hnT] at z
        cases z
  unfold PySem.passOn
  refine wpAny_bind (wpAny_field ((sb2.2 _ aC).trans he) hd hv1 ?_)
  rw [if_neg (show ¬ ((Value.ref T == Value.none) = true) from by simp)]
  have fin : wpAny (model X.prog X.w) X.A (setFlight (.ref a) ce.frame) (fun _ s4 => wpAny (model X.prog X.w) X.A (throw (.ref a) : Sem Value) (fun _ _ => False) X.xe s4) X.xe { s' with heap := h2 } := by
    rw [hfr, hf]
    refine HandSPX.setFlight_onZ hh2 fun h3 hh3 up3 => wpAny_throw (tk _ _ ?_)
    -- what stays from the call on
    have on3 : ∀ b o, b ≠ ce.locals → B.get? b = some o → h3.get? b = some o := fun b o ne e => hh3.1 b o (PySem.W.hideAll_get _ e fun hm => ne (List.mem_singleton.mp hm))
    obtain ⟨o2, _, _, go2, d2, _⟩ := id hn2
    obtain ⟨sl3, go3⟩ := up3 _ o2 go2 fun vs q => by rw [d2] at q; cases q
    obtain ⟨G, g1, g2⟩ := restrict h3 fun b => (B.get? b).isSome || decide (b ∈ frs X.stack)
    obtain ⟨D, e1, e2⟩ := restrict h3 fun b => (B.get? b).isSome
    have gB : ∀ b o, b ≠ ce.locals → B.get? b = some o → G.get? b = some o := fun b o ne e => by
      rw [g1 b (by simp [e])]
      exact on3 b o ne e
    have gF : ∀ b, b ∈ frs X.stack → G.get? b = h3.get? b := fun b hb => g1 b (by simp [hb])
    have og : ∀ b o, G.get? b = some o → h3.get? b = some o ∧ ((B.get? b).isSome = true ∨ b ∈ frs X.stack) := fun b o e => by
      cases q : ((B.get? b).isSome || decide (b ∈ frs X.stack)) with
      | false =>
        rw [g2 b q] at e
        cases e
      | true =>
        rw [g1 b q] at e
        exact ⟨e, by simpa [Bool.or_eq_true] using q⟩
    have dn : ∀ b, B.get? b = none → D.get? b = none := fun b e => e2 b (by rw [e]; rfl)
    have below : ∀ b o, s3.heap.get? b = some o → b ≠ ce.locals := fun b o e z => by
      have := Heap.lt_size e
      rw [z, hC] at this
      exact Nat.lt_irrefl _ this
    have slots : ∀ b o, b ∈ frs X.stack → s3.heap.get? b = some o → ∃ sl, h3.get? b = some { o with slots := sl } := fun b o hb e => by
      obtain ⟨_, o0, e0, hnf⟩ := I3.stack.mem hb
      rw [e] at e0
      cases e0
      obtain ⟨sl1, q1⟩ := IBb.slot b o e (I3.stkFree b hb) hb fun z => by
        rcases List.mem_cons.mp (I3.stkSub b hb) with y | y
        · exact (hfp b z).2.1 y
        · exact (hfp b z).2.2.1 y
      obtain ⟨sl2, q2⟩ := ub.slot b _ q1 hb
      obtain ⟨sl4, q4⟩ := up1 b _ q2 hnf
      have q5 := (sb2.2 b (below b o e)).trans q4
      obtain ⟨sl6, q6⟩ := up3 b _ q5 hnf
      exact ⟨sl6, q6⟩
    refine ⟨a, D, { sB with heap := G, gens := s'.gens, drawn := s'.drawn, toks := s'.toks }, pins, σ, H', cls, d, rfl, ?_, fun b o e hb => ?_, Heap.UpToSlots.of_keeps fun b o e => (og b o e).1, .inr (.inr ?_), na, os, ag, hE⟩
    · refine I3.call' (ch := fp) IB.os ⟨fun b o e n hb hx => ?_, fun b o e n hb hx => ?_, fun b o e n hx => ?_, fun b o e hx => ?_, fun b xs e => ub.tups b xs (IBb.tups b xs e), fun b o xs e => ub.frzs b o xs (IBb.frzs b o xs e), fun b ps e => ?_⟩ ?_ ag
        fun b hb => ⟨(hfp b hb).2.2.2.1, (hfp b hb).2.1, (hfp b hb).2.2.2.2.1, (hfp b hb).2.2.2.2.2⟩
      · exact gB b o (below b o e) (ub.keep b o (IBb.keep b o e n hb hx) (IBb.free b o e n hx) hb)
      · obtain ⟨sl, q⟩ := slots b o hb e
        exact ⟨sl, by rw [show ({ sB with heap := G, gens := s'.gens, drawn := s'.drawn, toks := s'.toks } : Shared).heap = G from rfl, gF b hb]; exact q⟩
      · obtain ⟨o', q⟩ := IBb.there b o e hx
        exact ub.free b o' q (IBb.free b o e n hx)
      · by_cases hb : b ∈ frs X.stack
        · obtain ⟨sl, q⟩ := slots b o hb e
          exact ⟨_, by rw [show ({ sB with heap := G, gens := s'.gens, drawn := s'.drawn, toks := s'.toks } : Shared).heap = G from rfl, gF b hb]; exact q⟩
        · obtain ⟨o', q⟩ := IBb.there b o e hx
          obtain ⟨o'', q2⟩ := ub.there b o' q hb
          exact ⟨o'', gB b o'' (below b o e) q2⟩
      · obtain ⟨m1, q1⟩ := IBb.tbls b ps e
        obtain ⟨m2', q2⟩ := ub.tbls b _ q1
        exact ⟨m1 ++ m2', by rw [q2, Array.append_assoc]⟩
      · exact fun b ob q => (hok b ob q).stay (fun c v hc r => gB c v (fun z => by
          rcases hc with hc | hc
          · rw [← hc, z, fC'] at q
            cases q
          · rw [z, fC'] at hc
            cases hc) r) (fun _ r => r) fun _ _ r => r
    · obtain ⟨e', h⟩ := og b o e
      rcases h with h | h
      · rw [e1 b h]
        exact e'
      · exact absurd h hb
    · obtain ⟨_, _, ff3, oe3, vs3, T3, oT3, ts3, he3, hz3, hd3, hv3, hnT3, hTe3, hT3, hdT3, hfl3⟩ := hh3
      rw [hs]
      refine ⟨fun b o e => ?_, dn a na1, funFrames_none ff3 fun L hL => dn L (ff1.mem hL).1, oe3, vs3, T3, oT3, ts3, he3, hz3, hd3, hv3, dn T3 ?_, hTe3, hT3, hdT3, hfl3⟩
      · cases q : (B.get? b).isSome with
        | false =>
          rw [e2 b q] at e
          cases e
        | true =>
          rw [e1 b q] at e
          exact e
      · cases q : B.get? T3 with
        | none => rfl
        | some o =>
          have ne : T3 ≠ ce.locals := fun z => by
            rw [z, go3] at hT3
            cases hT3
            have : o2.data = .fields ts3 := hdT3
            rw [d2] at this
            cases this
          rw [PySem.W.hideAll_get _ q fun hm => ne (List.mem_singleton.mp hm)] at hnT3
          cases hnT3
  first
    | exact wpAny_bind (wpAny_pure (wpAny_bind fin))
    | exact wpAny_bind fin
end
section
open PySem.Spec PyProof.Rows
variable {X : Cx}
/-- a comprehension whose element may raise: the block runs with a wish of its own, which the def's wish fulfils -/
theorem lc_coreN {E : XK} {pins : List (Addr × Obj)} {s : Shared} {σ : L2.St} {H : Hp} {Q : VK} {elt tg iter : Expr} {ifs : List Expr} {scope : Scope} {own : List (Str × Nat)} {pos pos' : Pos} {wi : TI} {g : TG} {tt : TT} {te : TE} {use : Option (Value → Sem Unit)} {Qf : Value → Shared → Prop}
    (hs : X.stack = X.env :: X.outer) (hf : X.env.frame = some X.env.locals) (tk : L2N.Takes X (fun c d _ H => E c d H)) (hc : X.calm = true) (hN : X.N.Nodup) (I : L2.Inv X pins σ H s) (hi : PI X tg iter wi) (ok : BlkOk X.N X.env.scope scope own)
    (hg : ∀ (s : Shared) (H : Hp) (C : Addr) (cl : List (Str × Addr)) (fp : List Addr) (W : Value → Shared → Prop), PG (blkW X s H scope (compEnvC scope cl C X.env) fp W) tg g)
    (ht : ∀ (s : Shared) (H : Hp) (C : Addr) (cl : List (Str × Addr)) (fp : List Addr) (W : Value → Shared → Prop), PTs (blkW X s H scope (compEnvC scope cl C X.env) fp W) ifs tt)
    (he : ∀ (s : Shared) (H : Hp) (C : Addr) (cl : List (Str × Addr)) (fp : List Addr) (W : Value → Shared → Prop), (∀ σ, PassesAt (L2N.CX X.prog X.w) (blkW X s H scope (compEnvC scope cl C X.env) fp W) σ E) → PE (blkW X s H scope (compEnvC scope cl C X.env) fp W) elt te)
    (hfo : ∀ x, foldedSetIterable iter X.env x = pure x) (h : tLc wi g tt te (own.map (·.2)) σ H Q)
    (hend : ∀ (D : Addr) (s' : Shared) (m : Str → Option Value) (H' : Hp) (ce : Env), L2.Inv X pins σ H' s' → Q (.ref D) H' → s'.heap.Ns ce.locals m → FpOk X pins H' ce.locals → compEnds (model X.prog X.w) X.A X.xe use Qf (.ref D) ce (.ok .next) s') :
    wpAny (model X.prog X.w) X.A (comprehension (.ListComp elt [⟨tg, iter, ifs, 0⟩] scope pos) scope X.env pos' (newList []) false (eval iter X.env) use) Qf X.xe s := by
  have clo : ∀ y ∈ scope.names, y.2 = .free → ∃ c, X.env.cells.lookup y.1 = some c := fun y hy e => (ok.free y hy e).elim (fun k => I.ok.has _ (.inl k)) fun k => I.ok.has _ (.inr k)
  refine comprehension_at (use := use) rfl hfo (closure_ok clo) ok.kind (fun y hy e => (ok.uniq y hy).trans (congrArg some e)) (thn (hi.run pins s σ H _ I h) fun xv s1 hx => thn hx fun itv s2 h2 => ?_)
  obtain ⟨it, fp, tn, J, H2, e, I2, T, st2, f2, q⟩ := h2
  subst e
  refine wpAny_newObj_type (newEnv_comp ?_) (by show 0 ≤ sizeLine; decide)
  generalize eD : s2.heap.objs.size = D
  obtain ⟨P, ⟨m0, p0⟩, turn⟩ := q D (I2.hok.fresh (Nat.le_of_eq eD))
  generalize eb : ({ s2 with heap := s2.heap.push { cls := .type "list", data := .seq ([] : List Value).toArray } } : Shared) = sb
  have hb : sb.heap = s2.heap.push { cls := .type "list", data := .seq ([] : List Value).toArray } := by rw [← eb]
  have Ib : L2.Inv X pins σ (upd H2 D (.lst [])) sb := by
    rw [← eb]
    refine I2.laid (t' := s2.toks) (fun b o e => Heap.get?_push_of_some _ e) (Nat.le_of_eq eD) ⟨Nat.zero_le _, [], 0, .nil, ?_⟩
    rw [← eD]
    exact Heap.get?_push_size _ rfl
  have fb : ∀ b ∈ fp, FpOk X pins (upd H2 D (.lst [])) b ∧ b < sb.heap.objs.size := fun b hm => by
    obtain ⟨o, e, _⟩ := T.obj _ _ st2 b hm
    have lt := Heap.lt_size e
    refine ⟨⟨?_, (f2 b hm).2⟩, by rw [hb, Heap.size_push]; exact Nat.lt_succ_of_lt lt⟩
    rw [upd_ne (by rw [← eD]; exact Nat.ne_of_lt lt)]
    exact (f2 b hm).1
  have stb : tn 0 sb.heap := T.keep _ _ _ st2 fun b _ o e => by rw [hb]; exact Heap.get?_push_of_some _ e
  have Ic := block_start Ib ok hN fb
  have PGt := hg sb (upd H2 D (.lst [])) sb.heap.objs.size (cellsFrom (sb.heap.objs.size + 1) scope.names (cloFrom X.env.cells scope.names [])) fp
  have PTt := ht sb (upd H2 D (.lst [])) sb.heap.objs.size (cellsFrom (sb.heap.objs.size + 1) scope.names (cloFrom X.env.cells scope.names [])) fp
  have PEt := he sb (upd H2 D (.lst [])) sb.heap.objs.size (cellsFrom (sb.heap.objs.size + 1) scope.names (cloFrom X.env.cells scope.names [])) fp
  show codeAny _ _ (.compStart (.ListComp elt [⟨tg, iter, ifs, 0⟩] scope pos) 0 (.ref it) (.ref D) (compEnvC scope (cellsFrom (sb.heap.objs.size + 1) scope.names (cloFrom X.env.cells scope.names [])) sb.heap.objs.size X.env)) (compEnds (model X.prog X.w) X.A X.xe use Qf (.ref D) (compEnvC scope (cellsFrom (sb.heap.objs.size + 1) scope.names (cloFrom X.env.cells scope.names [])) sb.heap.objs.size X.env)) { sb with heap := pushCells (sb.heap.push { cls := .type "dict", data := .dict #[] }) scope.names }
  have nfb : ∀ b ∈ fp, (upd H2 D (.lst [])) b = none := fun b hm => (fb b hm).1.1
  generalize ec : compEnvC scope (cellsFrom (sb.heap.objs.size + 1) scope.names (cloFrom X.env.cells scope.names [])) sb.heap.objs.size X.env = ce at Ic PGt PTt PEt ⊢
  have cL : ce.locals = sb.heap.objs.size := by subst ec; rfl
  have cF : ce.frame = X.env.frame := by subst ec; rfl
  generalize eH : upd H2 D (.lst []) = Hb at Ib Ic PGt PTt PEt p0 nfb fb
  generalize eS : ({ sb with heap := pushCells (sb.heap.push { cls := .type "dict", data := .dict #[] }) scope.names } : Shared) = sc at Ic ⊢
  have stc : tn 0 sc.heap := T.keep _ _ _ stb fun b _ o e => by rw [← eS]; exact pushCells_keeps _ _ _ _ (Heap.get?_push_of_some _ e)
  -- the block's wish
  generalize eW : notedBy (model X.prog X.w) X.A ce (CompFails (model X.prog X.w) X.A X.xe ce) = W
  have pass : ∀ σ', PassesAt (L2N.CX X.prog X.w) (blkW X sb Hb scope ce fp W) σ' E := fun σ' pinsB HB sB u s' IB cx => by
    show W u s'
    rw [← eW]
    exact blk_outN hs hf tk Ib cF cL (fun b hm => (fb b hm).1) IB cx
  have PGt := PGt W
  have PTt := PTt W
  have PEt := PEt W pass
  have stat : ∀ {σ' : L2.St} {H' : Hp} {s' : Shared}, L2.Inv (blkW X sb Hb scope ce fp W) [] σ' H' s' → (∀ b ∈ fp, H' b = none) → ∀ b ∈ fp, FpOk (blkW X sb Hb scope ce fp W) [] H' b := fun {σ' H' s'} I' hn b hm =>
    ⟨hn b hm, (I'.ok.exf b hm).1, I'.ok.exfs b hm, .inl hm, fun x c e => (I'.ok.exf b hm).2 x c e, fun p hp => absurd (show p ∈ ([] : List (Addr × Obj)) ++ [] from hp) (by simp)⟩
  have loop : codeAny (model X.prog X.w) X.A (.compLoop (.ListComp elt [⟨tg, iter, ifs, 0⟩] scope pos) 0 (.ref it) (.ref D) ce) (compEnds (model X.prog X.w) X.A X.xe use Qf (.ref D) ce) sc := by
    have eW' : notedBy (model X.prog X.w) X.A ce (fun e s' => compEnds (model X.prog X.w) X.A X.xe use Qf (.ref D) ce (.error e) s') = W := eW
    refine compLoop_any (fun n s' => ∃ i H', L2.Inv (blkW X sb Hb scope ce fp W) [] (wipe σ (own.map (·.2))) H' s' ∧ tn i s'.heap ∧ (∀ b ∈ fp, H' b = none) ∧ P i n H') ?_ m0 ⟨0, Hb, Ic.wish W, stc, nfb, p0⟩
    rw [eW']
    rintro n s5 ⟨i, H5, I5, st5, n5, p5⟩
    rcases turn i n H5 p5 with ⟨stop, qq⟩ | ⟨go, Nx, hNx, step⟩
    · refine thnF (T.done (blkW X sb Hb scope ce fp W) rfl rfl rfl hc i [] s5 _ H5 (fun _ _ => False) I5 (stat I5 n5) st5 stop) fun r s6 hr6 => ?_
      obtain ⟨hr, I6⟩ := hr6
      subst hr
      have I7 : L2.Inv X pins σ H5 s6 := Ib.call' (ch := fp) I6.os I6.base I6.hok I6.bare fun b hm => ⟨(fb b hm).1.2.2.2.1, (fb b hm).1.2.1, (fb b hm).1.2.2.2.2.1, (fb b hm).1.2.2.2.2.2⟩
      have nC : H5 ce.locals = none := I6.free
      obtain ⟨m, hn, _⟩ := I6.loc
      have hn : s6.heap.Ns ce.locals m := hn
      refine hend D s6 m H5 ce I7 qq hn ?_
      rw [cL] at nC ⊢
      exact Ib.fpOk (Nat.le_refl _) nC
    · refine thnF (T.item (blkW X sb Hb scope ce fp W) rfl rfl rfl hc i [] s5 _ H5 (fun _ _ => False) I5 (stat I5 n5) st5 go) fun r s6 hr6 => ?_
      obtain ⟨u, hr, h6⟩ := hr6
      subst hr
      refine thnF h6 fun _ s7 h7 => ?_
      obtain ⟨x, H7, I7, r7, y7, st7, n7⟩ := h7
      have I8 := I7.pinned (stat I7 n7) (T.obj _ _ st7)
      refine thn (PGt.run _ s7 _ H7 x u _ I8 r7 (step x H7 y7)) fun _ s8 h8 => ?_
      obtain ⟨σ8, H8, I9, hw8, q8⟩ := h8
      refine thn (PTt.run _ s8 σ8 H8 _ I9 q8) fun b s9 h9 => ?_
      obtain ⟨H9, I10, q9⟩ := h9
      have fin : ∀ {s' : Shared} {H' : Hp}, L2.Inv (blkW X sb Hb scope ce fp W) ([] ++ pinsAt fp s7.heap) σ8 H' s' → Nx H' → ∃ m, m < n ∧ ∃ i H', L2.Inv (blkW X sb Hb scope ce fp W) [] (wipe σ (own.map (·.2))) H' s' ∧ tn i s'.heap ∧ (∀ b ∈ fp, H' b = none) ∧ P i m H' := fun {s' H'} I' nx => by
        obtain ⟨m', hm, p'⟩ := hNx H' nx
        have pn : ∀ b ∈ fp, ∀ o, s7.heap.get? b = some o → s'.heap.get? b = some o ∧ H' b = none := fun b hm o e => by
          have z := I'.pin (b, o) (List.mem_append_right _ (List.mem_append_right _ (mem_pinsAt hm e)))
          exact ⟨z.1, z.2.1⟩
        refine ⟨m', hm, i + 1, H', (I'.unpinned (pins := [])).weak (by rw [← hw8, wipe_length]) (fun j v e => ?_), T.keep _ _ _ st7 fun b hm o e => (pn b hm o e).1, fun b hm => ?_, p'⟩
        · rw [← hw8] at e
          exact (wipe_some e).1
        · obtain ⟨o, e, _⟩ := T.obj _ _ st7 b hm
          exact (pn b hm o e).2
      cases b with
      | false =>
        simp only [Bool.false_eq_true, if_false] at q9 ⊢
        exact fin I10 q9
      | true =>
        simp only [if_true] at q9 ⊢
        refine thn (PEt.run _ s9 σ8 H9 _ I10 q9) fun z s10 h10 => ?_
        obtain ⟨yv, H10, I11, r10, acc, hD10, hz10, nx⟩ := h10
        exact app_ok (X := blkW X sb Hb scope ce fp W) I11 hD10 hz10 r10 fun s11 I12 => fin I12 nx
  exact codeAny_compStart_list loop (T.self X.A 0 _ _ _ stc loop)
/-- as a value -/
theorem pe_lcN {E : XK} {elt tg iter : Expr} {ifs : List Expr} {scope : Scope} {own : List (Str × Nat)} {pos : Pos} {wi : TI} {g : TG} {tt : TT} {te : TE} (hs : X.stack = X.env :: X.outer) (hf : X.env.frame = some X.env.locals) (tk : L2N.Takes X (fun c d _ H => E c d H)) (hc : X.calm = true) (hN : X.N.Nodup)
    (hi : PI X tg iter wi) (ok : BlkOk X.N X.env.scope scope own)
    (hg : ∀ (s : Shared) (H : Hp) (C : Addr) (cl : List (Str × Addr)) (fp : List Addr) (W : Value → Shared → Prop), PG (blkW X s H scope (compEnvC scope cl C X.env) fp W) tg g)
    (ht : ∀ (s : Shared) (H : Hp) (C : Addr) (cl : List (Str × Addr)) (fp : List Addr) (W : Value → Shared → Prop), PTs (blkW X s H scope (compEnvC scope cl C X.env) fp W) ifs tt)
    (he : ∀ (s : Shared) (H : Hp) (C : Addr) (cl : List (Str × Addr)) (fp : List Addr) (W : Value → Shared → Prop), (∀ σ, PassesAt (L2N.CX X.prog X.w) (blkW X s H scope (compEnvC scope cl C X.env) fp W) σ E) → PE (blkW X s H scope (compEnvC scope cl C X.env) fp W) elt te)
    (hfo : ∀ x, foldedSetIterable iter X.env x = pure x := by intro _; rfl) :
    PE X (.ListComp elt [⟨tg, iter, ifs, 0⟩] scope pos) (tLc wi g tt te (own.map (·.2))) := by
  refine ⟨fun pins s σ H Q I h => ?_⟩
  rw [eval_ListComp]
  refine lc_coreN hs hf tk hc hN I hi ok hg ht he hfo h fun D s' m H' ce I' q hn f => ⟨m, hn, fun h'' sb => ?_⟩
  obtain ⟨f0, f1, f2, f3, f4, f5⟩ := f
  exact ⟨.ref D, H', I'.turned (t' := s'.toks) (fun b o hb e => (sb.2 b hb).trans e) f0 f1 f3 f4 f5, rfl, q⟩
end
section
open PySem.Spec PyProof.Rows
variable {P : Program} {w : World} {K : PySem.W.Frag} {mg : Str → Option Value} {base : Heap}
/-- a def that may raise, of exceptions whose context is known to be None -/
theorem okXN {x qual : Str} {st : Stmt} {f : Addr} {fd : FuncData} {N ps : List Str} {k : Nat} {sp : Sp} (F : Fun K x qual st f fd) (S : FnScope N ps (defScope st)) (len : ∀ vs H Q E, sp vs H Q E → vs.length = ps.length)
    (hbody : ∀ (cdv : Value) (A : Around) (outer : List Env) (s : Shared) (H : Hp) (vs : List V) (Q : VK) (E : XK), Room k (A.deeper (envOfC qual (defScope st) s.heap.objs.size f cdv)) → sp vs H Q E →
      ∃ t, PSs (cxOf (L2N.CX P w) P w K mg base N qual (defScope st) f cdv A outer s H E) (defBody st) t ∧ t { nx := fun _ H' => Q .non H', rt := Q } (start N vs) H) : FnOk P w K mg base (L2N.CX P w) (k + 1) f fd ps sp := by
  obtain ⟨oc, od, kV, doc, pm, an, cdv, ct, osl, rfl, lk, hcd⟩ := F.ex
  exact fn_of lk hcd S len fun A outer s H vs Q E hr hsp => hbody cdv A outer s H vs Q E hr hsp
end
/-! ### words of a line -/
def wds : List Nat → List (List Nat)
  | [] => [[]]
  | c :: r => if c = 32 then [] :: wds r else (match wds r with | [] => [[c]] | w :: ws => (c :: w) :: ws)
theorem wds_cons (l : List Nat) : ∃ w ws, wds l = w :: ws := by
  cases l with
  | nil => exact ⟨_, _, rfl⟩
  | cons c r =>
    unfold wds
    by_cases h : c = 32
    · rw [if_pos h]
      exact ⟨_, _, rfl⟩
    · rw [if_neg h]
      cases e : wds r with
      | nil => exact ⟨_, _, rfl⟩
      | cons w ws => exact ⟨_, _, rfl⟩
theorem wds_sp (r : List Nat) : wds (32 :: r) = [] :: wds r := by
  show (if (32 : Nat) = 32 then _ else _) = _
  rw [if_pos rfl]
theorem wds_no {c : Nat} {r w : List Nat} {ws : List (List Nat)} (h : c ≠ 32) (e : wds r = w :: ws) : wds (c :: r) = (c :: w) :: ws := by
  show (if c = 32 then _ else _) = _
  rw [if_neg h, e]
theorem spl_wds : ∀ (l acc w : List Nat) (ws : List (List Nat)), wds l = w :: ws → TL.spl [32] 0 acc l = (acc ++ w) :: ws
  | [], acc, w, ws, e => by
    have e : ([[]] : List (List Nat)) = w :: ws := e
    obtain ⟨rfl, rfl⟩ := List.cons.inj e
    rw [TL.spl_nil, List.append_nil]
  | c :: r, acc, w, ws, e => by
    obtain ⟨w', ws', e'⟩ := wds_cons r
    by_cases h : c = 32
    · subst h
      rw [wds_sp] at e
      obtain ⟨rfl, rfl⟩ := List.cons.inj e
      rw [TL.spl_hit (by rfl), List.append_nil, e']
      rw [show ([32] : List Nat).length - 1 = 0 from rfl, spl_wds r [] w' ws' e', List.nil_append]
    · rw [wds_no h e'] at e
      obtain ⟨rfl, rfl⟩ := List.cons.inj e
      rw [TL.spl_miss (by
        show ([c] == [32]) = false
        simpa using h), spl_wds r (acc ++ [c]) w' ws' e', List.append_assoc]
      rfl
theorem spl_eq (l : List Nat) : TL.spl [32] 0 [] l = wds l := by
  obtain ⟨w, ws, e⟩ := wds_cons l
  rw [spl_wds l [] w ws e, List.nil_append, e]
theorem wds_free : ∀ (l : List Nat), ∀ w ∈ wds l, 32 ∉ w
  | [], w, h => by
    rw [List.mem_singleton.mp h]
    exact List.not_mem_nil
  | c :: r, w, h => by
    obtain ⟨w', ws', e'⟩ := wds_cons r
    by_cases hc : c = 32
    · subst hc
      rw [wds_sp] at h
      rcases List.mem_cons.mp h with h | h
      · rw [h]
        exact List.not_mem_nil
      · exact wds_free r w h
    · rw [wds_no hc e'] at h
      have ih := wds_free r
      rw [e'] at ih
      rcases List.mem_cons.mp h with h | h
      · rw [h]
        intro z
        rcases List.mem_cons.mp z with z | z
        · exact hc z.symm
        · exact ih w' List.mem_cons_self z
      · exact ih w (List.mem_cons_of_mem _ h)
theorem wds_join {ps : List (List Nat)} (h : ps ≠ []) (hf : ∀ p ∈ ps, 32 ∉ p) : wds (TL.joinL [32] ps) = ps := by
  rw [← spl_eq]
  exact TL.spl_join h hf
theorem wds_len : ∀ l : List Nat, (wds l).length = l.count 32 + 1
  | [] => rfl
  | c :: r => by
    obtain ⟨w', ws', e'⟩ := wds_cons r
    have ih := wds_len r
    by_cases h : c = 32
    · subst h
      rw [wds_sp, List.length_cons, ih, List.count_cons_self]
    · rw [wds_no h e', List.count_cons_of_ne h, ← ih, e']
      rfl
def wl : List Bool → List Nat
  | [] => [0]
  | b :: r => if b = true then 0 :: wl r else (match wl r with | [] => [1] | n :: ns => (n + 1) :: ns)
theorem wds_lens : ∀ l : List Nat, (wds l).map List.length = wl (l.map (· == 32))
  | [] => rfl
  | c :: r => by
    obtain ⟨w', ws', e'⟩ := wds_cons r
    have ih := wds_lens r
    rw [List.map_cons]
    unfold wl
    by_cases h : c = 32
    · subst h
      rw [wds_sp, List.map_cons, ih]
      rfl
    · rw [wds_no h e', if_neg (by simpa using h), ← ih, e']
      rfl
theorem join_two (S : List Nat) : ∀ (a b : List (List Nat)), a ≠ [] → b ≠ [] → TL.joinL S (a ++ b) = TL.joinL S a ++ (S ++ TL.joinL S b)
  | [], _, h, _ => absurd rfl h
  | [p], b, _, h => by
    cases b with
    | nil => exact absurd rfl h
    | cons q r => rfl
  | p :: q :: r, b, _, h => by
    show p ++ (S ++ TL.joinL S ((q :: r) ++ b)) = p ++ (S ++ TL.joinL S (q :: r)) ++ (S ++ TL.joinL S b)
    rw [join_two S (q :: r) b (List.cons_ne_nil _ _) h]
    simp only [List.append_assoc]
/-! ### the check number -/
def wsum : Nat → List Nat → Nat
  | _, [] => 0
  | k, c :: r => (k + 1) * c + wsum (k + 1) r
def chk (l : List Nat) : Nat := wsum 0 l % 65521
def wts : Nat → List Nat → List Int
  | _, [] => []
  | k, c :: r => (((k + 1) * c : Nat) : Int) :: wts (k + 1) r
theorem wts_len : ∀ (l : List Nat) (k : Nat), (wts k l).length = l.length
  | [], _ => rfl
  | _ :: r, k => congrArg (· + 1) (wts_len r (k + 1))
theorem wts_sum : ∀ (l : List Nat) (k : Nat), (wts k l).sum = ((wsum k l : Nat) : Int)
  | [], _ => rfl
  | c :: r, k => by
    show ((((k + 1) * c : Nat) : Int) :: wts (k + 1) r).sum = (((k + 1) * c + wsum (k + 1) r : Nat) : Int)
    rw [List.sum_cons, wts_sum r (k + 1), Int.natCast_add]
theorem wts_snoc : ∀ (l : List Nat) (k c : Nat), wts k (l ++ [c]) = wts k l ++ [(((k + l.length + 1) * c : Nat) : Int)]
  | [], _, _ => rfl
  | x :: r, k, c => by
    show (((k + 1) * x : Nat) : Int) :: wts (k + 1) (r ++ [c]) = (((k + 1) * x : Nat) : Int) :: (wts (k + 1) r ++ _)
    rw [wts_snoc r (k + 1) c, List.length_cons, show k + 1 + r.length + 1 = k + (r.length + 1) + 1 by omega]
theorem wsum_snoc : ∀ (l : List Nat) (k c : Nat), wsum k (l ++ [c]) = wsum k l + (k + l.length + 1) * c
  | [], k, c => by
    show (k + 1) * c + 0 = 0 + (k + 1) * c
    omega
  | x :: r, k, c => by
    show (k + 1) * x + wsum (k + 1) (r ++ [c]) = (k + 1) * x + wsum (k + 1) r + _
    rw [wsum_snoc r (k + 1) c, List.length_cons, show k + 1 + r.length + 1 = k + (r.length + 1) + 1 by omega]
    omega
theorem wsum_set : ∀ (l : List Nat) (k p c x : Nat), l[p]? = some x → wsum k (l.set p c) + (k + p + 1) * x = wsum k l + (k + p + 1) * c
  | [], _, _, _, _, h => by cases h
  | y :: r, k, 0, c, x, h => by
    have e : y = x := Option.some.inj h
    subst e
    show (k + 1) * c + wsum (k + 1) r + (k + 1) * y = (k + 1) * y + wsum (k + 1) r + (k + 1) * c
    omega
  | y :: r, k, p + 1, c, x, h => by
    have ih := wsum_set r (k + 1) p c x h
    rw [show k + 1 + p + 1 = k + (p + 1) + 1 by omega] at ih
    show (k + 1) * y + wsum (k + 1) (r.set p c) + _ = (k + 1) * y + wsum (k + 1) r + _
    omega
theorem cop : ∀ a, a < 3001 → 0 < a → Nat.gcd 65521 a = 1 := by decide +kernel
theorem chk_set {l : List Nat} {p c x : Nat} (h : l[p]? = some x) (hp : p < 3000) (hc : c < 300) (hx : x < 300) (hne : c ≠ x) : chk (l.set p c) ≠ chk l := by
  intro e
  unfold chk at e
  have h1 := wsum_set l 0 p c x h
  rw [Nat.zero_add] at h1
  generalize wsum 0 (l.set p c) = S' at *
  generalize wsum 0 l = S at *
  have hg := cop (p + 1) (by omega) (by omega)
  have key : ∀ u v : Nat, v ≤ u → u < 300 → ∀ A B : Nat, A + (p + 1) * v = B + (p + 1) * u → A % 65521 = B % 65521 → u = v := by
    intro u v hv hu A B h2 h3
    have h4 : A = B + (p + 1) * (u - v) := by
      rw [Nat.mul_sub]
      have := Nat.mul_le_mul_left (p + 1) hv
      omega
    have h5 : 65521 ∣ (p + 1) * (u - v) := by
      refine Nat.dvd_of_mod_eq_zero ?_
      subst h4
      omega
    have h6 : 65521 ∣ u - v := Nat.Coprime.dvd_of_dvd_mul_left (m := p + 1) hg h5
    have h7 : u - v = 0 := Nat.eq_zero_of_dvd_of_lt h6 (by omega)
    omega
  by_cases hcx : x ≤ c
  · exact hne (key c x hcx hc S' S h1 e)
  · exact hne (key x c (by omega) hx S S' h1.symm e.symm).symm
/-! ### a line of the journal -/
def rws : List (List Int) → List (List Nat)
  | [] => []
  | r :: rs => [59] :: (r.map txt ++ rws rs)
def jw (st : Int) (ws : List (List Int)) : List (List Nat) := [115, 116, 101, 112] :: txt st :: rws ws
def jt (st : Int) (ws : List (List Int)) : List Nat := TL.joinL [32] (jw st ws)
def chw : List Nat := [99, 104, 101, 99, 107]
def jl (st : Int) (ws : List (List Int)) : List Nat := jt st ws ++ (32 :: chw ++ (32 :: txt (chk (jt st ws))))
def rdw : List Nat → List (List Nat) → Option (List (List Int))
  | [], _ => some []
  | n :: ns, W => (((W.drop 1).take n).mapM num).bind fun r => (rdw ns (W.drop (1 + n))).map (r :: ·)
def rdl (sz : List Nat) (l : List Nat) : Option (Int × List (List Int)) :=
  if (wds l).length ≠ 4 + sz.length + sz.sum then none
  else (num ((wds l).getD 1 [])).bind fun st => (rdw sz ((wds l).drop 2)).bind fun ws => if st < 0 ∨ l ≠ jl st ws then none else some (st, ws)
theorem txt_free2 {n : Int} {s : Nat} (h : s ≠ 45) (h2 : s < 48 ∨ 57 < s) : s ∉ txt n := by
  unfold txt
  split
  · intro z
    rcases List.mem_cons.mp z with z | z
    · exact h z
    · exact TL.numL_free h2 z
  · exact TL.numL_free h2
theorem rws_free : ∀ (ws : List (List Int)), ∀ w ∈ rws ws, 32 ∉ w
  | [], _, h => by cases h
  | r :: rs, w, h => by
    rcases List.mem_cons.mp h with h | h
    · rw [h]
      decide
    · rcases List.mem_append.mp h with h | h
      · obtain ⟨n, _, rfl⟩ := List.mem_map.mp h
        exact txt_free2 (by decide) (by decide)
      · exact rws_free rs w h
theorem jw_free (st : Int) (ws : List (List Int)) : ∀ w ∈ jw st ws, 32 ∉ w := fun w h => by
  rcases List.mem_cons.mp h with h | h
  · rw [h]
    decide
  · rcases List.mem_cons.mp h with h | h
    · rw [h]
      exact txt_free2 (by decide) (by decide)
    · exact rws_free ws w h
theorem jl_join (st : Int) (ws : List (List Int)) : jl st ws = TL.joinL [32] (jw st ws ++ [chw, txt (chk (jt st ws))]) := by
  rw [join_two [32] (jw st ws) [chw, txt (chk (jt st ws))] (List.cons_ne_nil _ _) (List.cons_ne_nil _ _)]
  rfl
theorem jl_wds (st : Int) (ws : List (List Int)) : wds (jl st ws) = jw st ws ++ [chw, txt (chk (jt st ws))] := by
  rw [jl_join]
  refine wds_join (by simp [jw]) fun p hp => ?_
  rcases List.mem_append.mp hp with hp | hp
  · exact jw_free st ws p hp
  · rcases List.mem_cons.mp hp with hp | hp
    · rw [hp]
      decide
    · rw [List.mem_singleton.mp hp]
      exact txt_free2 (by decide) (by decide)
theorem rws_len : ∀ ws : List (List Int), (rws ws).length = ws.length + (ws.map List.length).sum
  | [] => rfl
  | r :: rs => by
    show (r.map txt ++ rws rs).length + 1 = _
    rw [List.length_append, List.length_map, rws_len rs, List.length_cons, List.map_cons, List.sum_cons]
    omega
theorem num_map : ∀ r : List Int, (r.map txt).mapM num = some r
  | [] => rfl
  | n :: r => by
    rw [List.map_cons, List.mapM_cons, num_txt, num_map r]
    rfl
theorem rdw_rws : ∀ (ws : List (List Int)) (rest : List (List Nat)), rdw (ws.map List.length) (rws ws ++ rest) = some ws
  | [], _ => rfl
  | r :: rs, rest => by
    show (((([59] :: (r.map txt ++ rws rs)) ++ rest).drop 1).take r.length |>.mapM num).bind _ = _
    have e1 : ((([59] :: (r.map txt ++ rws rs)) ++ rest).drop 1).take r.length = r.map txt := by
      show ((r.map txt ++ rws rs) ++ rest).take r.length = _
      rw [List.append_assoc, List.take_left' (by rw [List.length_map])]
    have e2 : (([59] :: (r.map txt ++ rws rs)) ++ rest).drop (1 + r.length) = rws rs ++ rest := by
      rw [Nat.add_comm]
      show ((r.map txt ++ rws rs) ++ rest).drop r.length = _
      rw [List.append_assoc, List.drop_left' (by rw [List.length_map])]
    rw [e1, num_map, Option.bind_some]
    show (rdw (rs.map List.length) ((([59] :: (r.map txt ++ rws rs)) ++ rest).drop (1 + r.length))).map _ = _
    rw [e2, rdw_rws rs rest]
    rfl
theorem jl_count (st : Int) (ws : List (List Int)) : (wds (jl st ws)).length = 4 + ws.length + (ws.map List.length).sum := by
  rw [jl_wds, List.length_append]
  show (rws ws).length + 1 + 1 + 2 = _
  rw [rws_len]
  omega
/-- what is written is read -/
theorem rdl_self {st : Int} {ws : List (List Int)} (h : 0 ≤ st) : rdl (ws.map List.length) (jl st ws) = some (st, ws) := by
  unfold rdl
  rw [if_neg (by rw [jl_count, List.length_map]; exact fun z => z rfl), jl_wds]
  show (num (txt st)).bind _ = _
  rw [num_txt, Option.bind_some]
  show (rdw (ws.map List.length) (rws ws ++ _)).bind _ = _
  rw [rdw_rws, Option.bind_some, if_neg]
  rintro (z | z)
  · omega
  · exact z rfl
theorem rdl_some {sz l : List Nat} {st : Int} {ws : List (List Int)} (h : rdl sz l = some (st, ws)) : (wds l).length = 4 + sz.length + sz.sum ∧ 0 ≤ st ∧ l = jl st ws := by
  unfold rdl at h
  by_cases h1 : (wds l).length ≠ 4 + sz.length + sz.sum
  · rw [if_pos h1] at h
    cases h
  · rw [if_neg h1] at h
    refine ⟨Classical.byContradiction h1, ?_⟩
    cases e1 : num ((wds l).getD 1 []) with
    | none =>
      rw [e1] at h
      cases h
    | some a =>
      rw [e1, Option.bind_some] at h
      cases e2 : rdw sz ((wds l).drop 2) with
      | none =>
        rw [e2] at h
        cases h
      | some b =>
        rw [e2, Option.bind_some] at h
        by_cases h2 : a < 0 ∨ l ≠ jl a b
        · rw [if_pos h2] at h
          cases h
        · rw [if_neg h2] at h
          cases h
          exact ⟨by omega, Classical.byContradiction fun z => h2 (.inr z)⟩
theorem rdl_count {sz l : List Nat} (h : (wds l).length ≠ 4 + sz.length + sz.sum) : rdl sz l = none := by
  unfold rdl
  rw [if_pos h]
theorem txt_inj {a b : Int} (h : txt a = txt b) : a = b := by
  have h1 := num_txt a
  rw [h, num_txt] at h1
  exact (Option.some.inj h1).symm
theorem cnt_set {l : List Nat} {p c x : Nat} (h : l[p]? = some x) : (l.set p c).count 32 + (if x = 32 then 1 else 0) = l.count 32 + (if c = 32 then 1 else 0) := by
  induction l generalizing p with
  | nil => cases h
  | cons y r ih =>
    cases p with
    | zero =>
      have e : y = x := Option.some.inj h
      subst e
      show (c :: r).count 32 + _ = (y :: r).count 32 + _
      rw [List.count_cons, List.count_cons]
      by_cases h1 : c = 32 <;> by_cases h2 : y = 32 <;> simp [h1, h2]
    | succ p =>
      have := ih (p := p) h
      show (y :: r.set p c).count 32 + _ = (y :: r).count 32 + _
      rw [List.count_cons, List.count_cons]
      omega
/-- a line with one sign replaced is none -/
theorem rdl_bent {sz : List Nat} {st : Int} {ws : List (List Int)} {p c x : Nat} (hsz : ws.map List.length = sz) (hl : (jl st ws).length < 3000) (hx : (jl st ws)[p]? = some x) (hlow : ∀ y ∈ jl st ws, y < 300) (hc : c < 300) (hne : c ≠ x) : rdl sz ((jl st ws).set p c) = none := by
  cases e : rdl sz ((jl st ws).set p c) with
  | none => rfl
  | some v =>
    obtain ⟨st', ws'⟩ := v
    exfalso
    obtain ⟨h1, _, h2⟩ := rdl_some e
    have h0 := jl_count st ws
    rw [wds_len] at h1 h0
    have hcn := cnt_set (c := c) hx
    have hwl : ws.length = sz.length := by rw [← hsz, List.length_map]
    rw [hsz] at h0
    have hsp : ¬ (c = 32) ∧ ¬ (x = 32) := by
      by_cases a : c = 32 <;> by_cases b : x = 32
      · exact absurd (a.trans b.symm) hne
      · rw [if_pos a, if_neg b] at hcn
        omega
      · rw [if_neg a, if_pos b] at hcn
        omega
      · exact ⟨a, b⟩
    have hp : p < (jl st ws).length := (List.getElem?_eq_some_iff.mp hx).1
    have hx300 : x < 300 := hlow x (List.mem_of_getElem? hx)
    -- the words of both
    have hlen := congrArg List.length h2
    rw [List.length_set] at hlen
    have hb : ((jl st ws).set p c).map (· == 32) = (jl st ws).map (· == 32) := by
      rw [List.map_set, show (c == 32) = (x == 32) by rw [show (c == 32) = false by simpa using hsp.1, show (x == 32) = false by simpa using hsp.2]]
      refine List.ext_getElem? fun i => ?_
      by_cases hi : p = i
      · subst hi
        rw [List.getElem?_set_self (by rw [List.length_map]; exact hp), List.getElem?_map, hx]
        rfl
      · rw [List.getElem?_set_ne hi]
    have hw := wds_lens ((jl st ws).set p c)
    rw [hb, ← wds_lens, h2, jl_wds, jl_wds, List.map_append, List.map_append] at hw
    have hlast : (txt (chk (jt st' ws'))).length = (txt (chk (jt st ws))).length := by
      have := congrArg List.getLast? hw
      rw [List.map_cons, List.map_cons, List.map_cons, List.map_cons, List.map_nil] at this
      simpa using this
    have hJ : (jt st' ws').length = (jt st ws).length := by
      unfold jl at hlen
      simp only [List.length_append, List.length_cons] at hlen
      omega
    -- their texts
    have hset : (jt st ws ++ (32 :: chw ++ (32 :: txt (chk (jt st ws))))).set p c = jt st' ws' ++ (32 :: chw ++ (32 :: txt (chk (jt st' ws')))) := h2
    by_cases hq : p < (jt st ws).length
    · rw [List.set_append_left _ _ hq] at hset
      obtain ⟨e1, e2⟩ := List.append_inj hset (by rw [List.length_set, hJ])
      have e3 : txt (chk (jt st ws)) = txt (chk (jt st' ws')) := by
        have := (List.append_inj e2 rfl).2
        exact (List.cons.inj this).2
      have e4 : chk (jt st ws) = chk (jt st' ws') := by
        have := txt_inj e3
        omega
      have hxj : (jt st ws)[p]? = some x := by
        rw [← hx]
        unfold jl
        rw [List.getElem?_append_left hq]
      rw [← e1] at e4
      exact chk_set hxj (by omega) hc hx300 hne e4.symm
    · rw [List.set_append_right _ _ (by omega)] at hset
      obtain ⟨e1, e2⟩ := List.append_inj hset hJ.symm
      rw [← e1] at e2
      have hxj : (32 :: chw ++ (32 :: txt (chk (jt st ws))))[p - (jt st ws).length]? = some x := by
        have hx' := hx
        unfold jl at hx'
        rw [List.getElem?_append_right (by omega)] at hx'
        exact hx'
      have := congrArg (·[p - (jt st ws).length]?) e2
      rw [hxj, List.getElem?_set_self (List.getElem?_eq_some_iff.mp hxj).1] at this
      exact hne (Option.some.inj this)
/-! ### min(t), max(t) of a tuple of ints -/
section
variable {prog : Program} {w : World} {A : Around} {E : Value → Shared → Prop} {s : Shared} {l : Addr} {xs : Array (Int × Tok)}
theorem iter_intTup {Q : Value → Shared → Prop} (hl : s.heap.IsTuple l (intItems xs))
    (h : ∀ s₂ : Shared, s₂ = { s with heap := s.heap.push { cls := .type "tuple_iterator", data := .fields #[.ref l, .int 0 0] } } →
      (s₂.heap.IsTupleIter s.heap.objs.size l 0 ∧ s₂.heap.IsTuple l (intItems xs)) → (∀ b ∈ [s.heap.objs.size, l], b < s₂.heap.objs.size) → l ≠ s.heap.objs.size → Q (.ref s.heap.objs.size) s₂) :
    wpAny (model prog w) A (pyIter (.ref l)) Q E s := by
  have hlt : l < s.heap.objs.size := by obtain ⟨_, e, _⟩ := hl; exact Heap.lt_size e
  refine wpAny_pyIter_tuple hl (h _ rfl ⟨⟨_, Heap.get?_push_size _ rfl, rfl, rfl⟩, hl.at fun o e => Heap.get?_push_of_some _ e⟩ (fun b hb => ?_) (Nat.ne_of_lt hlt))
  show b < (s.heap.push _).objs.size
  rw [Heap.size_push]
  rcases List.mem_cons.mp hb with rfl | hb
  · exact Nat.lt_succ_self _
  · rcases List.mem_cons.mp hb with rfl | hb
    · exact Nat.lt_succ_of_lt hlt
    · cases hb
theorem old_keptT {h' : Heap} (hk : ∀ b o, b ∉ [s.heap.objs.size] → (s.heap.push { cls := .type "tuple_iterator", data := .fields #[.ref l, .int 0 0] }).get? b = some o → h'.get? b = some o) :
    ∀ b o, s.heap.get? b = some o → h'.get? b = some o := fun b o e => by
  refine hk b o (fun hm => ?_) (Heap.get?_push_of_some _ e)
  rcases List.mem_cons.mp hm with e1 | hm
  · exact absurd (e1 ▸ Heap.lt_size e) (Nat.lt_irrefl _)
  · cases hm
theorem max_rawT {its : List Value} {ns : List Int} {Q : Value → Shared → Prop} (hh : A.handled = none) (hl : s.heap.IsTuple l its.toArray) (hi : PyProof.Rows.IntsAre its ns) (hne : 0 < ns.length)
    (h : ∀ h' tk M t', (∀ b o, s.heap.get? b = some o → h'.get? b = some o) → M ∈ ns → (∀ a, a ∈ ns → a ≤ M) → Q (.int M t') { s with heap := h', toks := tk }) : wpAny (model prog w) A (call (.builtin "max") [.ref l]) Q E s := by
  obtain ⟨xs, e⟩ := hi.allInts.items
  have hn : PySem.numsOf (intItems xs).toList = ns := by rw [← e]; exact hi.numsOf
  rw [PySem.nums_intItems] at hn
  subst hn
  rw [e] at hl
  have hsz : 0 < xs.size := by simpa using hne
  refine call_max_walk (iter_intTup hl fun s₂ e st hfp hlI => ?_)
  subst e
  refine ⟨_, _, _, _, _, _, _, rfl, Walks.tuple (A := A.in1) hh _ l hlI (intItems xs), st, hfp, by simpa [intItems] using hsz, CmpOf.ints_gt (numAt xs) (fun _ _ => intItems_at), fun v h' tk hP hk => ?_⟩
  have hv : (intItems xs)[argBest (fun i j => decide (numAt xs i > numAt xs j)) (xs.size - 1)]? = some v := by simpa [intItems] using hP
  obtain ⟨t, rfl⟩ := intItems_at hv
  obtain ⟨h1, h2⟩ := argBest_gt (numAt xs) (xs.size - 1)
  refine h h' tk _ t (old_keptT hk) ?_ fun a ha => ?_
  · rw [PySem.numAt_eq]; exact PySem.getD_mem (by rw [List.length_map, Array.length_toList]; omega)
  · obtain ⟨j, hj, rfl⟩ := PySem.mem_getD ha
    rw [List.length_map, Array.length_toList] at hj
    rw [← PySem.numAt_eq]; exact h2 j (by omega)
theorem min_rawT {its : List Value} {ns : List Int} {Q : Value → Shared → Prop} (hh : A.handled = none) (hl : s.heap.IsTuple l its.toArray) (hi : PyProof.Rows.IntsAre its ns) (hne : 0 < ns.length)
    (h : ∀ h' tk M t', (∀ b o, s.heap.get? b = some o → h'.get? b = some o) → M ∈ ns → (∀ a, a ∈ ns → M ≤ a) → Q (.int M t') { s with heap := h', toks := tk }) : wpAny (model prog w) A (call (.builtin "min") [.ref l]) Q E s := by
  obtain ⟨xs, e⟩ := hi.allInts.items
  have hn : PySem.numsOf (intItems xs).toList = ns := by rw [← e]; exact hi.numsOf
  rw [PySem.nums_intItems] at hn
  subst hn
  rw [e] at hl
  have hsz : 0 < xs.size := by simpa using hne
  refine call_min_walk (iter_intTup hl fun s₂ e st hfp hlI => ?_)
  subst e
  refine ⟨_, _, _, _, _, _, _, rfl, Walks.tuple (A := A.in1) hh _ l hlI (intItems xs), st, hfp, by simpa [intItems] using hsz, CmpOf.ints_lt (numAt xs) (fun _ _ => intItems_at), fun v h' tk hP hk => ?_⟩
  have hv : (intItems xs)[argBest (fun i j => decide (numAt xs i < numAt xs j)) (xs.size - 1)]? = some v := by simpa [intItems] using hP
  obtain ⟨t, rfl⟩ := intItems_at hv
  obtain ⟨h1, h2⟩ := argBest_lt (numAt xs) (xs.size - 1)
  refine h h' tk _ t (old_keptT hk) ?_ fun a ha => ?_
  · rw [PySem.numAt_eq]; exact PySem.getD_mem (by rw [List.length_map, Array.length_toList]; omega)
  · obtain ⟨j, hj, rfl⟩ := PySem.mem_getD ha
    rw [List.length_map, Array.length_toList] at hj
    rw [← PySem.numAt_eq]; exact h2 j (by omega)
end
section
variable {X : Cx}
def rMaxT (K : PySem.W.Frag) : List V → Hp → VK → Prop := fun vs H Q => ∃ (a : Addr) (ns : List Int), vs = [V.ref a] ∧ SqT K H a (ns.map V.int) ∧ 0 < ns.length ∧ ∀ m, m ∈ ns → (∀ y, y ∈ ns → y ≤ m) → Q (.int m) H
def rMinT (K : PySem.W.Frag) : List V → Hp → VK → Prop := fun vs H Q => ∃ (a : Addr) (ns : List Int), vs = [V.ref a] ∧ SqT K H a (ns.map V.int) ∧ 0 < ns.length ∧ ∀ m, m ∈ ns → (∀ y, y ∈ ns → m ≤ y) → Q (.int m) H
theorem cr_maxT (hc : X.calm = true) : CallR X (.builtin "max") (rMaxT X.K) := by
  intro pins s σ H vs us Q I r h
  obtain ⟨a, ns, rfl, hs, hne, q⟩ := h
  obtain ⟨its, rv, hl, _⟩ := I.tuple hs
  rw [Vals.ref1 r]
  exact max_rawT (I.ok.hd hc) hl rv.ints hne fun h' tk m t' hk h1 h2 => ⟨.int _, H, I.kept hk, ⟨_, rfl⟩, q m h1 h2⟩
theorem cr_minT (hc : X.calm = true) : CallR X (.builtin "min") (rMinT X.K) := by
  intro pins s σ H vs us Q I r h
  obtain ⟨a, ns, rfl, hs, hne, q⟩ := h
  obtain ⟨its, rv, hl, _⟩ := I.tuple hs
  rw [Vals.ref1 r]
  exact min_rawT (I.ok.hd hc) hl rv.ints hne fun h' tk m t' hk h1 h2 => ⟨.int _, H, I.kept hk, ⟨_, rfl⟩, q m h1 h2⟩
end
/-! ### sum of a tuple -/
section
variable {X : Cx}
def rSumT (K : PySem.W.Frag) : List V → Hp → VK → Prop := fun vs H Q => ∃ (a : Addr) (ns : List Int), vs = [V.ref a] ∧ SqT K H a (ns.map V.int) ∧ Q (.int ns.sum) H
theorem sum_rawT {prog : Program} {w : World} {A : Around} {E : Value → Shared → Prop} {s : Shared} {l : Addr} {its : List Value} {ns : List Int} {Q : Value → Shared → Prop} (hh : A.handled = none) (hl : s.heap.IsTuple l its.toArray) (hi : PyProof.Rows.IntsAre its ns)
    (h : ∀ h' tk t', (∀ b o, s.heap.get? b = some o → h'.get? b = some o) → Q (.int ns.sum t') { s with heap := h', toks := tk }) : wpAny (model prog w) A (call (.builtin "sum") [.ref l]) Q E s := by
  obtain ⟨xs, e⟩ := hi.allInts.items
  have hn : PySem.numsOf (intItems xs).toList = ns := by rw [← e]; exact hi.numsOf
  rw [PySem.nums_intItems] at hn
  rw [e] at hl
  refine call_sum_walkG (iter_intTup hl fun s₂ e st hfp hlI => ?_)
  subst e
  refine ⟨_, _, _, _, _, _, numAt xs, rfl, Walks.tuple (A := A.in1) hh _ l hlI (intItems xs), st, hfp, (fun _ _ => intItems_at), fun h' tk t' hk => ?_⟩
  have := h h' tk t' (old_keptT hk)
  rw [← hn, ← List.take_of_length_le (l := xs.toList.map (·.1)) (i := xs.size) (by simp), ← preSum_eq] at this
  simpa [intItems] using this
theorem cr_sumT (hc : X.calm = true) : CallR X (.builtin "sum") (rSumT X.K) := by
  intro pins s σ H vs us Q I r h
  obtain ⟨a, ns, rfl, hs, q⟩ := h
  obtain ⟨its, rv, hl, _⟩ := I.tuple hs
  rw [Vals.ref1 r]
  exact sum_rawT (I.ok.hd hc) hl rv.ints fun h' tk t' hk => ⟨.int _, H, I.kept hk, ⟨_, rfl⟩, q⟩
end
/-! ### enumerate(text, start=k) -/
section
open PySem.Spec PyProof.Rows
def IteS (x : Str) (k : Int) : It :=
  ⟨fun i _ => i < x.cps.size, fun i H v H' => ∃ T c, v = .ref T ∧ H T = none ∧ H' = upd H T (.tup [.int (k + (i : Nat)), .str ⟨#[c]⟩]) ∧ x.cps[i]? = some c, fun i _ => x.cps.size = i⟩
theorem turn_enumS {P : Program} {w : World} {K : PySem.W.Frag} {elts : List Expr} {kk : Nat} {tpos : Pos} {x : Str} {tk0 : Tok} {k : Int} {e it : Addr} (hei : e ≠ it) :
    Turn P w K (.Tuple elts kk tpos) (IteS x k) [e, it] e (fun i h => (∃ old, IsEnum h e it (k + ((i : Nat) : Int)) old) ∧ h.IsStrIter it (strIterType x) x tk0 i) where
  mem := by simp
  obj := fun i h st b hb => by
    obtain ⟨⟨old, he⟩, ⟨o, ho, hc, hd⟩⟩ := st
    have e' : b = e ∨ b = it := by simpa using hb
    rcases e' with z | z
    · rw [z]; exact ⟨_, he, fun v q => nomatch q⟩
    · rw [z]; exact ⟨o, ho, fun v q => by rw [hd] at q; cases q⟩
  keep := fun i h h' st kp => let ⟨⟨old, he⟩, ⟨o, ho, hr⟩⟩ := st; ⟨⟨old, kp e (by simp) _ he⟩, ⟨o, kp it (by simp) _ ho, hr⟩⟩
  item := by
    intro X hP hw hK hc i pins s σ H E I hf st hg
    subst hP hw hK
    obtain ⟨he, hit⟩ := st
    have hg : i < x.cps.size := hg
    have hh : X.A.in1.handled = none := I.ok.hd hc
    have W := WalksT.enumFrom (prog := X.prog) (w := X.w) (A := X.A) k (Draws.text hh it x tk0) e hei (by simpa using hei) (by simp)
    refine W.item i s _ _ hg ⟨he, hit⟩ fun T vals h' tk hPt hT hTt hMid hk => ?_
    obtain ⟨t1, v1, ⟨c, u, hcx, rfl⟩, rfl⟩ := hPt
    refine ⟨_, rfl, W.go elts kk tpos i T { s with heap := h', toks := tk } _ _ hMid fun h'' hSt hk2 => ?_⟩
    have hTw := W.apart _ _ _ hMid
    have new : ObjOk X.prog X.w (upd H T (.tup [.int (k + (i : Nat)), .str ⟨#[c]⟩])) h'' T (.tup [.int (k + (i : Nat)), .str ⟨#[c]⟩]) :=
      ⟨by show 2 ≤ sizeLine; decide, [.int (k + (i : Int)) t1, .str ⟨#[c]⟩ u], .cons ⟨_, rfl⟩ (.cons ⟨_, rfl⟩ .nil), hTt.at fun o q => hk2 T o hTw q⟩
    have I1 : Inv X pins σ (upd H T (.tup [.int (k + (i : Nat)), .str ⟨#[c]⟩])) { s with heap := h'', toks := tk } :=
      I.turnedNew (ch := [e, it]) (fun b o hb q => hk2 b o hb (hk b o hb q)) hf hT new
    refine ⟨.ref T, _, I1, rfl, ⟨T, c, rfl, I.hok.fresh hT, rfl, hcx⟩, hSt, fun b hb => ?_⟩
    have hlt : b < s.heap.objs.size := by
      obtain ⟨old, he⟩ := he
      have e' : b = e ∨ b = it := by simpa using hb
      rcases e' with q | q
      · rw [q]; exact Heap.lt_size he
      · rw [q]; obtain ⟨_, e1, _⟩ := hit; exact Heap.lt_size e1
    rw [upd_ne (Nat.ne_of_lt (Nat.lt_of_lt_of_le hlt hT))]
    exact (hf b hb).1
  done := by
    intro X hP hw hK hc i pins s σ H E I hf st hg
    subst hP hw hK
    have hg : x.cps.size = i := hg
    subst hg
    have hh : X.A.in1.handled = none := I.ok.hd hc
    have W := WalksT.enumFrom (prog := X.prog) (w := X.w) (A := X.A) k (Draws.text hh it x tk0) e hei (by simpa using hei) (by simp)
    exact W.done s _ _ st fun h' tk hk => ⟨rfl, I.turnedL (ch := [e, it]) (fun b o hb q => hk b o hb q) hf⟩
  self := fun A i s Q E st h => let ⟨⟨_, he⟩, _⟩ := st; wpAny_pyIter_enum he h
def iEnumS (ta tk : TA) : TI := fun σ H R => ta σ H fun vs H1 => tk σ H1 fun zs H2 => ∃ (x : Str) (k : Int), vs = [.str x] ∧ zs = [.int k] ∧ -(2 ^ 63) ≤ k ∧ k < 2 ^ 63 ∧ R (IteS x k) H2
theorem callWith_typeK {M : Model} {A : Around} {E : Value → Shared → Prop} {s : Shared} {env : Env} {pos : Pos} {T : String} {e : Expr} {rest : List Expr} {kws : List Keyword} {Q : Value → Shared → Prop}
    (hall : (backToKw pos (keywordEach kws env)).all (·.1.isSome) = true)
    (h : wpAny M A (spliced (backTo pos (starEach (e :: rest) env))) (fun vs s₁ => wpAny M A (evalAll ((backToKw pos (keywordEach kws env)).map (·.2)))
      (fun ks s₂ => wpAny M A (call (.type T) vs (((backToKw pos (keywordEach kws env)).filterMap (·.1)).zip ks)) Q E s₂) E s₁) E s)
    (hplain : ((backTo pos (starEach (e :: rest) env)).any (·.1) || (backToKw pos (keywordEach kws env)).any (·.1.isNone)) = false) (he : starEach (e :: rest) env = (false, eval e env) :: starEach rest env) :
    wpAny M A (callWith pos (.type T) [] (backTo pos (starEach (e :: rest) env)) (backToKw pos (keywordEach kws env))) Q E s := by
  unfold callWith
  refine wpAny_bind (wpAny_holding (wpAny_mono (evalArgs_kw2 (Q := fun a s₁ => wpAny M A (call (.type T) a.pos a.kw) Q E s₁) hall h he) (fun a s₁ h₁ => wpAny_bind (wpAny_standAt ?_)) fun _ _ x => x))
  simp only [hplain]
  refine wpAny_bind (wpAny_pure ?_)
  exact wpAny_bind (wpAny_mono h₁ (fun r s₂ hr => wpAny_bind (wpAny_holding (wpAny_point (wpAny_pure hr)))) fun _ _ x => x)
theorem pi_enumS {X : Cx} {e e2 : Expr} {ta tk : TA} {p pos tpos kp : Pos} {elts : List Expr} {kk : Nat} (hg : Gl X "enumerate") (hm : X.mg "enumerate" = none) (ha : PA X [e] ta) (hk : PK X [⟨some (Str.ofString "start"), e2, kp⟩] tk)
    (hs : starEach [e] X.env = [(false, eval e X.env)] := by rfl) :
    PI X (.Tuple elts kk tpos) (.Call (.Name "enumerate" p) [e] [⟨some (Str.ofString "start"), e2, kp⟩] pos) (iEnumS ta tk) := by
  refine ⟨fun pins s σ H R I h => ?_⟩
  refine wpAny_Call_Name_kw (ld_blt I hg hm boot_enumerate (callWith_typeK (by rfl) (thn (ha.run pos pins s σ H _ I h) fun us s1 ⟨vs, H1, I1, r1, q1⟩ => thn (hk.run pos pins s1 σ H1 _ I1 q1) fun ws s2 ⟨zs, H2, I2, r2, q2⟩ => ?_) (by rw [hs]; rfl) hs))
  obtain ⟨x, k, rfl, rfl, k0, k1, q⟩ := q2
  obtain ⟨u, rfl, t, rfl⟩ := vals1 r1
  obtain ⟨u2, rfl, t2, rfl⟩ := vals1 r2
  show wpAny _ _ (call (.type "enumerate") [.str x t] [(Str.ofString "start", .int k t2)]) _ _ _
  refine enum_begins_start (begins_text x t) trivial k0 k1 fun h' he hit hsz hkp => wpAny_pyIter_enum he ?_
  have I3 : Inv X pins σ H2 { s2 with heap := h' } := I2.kept (t' := s2.toks) hkp
  refine ⟨s2.heap.objs.size + 1, [s2.heap.objs.size + 1, s2.heap.objs.size], _, _, H2, rfl, I3, turn_enumS (tk0 := t) (k := k) (Nat.succ_ne_self _), ⟨⟨.none, by rw [Int.natCast_zero, Int.add_zero]; exact he⟩, ⟨_, hit, rfl, rfl⟩⟩, fun b hb => ?_, q⟩
  have e' : b = s2.heap.objs.size + 1 ∨ b = s2.heap.objs.size := by simpa using hb
  have hle : s2.heap.objs.size ≤ b := by
    rcases e' with z | z
    · rw [z]; exact Nat.le_add_right _ _
    · rw [z]; exact Nat.le_refl _
  exact I2.fpOk hle (I2.hok.fresh hle)
theorem walk_enumS {x : Str} {k : Int} : Walk (IteS x k) x.cps.size (fun _ => True) (YPair (fun i => some (.int (k + (i : Nat)))) (fun i => (x.cps[i]?).map fun c => .str ⟨#[c]⟩)) := by
  refine ⟨fun i _ hi _ => hi, fun _ _ => rfl, fun i H v H' _ _ y => ?_⟩
  obtain ⟨T, c, h1, h2, h3, h4⟩ := y
  exact ⟨T, _, _, h1, h2, h3, rfl, by dsimp only; rw [h4]; rfl⟩
end

structure Txt (mg : Str → Option Value) extends TxtD mg where
  str : mg "str" = none
  ord : mg "ord" = none
  divmod : mg "divmod" = none
  sum : mg "sum" = none
  enumerate : mg "enumerate" = none
  tuple : mg "tuple" = none
  range : mg "range" = none
  isi : mg "isinstance" = none
def rOrd : List V → Hp → VK → Prop := fun xs H Q => ∃ x : Str, xs = [.str x] ∧ x.length = 1 ∧ Q (.int (x.cps.getD 0 0 : Nat)) H
def rStrI : List V → Hp → VK → Prop := fun xs H Q => ∃ i : Int, xs = [.int i] ∧ i.natAbs.log2 < 1920 ∧ Q (.str (toString i)) H
theorem size64 {n : Nat} (h : n ≤ 100000) : n ≤ sizeLine := Nat.le_trans h (by decide)
theorem small64 {n : Nat} (h : n ≤ 100000) : n < sizeLine := Nat.lt_of_le_of_lt h (by decide)
theorem log60 {n : Int} (h : n.natAbs < 10 ^ 60) : n.natAbs.log2 < 1920 := by
  by_cases h0 : n.natAbs = 0
  · rw [h0]; decide
  · have h1 := Nat.log2_self_le h0
    refine Classical.byContradiction fun e => ?_
    have h2 : 2 ^ 1920 ≤ 2 ^ n.natAbs.log2 := Nat.pow_le_pow_right (by decide) (by omega)
    have h3 : (10 : Nat) ^ 60 < 2 ^ 1920 := by decide +kernel
    omega
theorem str_txt (n : Int) : TL.tl ((toString n : String) : Str) = txt n := tl_int n
theorem str_len {n : Int} (h : n.natAbs < 10 ^ 60) : ((toString n : String) : Str).length ≤ 61 := by
  rw [TL.len_tl, str_txt]
  exact txt_len' (by decide) h
theorem join_tl (y : Str) (ps : List Str) : TL.tl (Txt.join y ps) = TL.joinL (TL.tl y) (ps.map TL.tl) := by
  rw [TL.join_eq, TL.tl_join]
/-- rows of whole numbers -/
def Fds (K : PySem.W.Frag) (H : Hp) (fs : List V) (rs : List (List Int)) : Prop := fs.length = rs.length ∧ ∀ (i : Nat) (x : V) (r : List Int), fs[i]? = some x → rs[i]? = some r → ∃ pr, x = V.ref pr ∧ SqT K H pr (r.map V.int)
/-- what is no list stays -/
def NL (H H' : Hp) : Prop := ∀ b o, H b = some o → (∃ xs, o = .lst xs) ∨ H' b = some o
theorem NL.refl (H : Hp) : NL H H := fun _ _ h => .inr h
theorem NL.trans {H H1 H2 : Hp} (a : NL H H1) (b : NL H1 H2) : NL H H2 := fun c o h => (a c o h).elim .inl fun h => b c o h
theorem Same.nl {H H' : Hp} (s : Same H H') : NL H H' := fun b o h => .inr (s b o h)
theorem nl_upd {H : Hp} {p : Addr} {xs : List V} {o : HO} (h : H p = some (.lst xs)) : NL H (upd H p o) := fun b u e => by
  by_cases hb : b = p
  · subst hb
    rw [h] at e
    exact .inl ⟨xs, (Option.some.inj e).symm⟩
  · exact .inr (by rw [upd_ne hb]; exact e)
theorem nl_new {H : Hp} {p : Addr} {o : HO} (h : H p = none) : NL H (upd H p o) := fun b u e => .inr (by rw [upd_ne (ne_of_none e h)]; exact e)
theorem sqT_nl {K : PySem.W.Frag} {H H' : Hp} {a : Addr} {xs : List V} (h : SqT K H a xs) (s : NL H H') : SqT K H' a xs := by
  rcases h with (h | ⟨o, h⟩) | h
  · rcases s _ _ h with ⟨_, e⟩ | e
    · cases e
    · exact .inl (.inl e)
  · rcases s _ _ h with ⟨_, e⟩ | e
    · cases e
    · exact .inl (.inr ⟨o, e⟩)
  · exact .inr h

theorem Fds.nl {K : PySem.W.Frag} {H H' : Hp} {fs : List V} {rs : List (List Int)} (h : Fds K H fs rs) (s : NL H H') : Fds K H' fs rs := ⟨h.1, fun i x r a b => by
  obtain ⟨pr, e, q⟩ := h.2 i x r a b
  exact ⟨pr, e, sqT_nl q s⟩⟩
theorem Fds.same {K : PySem.W.Frag} {H H' : Hp} {fs : List V} {rs : List (List Int)} (h : Fds K H fs rs) (s : Same H H') : Fds K H' fs rs := h.nl (Same.nl s)
theorem Fds.nil {K : PySem.W.Frag} {H : Hp} : Fds K H [] [] := ⟨rfl, fun _ _ _ h _ => by simp at h⟩
theorem Fds.snoc {K : PySem.W.Frag} {H : Hp} {fs : List V} {rs : List (List Int)} {p : Addr} {r : List Int} (h : Fds K H fs rs) (hp : SqT K H p (r.map V.int)) : Fds K H (fs ++ [.ref p]) (rs ++ [r]) := by
  refine ⟨by simp [h.1], fun i x q a b => ?_⟩
  by_cases hi : i < fs.length
  · rw [List.getElem?_append_left hi] at a
    rw [List.getElem?_append_left (by rw [← h.1]; exact hi)] at b
    exact h.2 i x q a b
  · rw [List.getElem?_append_right (by omega)] at a
    rw [List.getElem?_append_right (by have := h.1; omega)] at b
    have e0 : i - fs.length = 0 := by
      have := (List.getElem?_eq_some_iff.mp a).1
      simp at this
      omega
    rw [e0] at a
    rw [← h.1, e0] at b
    cases a
    cases b
    exact ⟨p, rfl, hp⟩
theorem sl_int {ns : List Int} {i : Nat} {x : V} (h : (ns.map V.int)[i]? = some x) : ∃ n, x = .int n ∧ ns[i]? = some n := map_int_at h
section
variable {P : Program} {w : World} {K : PySem.W.Frag} {mg : Str → Option Value} {base : Heap}
/-! ### read_integer -/
def spReadInt (X : Addr) : Sp := fun vs H Q E => ∃ z : Str, vs = [.str z, .int 70] ∧ z.length ≤ 70 ∧ (num (TL.tl z) = none → E (.ref X) none H) ∧ ∀ n, num (TL.tl z) = some n → Q (.int n) H
abbrev nRI : List Str := ["text", "most", "digits"]
theorem scRI : FnScope nRI ["text", "most"] (defScope sReadInt) := ⟨rfl, rfl, rfl, by decide +kernel, rfl, by decide +kernel, by decide +kernel⟩
theorem ok_readint {f X : Addr} {fd : FuncData} (F : Fun K "read_integer" "read_integer" sReadInt f fd) (T : Txt mg) (RT : ErrR K mg "TextError" X) :
    FnOk P w K mg base (L2N.CX P w) 1 f fd ["text", "most"] (spReadInt X) := by
  refine okXN F scRI (fun vs H Q E h => ?_) (fun cdv A outer s H vs Q E hr h => ?_)
  · obtain ⟨z, rfl, _⟩ := h
    rfl
  · obtain ⟨z, rfl, hz, qE, qQ⟩ := h
    refine ⟨_, (pss_cons (ps_set (i := 2) scRI.nd rfl (.inl rfl) (pe_bm PySem.F.plainAttrs_str PySem.F.slot_str_removeprefix PySem.F.type_str_removeprefix mt_removeprefix (pv 0) (pa_cons pe_str pa_nil)))
      (pss_cons (ps_if (PW.pt (pw_or (pt_not (PW.pt (pw_and (pt_val (pe_bm0 PySem.F.plainAttrs_str PySem.F.slot_str_isascii PySem.F.type_str_isascii mt_isascii (pv 2))) (pw_and1 (pt_val (pe_bm0 PySem.F.plainAttrs_str PySem.F.slot_str_isdigit PySem.F.type_str_isdigit mt_isdigit (pv 2))))))) (pw_or1 (pt_cmpR op_gt (pe_callB call_len_str (by rfl) T.len PySem.boot_len (pa_cons (pv 2) pa_nil)) (pv 1) (nomark _))))) (pss_one (L2N.ps_raise rfl (L2N.takes_of rfl rfl rfl rfl) (L2N.pmk_own PySem.F.excBase_ValueError RT.x RT.g RT.k (raises_own RT.b RT.t) rfl))) pss_nil)
      (pss_cons (ps_if (PW.pt (pw_and (pt_val (pe_bm PySem.F.plainAttrs_str PySem.F.slot_str_startswith PySem.F.type_str_startswith mt_startswith (pv 2) (pa_cons pe_str pa_nil))) (pw_and1 (pt_cmpR op_ne (pv 0) pe_str (nomark _))))) (pss_one (L2N.ps_raise rfl (L2N.takes_of rfl rfl rfl rfl) (L2N.pmk_own PySem.F.excBase_ValueError RT.x RT.g RT.k (raises_own RT.b RT.t) rfl))) pss_nil)
      (pss_one (ps_ret (pe_callTy call_int_str (by rfl) T.int (by decide +kernel) (pa_cons (pv 0) pa_nil))))))), ?_⟩
    refine ⟨_, rfl, rfl, z, _, rfl, rfl, size64 (by omega), ?_⟩
    have hdz := cut_dash z
    have hbl := bare_len (TL.tl z)
    have hzl := TL.len_tl z
    have hdl := TL.len_tl (Txt.removeprefix z "-")
    have hdd := dig_text (Txt.removeprefix z "-")
    have hst := starts_one (Txt.removeprefix z "-") "0" 48 rfl
    have hnum : num (TL.tl z) = _ := rfl
    unfold num at hnum
    generalize Txt.removeprefix z "-" = dz at *
    rw [hdz] at hdd hst hdl
    unfold num at qE qQ
    refine ⟨_, rfl, rfl, dz, rfl, rfl, trivial, _, rfl, ?_⟩
    cases hA : Txt.isascii dz with
    | false =>
      rw [hA, Bool.false_and] at hdd
      refine iteF (iteT (qE ?_))
      rw [← hdd, if_neg Bool.false_ne_true]
    | true =>
      refine iteT ⟨_, rfl, rfl, dz, rfl, rfl, trivial, _, rfl, ?_⟩
      rw [hA, Bool.true_and] at hdd
      rw [hdd]
      cases hB : digB (bare (TL.tl z)) with
      | false =>
        refine iteT (qE ?_)
        rw [hB, if_neg Bool.false_ne_true]
      | true =>
        rw [hB, if_pos rfl] at qE qQ
        refine iteF ⟨_, rfl, dz, rfl, size64 (by omega), _, rfl, _, _, rfl, rfl, _, rfl, ?_⟩
        rw [decide_eq_false (show ¬ ((70 : Int) < (dz.length : Int)) by omega)]
        refine iteF ⟨_, rfl, rfl, dz, _, rfl, rfl, _, rfl, ?_⟩
        rw [hst]
        by_cases h48 : (bare (TL.tl z)).head? = some 48
        · rw [decide_eq_true h48]
          refine iteT ⟨_, rfl, rfl, _, rfl, ?_⟩
          rw [dec_tl]
          have e0 : TL.tl ("0" : Str) = [48] := rfl
          rw [e0]
          by_cases hz0 : TL.tl z = [48]
          · rw [decide_eq_true hz0]
            have hn : ¬ ((bare (TL.tl z)).head? = some 48 ∧ TL.tl z ≠ [48]) := fun h => h.2 hz0
            rw [if_neg hn] at qQ
            refine iteF ⟨_, rfl, z, _, rfl, num_int ?_ (by omega), by omega, qQ _ rfl⟩
            unfold num
            rw [hB, if_pos rfl, if_neg hn]
          · rw [decide_eq_false hz0]
            refine iteT (qE ?_)
            rw [if_pos ⟨h48, hz0⟩]
        · rw [decide_eq_false h48]
          have hn : ¬ ((bare (TL.tl z)).head? = some 48 ∧ TL.tl z ≠ [48]) := fun h => h48 h.1
          rw [if_neg hn] at qQ
          refine iteF ⟨_, rfl, z, _, rfl, num_int ?_ (by omega), by omega, qQ _ rfl⟩
          unfold num
          rw [hB, if_pos rfl, if_neg hn]
/-! ### write_integer -/
def spWI : Sp := fun vs H Q _ => ∃ n : Int, vs = [.int n] ∧ n.natAbs < 10 ^ 60 ∧ ∀ H' z, Same H H' → TL.tl z = txt n → Q (.str z) H'
theorem ten60 : ((10 : Int) ^ (60 : Int).toNat) = 1000000000000000000000000000000000000000000000000000000000000 := by decide +kernel
abbrev nWI : List Str := ["n", "above", "rest", "parts", "low", "text"]
theorem scWI : FnScope nWI ["n"] (defScope sWI) := ⟨rfl, rfl, rfl, by decide +kernel, rfl, by decide +kernel, by decide +kernel⟩
theorem ok_wi {f : Addr} {fd : FuncData} (F : Fun K "write_integer" "write_integer" sWI f fd) (T : Txt mg) : FnOk P w K mg base CX0 1 f fd ["n"] spWI := by
  refine F.ok scWI (fun vs H Q E h => ?_) (fun cdv A outer s H vs Q E hr h => ?_)
  · obtain ⟨n, rfl, _⟩ := h
    rfl
  · obtain ⟨n, rfl, hn, q⟩ := h
    refine ⟨_, (pss_cons (ps_set (i := 1) scWI.nd rfl (.inl rfl) (pe_op op_pow pe_int pe_int))
      (pss_cons (ps_set (i := 2) scWI.nd rfl (.inl rfl) (pe_callB call_abs (by rfl) T.abs (by decide +kernel) (pa_cons (pv 0) pa_nil)))
      (pss_cons (ps_set (i := 3) scWI.nd rfl (.inl rfl) (pe_lst pa_nil))
      (pss_cons (ps_while PassesOwn.never (pt_cmpR op_ge (pv 2) (pv 1) (nomark _)) (pss_cons (ps_asg (pe_callB call_divmodW (by rfl) T.divmod (by decide +kernel) (pa_cons (pv 2) (pa_cons (pv 1) pa_nil))) (pg_tup rfl (pgs_cons (pg_name (i := 2) scWI.nd rfl (.inl rfl)) (pgs_cons (pg_name (i := 4) scWI.nd rfl (.inl rfl)) pgs_nil))))
      (pss_one (ps_expr (pe_bm PySem.F.plainAttrs_list PySem.F.slot_list_append PySem.F.type_list_append mt_append (pv 3) (pa_cons (pe_bm PySem.F.plainAttrs_str PySem.F.slot_str_zfill PySem.F.type_str_zfill mt_zfill (pe_callTy call_str_int (by rfl) T.str (by decide +kernel) (pa_cons (pv 4) pa_nil)) (pa_cons pe_int pa_nil)) pa_nil))))))
      (pss_cons (ps_expr (pe_bm PySem.F.plainAttrs_list PySem.F.slot_list_append PySem.F.type_list_append mt_append (pv 3) (pa_cons (pe_callTy call_str_int (by rfl) T.str (by decide +kernel) (pa_cons (pv 2) pa_nil)) pa_nil)))
      (pss_cons (ps_set (i := 5) scWI.nd rfl (.inl rfl) (pe_join pe_str (pe_revL (pv 3))))
      (pss_one (ps_ret (pe_ifExp (pt_cmpR op_lt (pv 0) pe_int (nomark _)) (pe_op op_add_str pe_str (pv 5)) (pv 5)))))))))), ?_⟩
    have e60 : (10 : Nat) ^ 60 = 1000000000000000000000000000000000000000000000000000000000000 := by decide +kernel
    rw [e60] at hn
    refine ⟨10, 60, rfl, rfl, ⟨by decide, by decide, by decide⟩, _, rfl, n, rfl, Nat.zero_le _, fun p np => ?_⟩
    have habs : (if n < 0 then -n else n) = ((n.natAbs : Nat) : Int) := by split <;> omega
    refine ⟨fun m σ H' => ∃ A B : Int, σ = [some (.int n), some (.int A), some (.int B), some (.ref p), none, none] ∧ H' = upd H p (.lst []) ∧ A = 1000000000000000000000000000000000000000000000000000000000000 ∧ B = ((n.natAbs : Nat) : Int), ⟨0, _, _, rfl, rfl, ten60, habs⟩, ?_⟩
    rintro m σ H' ⟨A, B, rfl, rfl, rfl, rfl⟩
    refine ⟨_, rfl, _, rfl, _, _, rfl, rfl, _, rfl, ite2 (fun e => absurd (of_decide_eq_true e) (by omega)) (fun _ => ?_)⟩
    have hl : ((n.natAbs : Nat) : Int).natAbs < 10 ^ 60 := by rw [e60]; omega
    refine ⟨_, rfl, .inl ⟨rfl, _, SqL.of upd_same⟩, _, rfl, (n.natAbs : Nat), rfl, log60 hl, p, _, _, rfl, rfl, upd_same, by decide, ?_⟩
    rw [upd_upd]
    generalize hz : ((toString ((n.natAbs : Nat) : Int) : String) : Str) = z
    have hzt : TL.tl z = TL.numL n.natAbs := by
      rw [← hz, str_txt]
      unfold txt
      rw [if_neg (by omega)]
      rfl
    have hzl : z.length ≤ 61 := by rw [← hz]; exact str_len hl
    refine ⟨⟨_, rfl⟩, _, rfl, p, _, rfl, SqL.of upd_same, fun p2 np2 => ?_⟩
    refine ⟨"", p2, [z], rfl, rfl, .inl (SqL.of upd_same), ?_, ?_⟩
    · show z.length + 0 + 1 * 0 ≤ 16777216
      omega
    have hj : Txt.join "" [z] = z := by
      rw [TL.join_eq]
      rfl
    rw [hj]
    have sm : Same H (upd (upd H p (.lst [.str z])) p2 (.lst [.str z].reverse)) := (same_upd np).trans (same_upd np2)
    refine ⟨_, rfl, _, _, rfl, rfl, _, rfl, ite2 (fun e => ?_) (fun e => ?_)⟩
    · have e := of_decide_eq_true e
      refine ⟨_, rfl, _, _, rfl, rfl, size64 (by show 1 + z.length ≤ 100000; omega), q _ _ sm ?_⟩
      rw [TL.tl_append, hzt]
      unfold txt
      rw [if_pos e]
      rfl
    · have e : ¬ n < 0 := fun z => e (decide_eq_true z)
      refine ⟨_, rfl, q _ _ sm ?_⟩
      rw [hzt]
      unfold txt
      rw [if_neg e]
/-! ### check_number -/
def spCN : Sp := fun vs H Q _ => ∃ z : Str, vs = [.str z] ∧ z.length ≤ 3000 ∧ ∀ H', Same H H' → Q (.int (chk (TL.tl z) : Nat)) H'
theorem tl_at {z : Str} {i c : Nat} (h : z.cps[i]? = some c) : (TL.tl z)[i]? = some c := by
  show z.cps.toList[i]? = some c
  rw [Array.getElem?_toList]
  exact h
abbrev nCN : List Str := ["text", "place", "sign"]
theorem scCN : FnScope nCN ["text"] (defScope sCN) := ⟨rfl, rfl, rfl, by decide +kernel, rfl, by decide +kernel, by decide +kernel⟩
theorem ok_cn {f : Addr} {fd : FuncData} (F : Fun K "check_number" "check_number" sCN f fd) (T : Txt mg) (lM : ∃ u, mg "_MODULUS" = some u ∧ RelV (.int 65521) u) : FnOk P w K mg base CX0 1 f fd ["text"] spCN := by
  obtain ⟨uM, glM, rlM⟩ := lM
  refine F.ok scCN (fun vs H Q E h => ?_) (fun cdv A outer s H vs Q E hr h => ?_)
  · obtain ⟨z, rfl, _⟩ := h
    rfl
  · obtain ⟨z, rfl, hz, q⟩ := h
    have hzl := TL.len_tl z
    have hzs : z.cps.size = (TL.tl z).length := hzl
    refine ⟨_, (pss_one (ps_ret (pe_op op_mod (pe_callB (cr_sum rfl) (by rfl) T.sum (by decide +kernel) (pa_cons (pe_lc (own := [("place", 1), ("sign", 2)]) (g := (gTup K 2 (gCons (gName 1) (gCons (gName 2) gNil)))) (tt := tYes) (te := (tOp (rI CMul fun i j => .int (i * j)) (tVar 1) (tCB rOrd (tCons (tVar 2) tNil)))) rfl scCN.nd (pi_enumS (by rfl) T.enumerate (pa_cons (pv 0) pa_nil) (pk_cons pe_int pk_nil)) (blkOk_by (N := nCN) (sc := defScope sCN) (by decide +kernel)) (fun _ _ _ _ _ => (pg_tup rfl (pgs_cons (pg_name (i := 1) scCN.nd rfl (.inl rfl) (hf := Or.inr rfl)) (pgs_cons (pg_name (i := 2) scCN.nd rfl (.inl rfl) (hf := Or.inr rfl)) pgs_nil)))) (fun _ _ _ _ _ => pts_nil) (fun _ _ _ _ _ => (pe_op op_mul (pv 1) (pe_callB call_ord (by rfl) T.ord (by decide +kernel) (pa_cons (pv 2) pa_nil))))) pa_nil)) (pe_glob (v := (.int 65521)) (by rfl) glM rlM)))), ?_⟩
    refine ⟨_, rfl, z, 1, rfl, rfl, by decide, by decide, fun D nD => lc_it walk_enumS (fun i H' => Same H H' ∧ H' D = some (.lst ((wts 0 ((TL.tl z).take i)).map V.int))) ⟨same_upd nD, upd_same⟩ (fun _ _ _ _ => trivial) ?_ ?_⟩
    · rintro i x H1 H2 hi ⟨sm, hD⟩ ⟨t, a, b, rfl, nt, rfl, ha, hb⟩
      have ha : a = .int (1 + (i : Int)) := (Option.some.inj ha).symm
      subst ha
      obtain ⟨c, hc, hb⟩ := Option.map_eq_some_iff.mp hb
      subst hb
      refine ⟨t, _, rfl, SqT.of upd_same, rfl, _, _, rfl, _, _, rfl, rfl, rfl, ?_⟩
      unfold tYes
      dsimp only
      rw [if_pos rfl]
      have ntD : t ≠ D := fun e => by rw [e, hD] at nt; cases nt
      refine ⟨_, rfl, _, rfl, _, rfl, rfl, _, _, rfl, rfl, .inl ⟨by omega, by omega⟩, _, by rw [upd_ne ntD.symm]; exact hD, ?_, ?_, ?_⟩
      · rw [List.length_map, wts_len, List.length_take]
        exact small64 (by omega)
      · exact fun b o e => by
          rw [upd_ne (ne_of_none e nD), upd_ne (ne_of_none (sm _ _ e) nt)]
          exact sm _ _ e
      · rw [upd_same, take_snoc (tl_at hc), wts_snoc, List.map_append, List.length_take]
        have hil : i < (TL.tl z).length := by rw [← hzs]; exact hi
        rw [Nat.min_eq_left (by omega)]
        have e : (1 + (i : Int)) * ((Array.getD #[c] 0 0 : Nat) : Int) = (((0 + i + 1) * c : Nat) : Int) := by
          rw [Int.natCast_mul]
          congr 1
          omega
        show some (HO.lst (_ ++ [V.int ((1 + (i : Int)) * ((Array.getD #[c] 0 0 : Nat) : Int))])) = _
        rw [e]
        rfl
    · rintro H1 ⟨sm, hD⟩
      rw [hzs, List.take_length] at hD
      refine ⟨D, wts 0 (TL.tl z), rfl, SqL.of hD, _, _, rfl, rfl, by show (0 : Int) < 65521; decide, ?_⟩
      have e : (wts 0 (TL.tl z)).sum % 65521 = ((chk (TL.tl z) : Nat) : Int) := by
        rw [wts_sum]
        unfold chk
        omega
      show Q (V.int ((wts 0 (TL.tl z)).sum % 65521)) H1
      rw [e]
      exact q _ sm
/-! ### journal_line -/
def RBd (ws : List (List Int)) : Prop := ws.length ≤ 10 ∧ ∀ r ∈ ws, r.length ≤ 30 ∧ ∀ n ∈ r, n.natAbs < 10 ^ 60
def spJL (K : PySem.W.Frag) : Sp := fun vs H Q _ => ∃ (st : Int) (p : Addr) (fs : List V) (ws : List (List Int)), vs = [.int st, .ref p] ∧ st.natAbs < 10 ^ 60 ∧ SqT K H p fs ∧ Fds K H fs ws ∧ RBd ws ∧ (jl st ws).length ≤ 2900 ∧ ∀ H' z, Same H H' → TL.tl z = jl st ws ++ [10] → Q (.str z) H'
theorem rws_app : ∀ (a : List (List Int)) (r : List Int), rws (a ++ [r]) = rws a ++ [59] :: r.map txt
  | [], r => by
    show [59] :: (r.map txt ++ []) = _
    rw [List.append_nil]
    rfl
  | x :: a, r => by
    show [59] :: (x.map txt ++ rws (a ++ [r])) = [59] :: (x.map txt ++ rws a) ++ _
    rw [rws_app a r]
    simp only [List.append_assoc, List.cons_append]
theorem jw_app (st : Int) (a : List (List Int)) (r : List Int) : jw st (a ++ [r]) = jw st a ++ [59] :: r.map txt := by
  unfold jw
  rw [rws_app]
  rfl
/-- the sum of a row's lengths -/
def lsum : List (List Nat) → Nat
  | [] => 0
  | w :: ws => w.length + 1 + lsum ws
theorem lsum_join : ∀ ws : List (List Nat), ws ≠ [] → lsum ws = (TL.joinL [32] ws).length + 1
  | [], h => absurd rfl h
  | [w], _ => by
    show w.length + 1 + 0 = w.length + 1
    omega
  | w :: v :: r, _ => by
    have ih := lsum_join (v :: r) (List.cons_ne_nil _ _)
    show w.length + 1 + lsum (v :: r) = (w ++ ([32] ++ TL.joinL [32] (v :: r))).length + 1
    rw [ih]
    simp only [List.length_append, List.length_cons, List.length_nil]
    omega
theorem lsum_strs : ∀ ys : List Str, (ys.map (·.length)).sum + ys.length * 1 = lsum (ys.map TL.tl)
  | [] => rfl
  | y :: ys => by
    have ih := lsum_strs ys
    show (y.length :: ys.map (·.length)).sum + (ys.length + 1) * 1 = (TL.tl y).length + 1 + lsum (ys.map TL.tl)
    rw [← ih, List.sum_cons, ← TL.len_tl]
    omega
/-- words that stand in a list -/
def WL (H : Hp) (p : Addr) (W : List (List Nat)) : Prop := ∃ ys : List Str, H p = some (.lst (ys.map V.str)) ∧ ys.map TL.tl = W
theorem WL.app {H : Hp} {p : Addr} {W : List (List Nat)} {z : Str} (h : WL H p W) : ∃ ys : List Str, H p = some (.lst (ys.map V.str)) ∧ ys.length = W.length ∧ WL (upd H p (.lst (ys.map V.str ++ [.str z]))) p (W ++ [TL.tl z]) := by
  obtain ⟨ys, h1, h2⟩ := h
  refine ⟨ys, h1, by rw [← h2, List.length_map], ys ++ [z], by rw [upd_same, List.map_append]; rfl, by rw [List.map_append, h2]; rfl⟩
theorem lst_app {ys zs : List Str} : ys.map V.str ++ zs.map V.str = (ys ++ zs).map V.str := (List.map_append ..).symm
abbrev nJL : List Str := ["steps", "weights", "words", "row", "text", "n"]
theorem scJL : FnScope nJL ["steps", "weights"] (defScope sJL) := ⟨rfl, rfl, rfl, by decide +kernel, rfl, by decide +kernel, by decide +kernel⟩
theorem ok_jl {f : Addr} {fd : FuncData} (F : Fun K "journal_line" "journal_line" sJL f fd) (cWI : Calls P w K mg base CX0 1 "write_integer" ["n"] spWI) (cCN : Calls P w K mg base CX0 1 "check_number" ["text"] spCN) : FnOk P w K mg base CX0 2 f fd ["steps", "weights"] (spJL K) := by
  obtain ⟨fWI, dWI, GWI, kWI, bWI, gWI⟩ := cWI.ex
  obtain ⟨fCN, dCN, GCN, kCN, bCN, gCN⟩ := cCN.ex
  refine F.ok scJL (fun vs H Q E h => ?_) (fun cdv A outer s H vs Q E hr1 h => ?_)
  · obtain ⟨_, _, _, _, rfl, _⟩ := h
    rfl
  · obtain ⟨st, p, fs, ws, rfl, hst, hp, hF, hB, hlen, q⟩ := h
    refine ⟨_, (pss_cons (ps_set (i := 2) scJL.nd rfl (.inl rfl) (pe_lst (pa_cons pe_str (pa_cons (pe_call GWI hr1 (by rfl) gWI kWI bWI .nil pass0 (pa_cons (pv 0) pa_nil)) pa_nil))))
      (pss_cons (ps_for PassesOwn.never rfl (pi_tup (pv 1)) (pg_name (i := 3) scJL.nd rfl (.inl rfl)) (pss_cons (ps_expr (pe_bm PySem.F.plainAttrs_list PySem.F.slot_list_append PySem.F.type_list_append mt_append (pv 2) (pa_cons pe_str pa_nil)))
      (pss_one (ps_expr (pe_bm PySem.F.plainAttrs_list PySem.F.slot_list_extend PySem.F.type_list_extend mt_extend (pv 2) (pa_cons (pe_lc (own := [("n", 5)]) (g := (gName 5)) (tt := tYes) (te := (tCall spWI [] E0 (tCons (tVar 5) tNil))) rfl scJL.nd (pi_tup (pv 3)) (blkOk_by (N := nJL) (sc := defScope sJL) (by decide +kernel)) (fun _ _ _ _ _ => (pg_name (i := 5) scJL.nd rfl (.inl rfl) (hf := Or.inr rfl))) (fun _ _ _ _ _ => pts_nil) (fun _ _ _ _ _ => (pe_call GWI hr1 (by rfl) gWI kWI bWI .nil pass0 (pa_cons (pv 5) pa_nil)))) pa_nil))))))
      (pss_cons (ps_set (i := 4) scJL.nd rfl (.inl rfl) (pe_join pe_str (pv 2)))
      (pss_one (ps_ret (pe_joined (.cons (pe_fmt (pv 4)) (.cons pe_str (.cons (pe_fmt (pe_call GCN hr1 (by rfl) gCN kCN bCN .nil pass0 (pa_cons (pv 4) pa_nil))) (.cons pe_str .nil)))))))))), ?_⟩
    refine ⟨_, rfl, st, rfl, hst, fun H1 z1 s1 hz1 => ?_⟩
    refine ⟨by show 2 ≤ sizeLine; decide, fun pw nw => ?_⟩
    have nw0 : H pw = none := by
      cases e : H pw with
      | none => rfl
      | some o => rw [s1 _ _ e] at nw; cases nw
    have hw0 : WL (upd H1 pw (.lst [.str "step", .str z1])) pw (jw st []) := ⟨["step", z1], upd_same, by
      show [TL.tl ("step" : Str), TL.tl z1] = _
      rw [hz1]
      rfl⟩
    refine ⟨_, rfl, p, rfl, ⟨_, sqT_same (sqT_same hp s1) (same_upd nw)⟩, for_tup (K := K) (a := p) (xs := fs) (fun i σ H' => ∃ v : Option V, σ = [some (.int st), some (.ref p), some (.ref pw), v, none, none] ∧ Same H H' ∧ WL H' pw (jw st (ws.take i))) ⟨_, rfl, s1.trans (same_upd nw), hw0⟩ ?_ ?_ ?_⟩
    · rintro i σ H' _ ⟨v, rfl, sm, _⟩
      exact sqT_same hp sm
    · rintro i x σ H' hx ⟨v, rfl, sm, hW⟩
      obtain ⟨r, hr⟩ : ∃ r, ws[i]? = some r := ⟨_, List.getElem?_eq_getElem (by rw [← hF.1]; exact (List.getElem?_eq_some_iff.mp hx).1)⟩
      obtain ⟨pr, rfl, hpr⟩ := hF.2 i x r hx hr
      obtain ⟨hr10, hrn⟩ := hB.2 r (List.mem_of_getElem? hr)
      have hi10 : i < 10 := Nat.lt_of_lt_of_le (List.getElem?_eq_some_iff.mp hr).1 hB.1
      have hjl : ∀ a : List (List Int), a.length ≤ 10 → (∀ r ∈ a, r.length ≤ 30) → (jw st a).length ≤ 400 := fun a h1 h2 => by
        show (rws a).length + 1 + 1 ≤ 400
        rw [rws_len]
        have : (a.map List.length).sum ≤ a.length * 30 := by
          clear h1
          induction a with
          | nil => exact Nat.le_refl _
          | cons y a ih =>
            have h3 := h2 y List.mem_cons_self
            have h4 := ih fun r hr => h2 r (List.mem_cons_of_mem _ hr)
            rw [List.map_cons, List.sum_cons, List.length_cons]
            omega
        omega
      have hWl : (jw st (ws.take i)).length ≤ 400 := hjl _ (by rw [List.length_take]; omega) fun r hr => (hB.2 r (List.mem_of_mem_take hr)).1
      obtain ⟨ys, hys, hyl, hW1⟩ := hW.app (z := (";" : Str))
      refine ⟨_, rfl, .inl ⟨rfl, _, SqL.of hys⟩, pw, _, _, rfl, rfl, hys, by rw [List.length_map]; exact small64 (by omega), ?_⟩
      have npw : ∀ {b : Addr} {o : HO}, H b = some o → b ≠ pw := fun {b o} e z => by rw [z, nw0] at e; cases e
      have sm1 : Same H (upd H' pw (.lst (ys.map V.str ++ [.str ";"]))) := fun b o e => by rw [upd_ne (npw e)]; exact sm b o e
      generalize upd H' pw (.lst (ys.map V.str ++ [.str ";"])) = H2 at hW1 sm1
      obtain ⟨y2, hy2, hy2W⟩ := id hW1
      have hpr2 := sqT_same hpr sm1
      refine ⟨_, rfl, .inl ⟨rfl, _, SqL.of hy2⟩, _, rfl, pr, rfl, ⟨_, hpr2⟩, fun D nD => lc_tup (K := K) (a := pr) (xs := r.map V.int) (fun j H' => Same H2 H' ∧ ∃ zs : List Str, H' D = some (.lst (zs.map V.str)) ∧ zs.map TL.tl = (r.take j).map txt) ⟨same_upd nD, [], upd_same, rfl⟩ (fun j H' _ h => sqT_same hpr2 h.1) ?_ ?_⟩
      · rintro j x H3 hx3 ⟨sm3, zs, hD, hzs⟩
        obtain ⟨n, rfl, hn⟩ := map_int_at hx3
        refine ⟨rfl, ?_⟩
        unfold tYes
        dsimp only
        rw [if_pos rfl]
        refine ⟨_, rfl, n, rfl, hrn n (List.mem_of_getElem? hn), fun H4 z4 s4 hz4 => ⟨_, s4 _ _ hD, ?_, ?_, zs ++ [z4], ?_, ?_⟩⟩
        · have := congrArg List.length hzs
          rw [List.length_map, List.length_map, List.length_take] at this
          rw [List.length_map]
          exact small64 (by omega)
        · exact fun b o e => by rw [upd_ne (ne_of_none e nD)]; exact s4 _ _ (sm3 _ _ e)
        · rw [upd_same, List.map_append]
          rfl
        · rw [take_snoc hn, List.map_append, List.map_append, hzs]
          show _ ++ [TL.tl z4] = _ ++ [txt n]
          rw [hz4]
      · rintro H3 ⟨sm3, zs, hD, hzs⟩
        rw [List.length_map, List.take_length] at hzs
        have hz3 : zs.length ≤ 30 := by
          have := congrArg List.length hzs
          rw [List.length_map, List.length_map] at this
          omega
        have hy2l : y2.length ≤ 401 := by
          have := congrArg List.length hy2W
          rw [List.length_map, List.length_append] at this
          simp at this
          omega
        refine ⟨pw, D, _, _, rfl, rfl, sm3 _ _ hy2, hD, by rw [List.length_map, List.length_map]; exact size64 (by omega), ?_⟩
        refine ⟨_, rfl, fun b o e => by rw [upd_ne (npw e)]; exact sm3 _ _ (sm1 _ _ e), y2 ++ zs, by rw [upd_same, lst_app], ?_⟩
        rw [List.map_append, hy2W, hzs, take_snoc hr, jw_app]
        rw [List.append_assoc]
        rfl
    · rintro σ H' ⟨v, rfl, sm, ys, hys, hW⟩
      rw [show fs.length = ws.length from hF.1, List.take_length] at hW
      have hbig : (ys.map (·.length)).sum + ys.length * 1 ≤ 16777216 := by
        rw [lsum_strs, hW, lsum_join (jw st ws) (List.cons_ne_nil _ _)]
        have : (jt st ws).length ≤ 2900 := by
          unfold jl at hlen
          rw [List.length_append] at hlen
          omega
        have h2 : (TL.joinL [32] (jw st ws)).length ≤ 2900 := this
        omega
      refine ⟨⟨_, rfl⟩, _, rfl, " ", pw, ys, rfl, rfl, .inl (SqL.of hys), hbig, ?_⟩
      have hj : TL.tl (Txt.join " " ys) = jt st ws := by
        rw [join_tl, hW]
        rfl
      generalize Txt.join " " ys = zt at hj
      have hjl2 : (jt st ws).length ≤ 2900 ∧ (txt (chk (jt st ws))).length ≤ 2900 := by
        unfold jl at hlen
        simp only [List.length_append, List.length_cons] at hlen
        omega
      have hzt : zt.length ≤ 2900 := by rw [TL.len_tl, hj]; exact hjl2.1
      have hch : chk (jt st ws) < 65521 := Nat.mod_lt _ (by decide)
      have hcl := str_len (n := (chk (jt st ws) : Nat)) (by
        have : (65521 : Nat) < 10 ^ 60 := by decide +kernel
        omega)
      have c0 : chk (TL.tl zt) = chk (jt st ws) := by rw [hj]
      have hlg : ((chk (TL.tl zt) : Nat) : Int).natAbs < 10 ^ 60 := by
        have : (65521 : Nat) < 10 ^ 60 := by decide +kernel
        rw [c0]
        omega
      rw [← c0] at hcl
      have e1 : (" check " : Str).length = 7 := by decide +kernel
      have e2 : ("\n" : Str).length = 1 := by decide +kernel
      refine ⟨_, rfl, .inl ⟨zt, rfl, size64 (by omega), _, rfl, ?_, _, rfl, ?_, _, rfl, zt, rfl, by omega, fun H2 s2 => .inr ⟨(chk (TL.tl zt) : Nat), rfl, log60 hlg, _, rfl, ?_, _, rfl, ?_, q _ _ (sm.trans s2) ?_⟩⟩⟩
      · exact size64 (by rw [PySem.Str.length_append]; show 0 + _ ≤ _; omega)
      · exact size64 (by rw [PySem.Str.length_append, PySem.Str.length_append, e1]; show 0 + _ + _ ≤ _; omega)
      · exact size64 (by rw [PySem.Str.length_append, PySem.Str.length_append, PySem.Str.length_append, e1]; show 0 + _ + _ + _ ≤ _; omega)
      · exact size64 (by rw [PySem.Str.length_append, PySem.Str.length_append, PySem.Str.length_append, PySem.Str.length_append, e1, e2]; show 0 + _ + _ + _ + _ ≤ _; omega)
      · rw [TL.tl_append, TL.tl_append, TL.tl_append, TL.tl_append, str_txt, hj]
        have e3 : TL.tl (" check " : Str) = 32 :: chw ++ [32] := by decide +kernel
        have e4 : TL.tl ("\n" : Str) = [10] := by decide +kernel
        rw [e3, e4]
        unfold jl
        show [] ++ jt st ws ++ _ ++ _ ++ _ = _
        simp only [List.nil_append, List.append_assoc, List.cons_append]
end

section
open PySem.Spec PyProof.Rows
variable {X : Cx} {C : Addr} {bmB : List Value} {B newId initId : String}
/-- X('m'), its record known to have its six fields -/
theorem pmk5_own {x m : Str} {j : Nat} {p p2 pos : Pos} (F : ExcBaseFacts B newId initId bmB) (xi : PySem.W.excIn X.K C bmB newId = true) (hC : X.mg x = some (.ref C)) (kp : PySem.W.keepIn X.K (.ref C) = true) (rs : Raises X (.ref C)) (hg : Gl X x)
    (hdb : (x == ("__debug__" : Str)) = false := by decide) : L2H.PMk5 X (.Call (.Name x p) [.Constant (.str m) j p2] [] pos) (fun _ H Q => Q (.ref C) none H) := by
  intro pins s σ H Q I wish
  have args : PA X [.Constant (.str m) j p2] (tCons (tC (.str m)) tNil) := pa_cons pe_str pa_nil
  refine wpAny_Call_Name_kw (ld_glob I hg hC (PySem.W.callWith_K (h₀ := X.base) I.ok.mod.kin kp (thn (args.run pos pins s σ H (fun vs H1 => vs = [V.str m] ∧ H = H1) I ⟨rfl, rfl⟩) fun us s1 got => ?_)) hdb)
  obtain ⟨vs, H1, I1, rv, e1, e2⟩ := got
  subst e1
  subst e2
  refine ⟨I1.kIn, ?_⟩
  obtain ⟨u, rfl, _⟩ := vals1 rv
  obtain ⟨bm, N, nm, qn, bs, hdct, sn, sub, ab, col, dd, k0, k1, k2, k3, k5, mN, hO, hN, hni, T⟩ := exc_obj I1.kIn xi
  exact wpAny_call_exc_subT F T hO hN hni (fun h' e hm => L2H.mk_of5 I1 hm rs wish (I1.hok.gone hm.new)) (by show 1 ≤ sizeLine; rw [sizeLine_eq]; omega)
end
theorem iteB {b c : Bool} {A B : Prop} (h : b = c) (k : if c = true then A else B) : if b = true then A else B := by
  rw [h]
  exact k
theorem split_wds (z : Str) : (Txt.split z " ").map TL.tl = wds (TL.tl z) := by
  rw [TL.split_spl z " " (by decide) (TL.kind_ok (by decide +kernel))]
  exact spl_eq _
theorem mem_sum : ∀ {l : List Nat} {n : Nat}, n ∈ l → n ≤ l.sum
  | a :: l, n, h => by
    rw [List.sum_cons]
    rcases List.mem_cons.mp h with rfl | h
    · omega
    · have := mem_sum h
      omega
theorem cut_nat (xs : List V) (i n : Nat) : cutV xs (some (i : Int)) (some ((i : Int) + n)) = (xs.drop i).take n := by
  have e : ((i : Int) + n) = ((i + n : Nat) : Int) := by omega
  unfold cutV
  rw [e, HT.sIx_nat, HT.sIx_nat]
  by_cases h : i ≤ xs.length
  · rw [Nat.min_eq_left h]
    refine List.take_eq_take_iff.mpr ?_
    rw [List.length_drop]
    omega
  · rw [List.drop_eq_nil_of_le (show xs.length ≤ min i xs.length by omega), List.drop_eq_nil_of_le (by omega), List.take_nil, List.take_nil]
theorem mapM_none {w : List Nat} (h : num w = none) (a b : List (List Nat)) : (a ++ w :: b).mapM num = none := by
  rw [List.mapM_append, List.mapM_cons, h]
  cases a.mapM num <;> rfl
theorem mapM_snoc {a : List (List Nat)} {vs : List Int} {w : List Nat} {n : Int} (h : a.mapM num = some vs) (hw : num w = some n) : (a ++ [w]).mapM num = some (vs ++ [n]) := by
  rw [List.mapM_append, h, List.mapM_cons, hw]
  rfl
theorem mapM_len : ∀ {a : List (List Nat)} {vs : List Int}, a.mapM num = some vs → vs.length = a.length
  | [], vs, h => by
    cases h
    rfl
  | w :: a, vs, h => by
    rw [List.mapM_cons] at h
    cases e1 : num w with
    | none =>
      rw [e1] at h
      cases h
    | some n =>
      cases e2 : a.mapM num with
      | none =>
        rw [e1, e2] at h
        cases h
      | some us =>
        rw [e1, e2] at h
        cases h
        rw [List.length_cons, List.length_cons, mapM_len e2]
theorem mapM_mem : ∀ {a : List (List Nat)} {vs : List Int}, a.mapM num = some vs → ∀ n ∈ vs, ∃ w ∈ a, num w = some n
  | [], vs, h, n, hn => by
    cases h
    cases hn
  | w :: a, vs, h, n, hn => by
    rw [List.mapM_cons] at h
    cases e1 : num w with
    | none =>
      rw [e1] at h
      cases h
    | some m =>
      cases e2 : a.mapM num with
      | none =>
        rw [e1, e2] at h
        cases h
      | some us =>
        rw [e1, e2] at h
        cases h
        rcases List.mem_cons.mp hn with rfl | hn
        · exact ⟨w, List.mem_cons_self, e1⟩
        · obtain ⟨v, h1, h2⟩ := mapM_mem e2 n hn
          exact ⟨v, List.mem_cons_of_mem _ h1, h2⟩
theorem val_lt : ∀ (n : Nat) (l : List Nat), l.length = n → NumText.AllDigits l → NumText.digitsVal l < 10 ^ n := by
  intro n
  induction n with
  | zero =>
    intro l hl _
    rw [List.length_eq_zero_iff.mp hl]
    decide
  | succ n ih =>
    intro l hl h
    obtain ⟨r, c, rfl⟩ : ∃ r c, l = r ++ [c] := ⟨l.dropLast, l.getLast (by intro z; rw [z] at hl; cases hl), (List.dropLast_concat_getLast _).symm⟩
    have h1 := ih r (by simpa using hl) fun x hx => h x (List.mem_append_left _ hx)
    have hc := h c (List.mem_append_right _ List.mem_cons_self)
    have e : NumText.digitsVal (r ++ [c]) = NumText.digitsVal r * 10 + (c - 48) := by
      unfold NumText.digitsVal
      rw [List.foldl_append]
      rfl
    rw [e, Nat.pow_succ]
    omega
theorem num_lt {w : List Nat} {n : Int} (h : num w = some n) (hl : w.length ≤ 60) : n.natAbs < 10 ^ 60 := by
  unfold num at h
  by_cases hd : digB (bare w) = true
  · rw [if_pos hd] at h
    have hv := val_lt _ _ rfl (digB_iff.mp hd).2
    have hb := bare_len w
    have h3 : NumText.digitsVal (bare w) < 10 ^ 60 := Nat.lt_of_lt_of_le hv (Nat.pow_le_pow_right (by decide) (by omega))
    split at h
    · cases h
    · split at h <;> cases h <;> omega
  · rw [if_neg hd] at h
    cases h
theorem rdw_ok : ∀ {sz : List Nat} {W : List (List Nat)} {ws : List (List Int)}, rdw sz W = some ws → (∀ w ∈ W, w.length ≤ 60) → ws.length = sz.length ∧ (∀ r ∈ ws, (∀ n ∈ r, n.natAbs < 10 ^ 60)) ∧ (ws.map List.length).sum ≤ sz.sum ∧ ∀ r ∈ ws, r.length ≤ sz.sum
  | [], W, ws, h, _ => by
    cases h
    exact ⟨rfl, (fun _ h => by cases h), Nat.le_refl _, fun _ h => by cases h⟩
  | n :: sz, W, ws, h, hW => by
    unfold rdw at h
    cases e1 : ((W.drop 1).take n).mapM num with
    | none =>
      rw [e1] at h
      cases h
    | some r =>
      rw [e1, Option.bind_some] at h
      cases e2 : rdw sz (W.drop (1 + n)) with
      | none =>
        rw [e2] at h
        cases h
      | some rs =>
        rw [e2] at h
        cases h
        obtain ⟨h1, h2, h3, h4⟩ := rdw_ok e2 fun w hw => hW w (List.mem_of_mem_drop hw)
        have hl : r.length ≤ n := by
          rw [mapM_len e1, List.length_take]
          omega
        refine ⟨by rw [List.length_cons, List.length_cons, h1], fun r' hr' => ?_, ?_, fun r' hr' => ?_⟩
        · rcases List.mem_cons.mp hr' with rfl | hr'
          · intro m hm
            obtain ⟨w, hw, e⟩ := mapM_mem e1 m hm
            exact num_lt e (hW w (List.mem_of_mem_drop (List.mem_of_mem_take hw)))
          · exact h2 r' hr'
        · rw [List.map_cons, List.sum_cons, List.sum_cons]
          omega
        · rw [List.sum_cons]
          rcases List.mem_cons.mp hr' with rfl | hr'
          · omega
          · have := h4 r' hr'
            omega
theorem lsum_rws : ∀ {ws : List (List Int)}, (∀ r ∈ ws, ∀ n ∈ r, n.natAbs < 10 ^ 60) → lsum (rws ws) ≤ 2 * ws.length + 62 * (ws.map List.length).sum
  | [], _ => Nat.le_refl _
  | r :: rs, h => by
    have ih := lsum_rws (ws := rs) fun r' hr' => h r' (List.mem_cons_of_mem _ hr')
    have app : ∀ (a b : List (List Nat)), lsum (a ++ b) = lsum a + lsum b := fun a b => by
      induction a with
      | nil => rw [List.nil_append]; show lsum b = 0 + lsum b; omega
      | cons x a ih =>
        show x.length + 1 + lsum (a ++ b) = x.length + 1 + lsum a + lsum b
        omega
    have hr : ∀ l : List Int, (∀ n ∈ l, n.natAbs < 10 ^ 60) → lsum (l.map txt) ≤ 62 * l.length := fun l hl => by
      induction l with
      | nil => exact Nat.le_refl _
      | cons n l ih =>
        have h1 := txt_len' (n := n) (k := 60) (by decide) (hl n List.mem_cons_self)
        have h2 := ih fun m hm => hl m (List.mem_cons_of_mem _ hm)
        show (txt n).length + 1 + lsum (l.map txt) ≤ 62 * (l.length + 1)
        omega
    have h3 := hr r (h r List.mem_cons_self)
    show 1 + 1 + lsum (r.map txt ++ rws rs) ≤ 2 * (rs.length + 1) + 62 * (r.length :: rs.map List.length).sum
    rw [app, List.sum_cons]
    omega
theorem jl_len {st : Int} {ws : List (List Int)} (hs : st.natAbs < 10 ^ 60) (h : ∀ r ∈ ws, ∀ n ∈ r, n.natAbs < 10 ^ 60) (hl : ws.length ≤ 5) (hm : (ws.map List.length).sum ≤ 30) : (jl st ws).length ≤ 2100 := by
  have h1 := lsum_rws h
  have h2 := txt_len' (n := st) (k := 60) (by decide) hs
  have h3 : lsum (jw st ws) = 5 + ((txt st).length + 1 + lsum (rws ws)) := rfl
  have h4 := lsum_join (jw st ws) (List.cons_ne_nil _ _)
  have h5 : (jt st ws).length = (TL.joinL [32] (jw st ws)).length := rfl
  have hch : chk (jt st ws) < 65521 := Nat.mod_lt _ (by decide)
  have h6 := txt_len' (n := ((chk (jt st ws) : Nat) : Int)) (k := 5) (by decide) (by
    have : (65521 : Nat) < 10 ^ 5 := by decide
    omega)
  have h7 : chw.length = 5 := rfl
  unfold jl
  rw [List.length_append, List.length_append, List.length_cons, List.length_cons]
  omega
section
variable {P : Program} {w : World} {K : PySem.W.Frag} {mg : Str → Option Value} {base : Heap}
/-! ### _read_weights -/
def spRW (K : PySem.W.Frag) (X : Addr) : Sp := fun vs H Q E => ∃ (pw ps : Addr) (W : List (List Nat)) (sz : List Nat), vs = [.ref pw, .ref ps] ∧ WL H pw W ∧ SqT K H ps (sz.map fun n : Nat => V.int (n : Int)) ∧ sz.length ≤ 5 ∧ sz.sum ≤ 30 ∧ (∀ w ∈ W, w.length ≤ 60) ∧
  ∀ H', Same H H' → (rdw sz (W.drop 2) = none → E (.ref X) none H') ∧ (∀ ws, rdw sz (W.drop 2) = some ws → ∀ p fs, SqT K H' p fs → Fds K H' fs ws → Q (.ref p) H')
abbrev nRW : List Str := ["words", "sizes", "weights", "at", "size", "word"]
theorem scRW : FnScope nRW ["words", "sizes"] (defScope sRW) := ⟨rfl, rfl, rfl, by decide +kernel, rfl, by decide +kernel, by decide +kernel⟩
theorem ok_rw {f ZT : Addr} {fd : FuncData} (F : Fun K "_read_weights" "_read_weights" sRW f fd) (T : Txt mg) (lD : ∃ u, mg "_DIGITS_LIMIT" = some u ∧ RelV (.int 70) u) (cRI : Calls P w K mg base (L2N.CX P w) 1 "read_integer" ["text", "most"] (spReadInt ZT)) : FnOk P w K mg base (L2N.CX P w) 2 f fd ["words", "sizes"] (spRW K ZT) := by
  obtain ⟨fRI, dRI, GRI, kRI, bRI, gRI⟩ := cRI.ex
  obtain ⟨uD, glD, rlD⟩ := lD
  refine okXN F scRW (fun vs H Q E h => ?_) (fun cdv A outer s H vs Q E hr1 h => ?_)
  · obtain ⟨_, _, _, _, rfl, _⟩ := h
    rfl
  · obtain ⟨pw, ps, W, sz, rfl, hW, hps, hl5, hs30, hW60, q⟩ := h
    obtain ⟨ys, hys, hyW⟩ := hW
    refine ⟨_, (pss_cons (ps_set (i := 2) scRW.nd rfl (.inl rfl) (pe_lst pa_nil))
      (pss_cons (ps_set (i := 3) scRW.nd rfl (.inl rfl) pe_int)
      (pss_cons (ps_for (passes_of rfl) rfl (pi_tup (pv 1)) (pg_name (i := 4) scRW.nd rfl (.inl rfl)) (pss_cons (ps_expr (pe_bm PySem.F.plainAttrs_list PySem.F.slot_list_append PySem.F.type_list_append mt_append (pv 2) (pa_cons (pe_callTy call_tuple_of (by rfl) T.tuple (by decide +kernel) (pa_cons (pe_lcN rfl rfl (L2N.takes_of rfl rfl rfl rfl) (own := [("word", 5)]) (g := (gName 5)) (tt := tYes) (te := (tCallS (spReadInt ZT) (fun _ => E) (tCons (tVar 5) (tCons (tC (.int 70)) tNil)))) rfl scRW.nd (pi_list (pe_slice sl_list (pv 0) (po_some (pe_op op_add (pv 3) pe_int)) (po_some (pe_op op_add (pe_op op_add (pv 3) pe_int) (pv 4))))) (blkOk_by (N := nRW) (sc := defScope sRW) (by decide +kernel)) (fun _ _ _ _ _ _ => (pg_name (i := 5) scRW.nd rfl (.inl rfl) (hf := Or.inr rfl))) (fun _ _ _ _ _ _ => pts_nil) (fun _ _ _ _ _ _ hpX => (pe_callS GRI hr1 (by rfl) gRI kRI bRI hpX (pa_cons (pv 5) (pa_cons (pe_glob (v := (.int 70)) (by rfl) glD rlD) pa_nil))))) pa_nil)) pa_nil)))
      (pss_one (ps_set (i := 3) scRW.nd rfl (.inl rfl) (pe_op op_add (pe_op op_add (pv 3) pe_int) (pv 4))))))
      (pss_one (ps_ret (pe_callTy call_tuple_of (by rfl) T.tuple (by decide +kernel) (pa_cons (pv 2) pa_nil))))))), ?_⟩
    refine ⟨Nat.zero_le _, fun pl nl => ?_⟩
    have npl : ∀ {b : Addr} {o : HO}, H b = some o → b ≠ pl := fun {b o} e z => by rw [z, nl] at e; cases e
    refine ⟨_, rfl, ps, rfl, ⟨_, sqT_same hps (same_upd nl)⟩, for_tup (K := K) (a := ps) (xs := sz.map fun n : Nat => V.int (n : Int)) (fun i σ H' => ∃ (A : Nat) (v : Option V) (fs : List V) (wsi : List (List Int)), σ = [some (.ref pw), some (.ref ps), some (.ref pl), some (.int (A : Int)), v, none] ∧ Same H H' ∧ H' pl = some (.lst fs) ∧ Fds K H' fs wsi ∧ wsi.length = i ∧
      rdw sz (W.drop 2) = (rdw (sz.drop i) (W.drop A)).map (wsi ++ ·)) ⟨2, _, [], [], rfl, same_upd nl, upd_same, Fds.nil, rfl, by rw [List.drop_zero]; cases rdw sz (W.drop 2) <;> rfl⟩ ?_ ?_ ?_⟩
    · rintro i σ H' _ ⟨A, v, fs, wsi, rfl, sm, _⟩
      exact sqT_same hps sm
    · rintro i x σ H' hx ⟨A, v, fs, wsi, rfl, sm, hpl, hF, hwi, hrd⟩
      rw [List.getElem?_map] at hx
      obtain ⟨n, hn, rfl⟩ := Option.map_eq_some_iff.mp hx
      have hi5 : i < 5 := Nat.lt_of_lt_of_le (List.getElem?_eq_some_iff.mp hn).1 hl5
      have hfs : fs.length = i := by rw [hF.1, hwi]
      have hys' := sm _ _ hys
      have hcut : cutV (ys.map V.str) (some ((A : Int) + 1)) (some ((A : Int) + 1 + n)) = ((ys.drop (A + 1)).take n).map V.str := by
        have := cut_nat (ys.map V.str) (A + 1) n
        rw [Int.natCast_add] at this
        rw [List.map_take, List.map_drop]
        exact this
      have hWs : ((ys.drop (A + 1)).take n).map TL.tl = ((W.drop A).drop 1).take n := by
        rw [List.map_take, List.map_drop, hyW, List.drop_drop]
      have hstep : rdw (sz.drop i) (W.drop A) = ((((W.drop A).drop 1).take n).mapM num).bind fun r => (rdw (sz.drop (i + 1)) ((W.drop A).drop (1 + n))).map (r :: ·) := by
        rw [drop_at hn]
        rfl
      refine ⟨_, rfl, .inl ⟨rfl, _, SqL.of hpl⟩, _, rfl, _, rfl, _, _, rfl, rfl, _, rfl, _, rfl, _, _, rfl, rfl, _, rfl, _, _, rfl, rfl, _, rfl, pw, _, rfl, SqL.of hys', fun S nS => ?_⟩
      have hS : (upd H' S (.lst (cutV (ys.map V.str) (some ((A : Int) + 1)) (some ((A : Int) + 1 + (n : Int)))))) S = some (.lst (((ys.drop (A + 1)).take n).map V.str)) := by rw [upd_same, hcut]
      have smS : Same H' (upd H' S (.lst (cutV (ys.map V.str) (some ((A : Int) + 1)) (some ((A : Int) + 1 + (n : Int)))))) := same_upd nS
      have hzy : ∀ z ∈ (ys.drop (A + 1)).take n, z.length ≤ 60 := fun z hz => by
        rw [TL.len_tl]
        refine hW60 _ ?_
        rw [← hyW]
        exact List.mem_map.mpr ⟨z, List.mem_of_mem_drop (List.mem_of_mem_take hz), rfl⟩
      have hzn : ((ys.drop (A + 1)).take n).length ≤ 30 := by
        have h1 : n ≤ sz.sum := mem_sum (List.mem_of_getElem? hn)
        rw [List.length_take]
        omega
      generalize (ys.drop (A + 1)).take n = zs at hS hWs hzy hzn
      generalize upd H' S _ = H2 at hS smS
      refine ⟨S, rfl, ⟨_, SqL.of hS⟩, fun D nD => lc_list (K := K) (a := S) (xs := zs.map V.str) (fun j H3 => Same H2 H3 ∧ ∃ vs : List Int, H3 D = some (.lst (vs.map V.int)) ∧ ((zs.map TL.tl).take j).mapM num = some vs) ⟨same_upd nD, [], upd_same, rfl⟩ (fun j H3 _ h => SqL.of (h.1 _ _ hS)) ?_ ?_⟩
      · rintro j x H3 hx3 ⟨sm3, vs, hD, hm⟩
        rw [List.getElem?_map] at hx3
        obtain ⟨z, hz, rfl⟩ := Option.map_eq_some_iff.mp hx3
        have hzt : (zs.map TL.tl)[j]? = some (TL.tl z) := by rw [List.getElem?_map, hz]; rfl
        have hj : j < zs.length := (List.getElem?_eq_some_iff.mp hz).1
        refine ⟨rfl, ?_⟩
        unfold tYes
        dsimp only
        rw [if_pos rfl]
        refine ⟨_, rfl, z, rfl, by have := hzy z (List.mem_of_getElem? hz); omega, fun hno => ?_, fun m hmm => ⟨_, hD, ?_, ?_, vs ++ [m], ?_, ?_⟩⟩
        · refine (q _ ((sm.trans smS).trans sm3)).1 ?_
          rw [hrd, hstep, ← hWs, ← List.take_append_drop j (zs.map TL.tl), drop_at hzt, mapM_none hno]
          rfl
        · have := mapM_len hm
          rw [List.length_take, List.length_map] at this
          rw [List.length_map]
          exact small64 (by omega)
        · exact fun b o e => by rw [upd_ne (ne_of_none e nD)]; exact sm3 _ _ e
        · rw [upd_same, List.map_append]
          rfl
        · rw [take_snoc hzt]
          exact mapM_snoc hm hmm
      · rintro H3 ⟨sm3, vs, hD, hm⟩
        rw [List.length_map, ← List.length_map (f := TL.tl), List.take_length] at hm
        have hpl3 := sm3 _ _ (smS _ _ hpl)
        refine ⟨D, _, rfl, .inl ⟨SqL.of hD, fun t nt => ?_⟩⟩
        have smt : Same H3 (upd H3 t (.tup (vs.map V.int))) := same_upd nt
        have ntp : t ≠ pl := fun e => by rw [e, hpl3] at nt; cases nt
        refine ⟨pl, _, _, rfl, rfl, smt _ _ hpl3, by rw [hfs]; exact small64 (by omega), ?_⟩
        refine ⟨_, rfl, _, _, rfl, rfl, _, rfl, _, _, rfl, rfl, ?_⟩
        refine ⟨A + 1 + n, some (.int (n : Int)), fs ++ [.ref t], wsi ++ [vs], ?_, ?_, upd_same, ?_, by rw [List.length_append, hwi]; rfl, ?_⟩
        · rw [Int.natCast_add, Int.natCast_add]
          rfl
        · exact fun b o e => by rw [upd_ne (npl e)]; exact smt _ _ (sm3 _ _ (smS _ _ (sm _ _ e)))
        · exact ((hF.same ((smS.trans sm3).trans smt)).nl (nl_upd (smt _ _ hpl3))).snoc (SqT.of (by rw [upd_ne ntp]; exact upd_same))
        · rw [hrd, hstep, ← hWs, hm, Option.bind_some, List.drop_drop, show A + (1 + n) = A + 1 + n by omega, Option.map_map]
          congr 1
          funext y
          show wsi ++ (vs :: y) = wsi ++ [vs] ++ y
          rw [List.append_assoc]
          rfl
    · rintro σ H' ⟨A, v, fs, wsi, rfl, sm, hpl, hF, hwi, hrd⟩
      rw [List.length_map] at hwi hrd
      rw [List.drop_length] at hrd
      have e : rdw sz (W.drop 2) = some wsi := by
        rw [hrd]
        show some (wsi ++ []) = _
        rw [List.append_nil]
      refine ⟨_, rfl, pl, _, rfl, .inl ⟨SqL.of hpl, fun l hl => ?_⟩⟩
      exact (q _ (sm.trans (same_upd hl))).2 wsi e l fs (SqT.of upd_same) (hF.same (same_upd hl))
/-! ### read_line -/
theorem sum_cast : ∀ l : List Nat, (l.map fun n : Nat => (n : Int)).sum = ((l.sum : Nat) : Int)
  | [] => rfl
  | a :: l => by
    rw [List.map_cons, List.sum_cons, List.sum_cons, sum_cast l, Int.natCast_add]
theorem map_cast (l : List Nat) : (l.map fun n : Nat => (n : Int)).map V.int = l.map fun n : Nat => V.int (n : Int) := by
  rw [List.map_map]
  rfl
def RdE (K : PySem.W.Frag) (r : Option (Int × List (List Int))) (Q : VK) (N : Hp → Prop) (H' : Hp) : Prop := (r = none → N H') ∧ ∀ st ws, r = some (st, ws) → ∀ p pw fs, SqT K H' p [.int st, .ref pw] → SqT K H' pw fs → Fds K H' fs ws → Q (.ref p) H'
def spRL (K : PySem.W.Frag) (X : Addr) : Sp := fun vs H Q E => ∃ (z : Str) (ps : Addr) (sz : List Nat), vs = [.str z, .ref ps] ∧ z.length ≤ 9000 ∧ SqT K H ps (sz.map fun n : Nat => V.int (n : Int)) ∧ sz.length ≤ 5 ∧ sz.sum ≤ 30 ∧ ((wds (TL.tl z)).length = 4 + sz.length + sz.sum → ∀ w ∈ wds (TL.tl z), w.length ≤ 60) ∧
  ∀ H', Same H H' → RdE K (rdl sz (TL.tl z)) Q (E (.ref X) none) H'
theorem wds_le (l : List Nat) : (wds l).length ≤ l.length + 1 := by
  rw [wds_len]
  have := List.count_le_length (a := 32) (l := l)
  omega
abbrev nRL : List Str := ["line", "sizes", "words", "steps", "weights"]
theorem scRL : FnScope nRL ["line", "sizes"] (defScope sRL) := ⟨rfl, rfl, rfl, by decide +kernel, rfl, by decide +kernel, by decide +kernel⟩
theorem ok_rl {f ZT ZJ : Addr} {fd : FuncData} (F : Fun K "read_line" "read_line" sRL f fd) (T : Txt mg) (lD : ∃ u, mg "_DIGITS_LIMIT" = some u ∧ RelV (.int 70) u) (RJ : ErrR K mg "JournalError" ZJ) (NT : ErrN K mg "TextError" ZT) (sTT : PySem.W.subIn K (.ref ZT) (.ref ZT) = some true) (cRI : Calls P w K mg base (L2N.CX P w) 1 "read_integer" ["text", "most"] (spReadInt ZT)) (cRW : Calls P w K mg base (L2N.CX P w) 2 "_read_weights" ["words", "sizes"] (spRW K ZT)) (cJL : Calls P w K mg base CX0 2 "journal_line" ["steps", "weights"] (spJL K)) : FnOk P w K mg base (L2.CX P w) 3 f fd ["line", "sizes"] (spRL K ZJ) := by
  obtain ⟨fRI, dRI, GRI, kRI, bRI, gRI⟩ := cRI.ex
  obtain ⟨fRW, dRW, GRW, kRW, bRW, gRW⟩ := cRW.ex
  obtain ⟨fJL, dJL, GJL, kJL, bJL, gJL⟩ := cJL.ex
  obtain ⟨uD, glD, rlD⟩ := lD
  refine F.okX scRL (fun vs H Q E h => ?_) (fun cdv A outer s H vs Q E hr2 h => ?_)
  · obtain ⟨_, _, _, rfl, _⟩ := h
    rfl
  · obtain ⟨z, ps, sz, rfl, hz, hps, hl5, hs30, hW60, q⟩ := h
    have hr1 : Room 1 _ := hr2.mono (by decide)
    refine ⟨_, (pss_cons (ps_set (i := 2) scRL.nd rfl (.inl rfl) (pe_split (pv 0) pe_str))
 (pss_cons (ps_if (pt_cmpR op_ne (pe_callB call_len_seq (by rfl) T.len PySem.boot_len (pa_cons (pv 2) pa_nil)) (pe_op op_add (pe_op op_add pe_int (pe_callB call_len_seq (by rfl) T.len PySem.boot_len (pa_cons (pv 1) pa_nil))) (pe_callB (cr_sumT rfl) (by rfl) T.sum (by decide +kernel) (pa_cons (pv 1) pa_nil))) (nomark _)) (pss_one (ps_raise rfl (takes_of rfl rfl rfl rfl) (pmk_own PySem.F.excBase_ValueError RJ.x RJ.g RJ.k (raises_own RJ.b RJ.t) rfl))) pss_nil)
 (pss_cons (L2H.ps_try_onlyX (tb := fun W => tSeq (tAsg (tCallS (spReadInt ZT) (WE W) (tCons (tOp (rIxL K) (tVar 2) (tC (.int 1))) (tCons (tC (.int 70)) tNil))) (gName 3)) (tAsg (tCallS (spRW K ZT) (WE W) (tCons (tVar 2) (tCons (tVar 1) tNil))) (gName 4))) (Wout := fun c d _ H => E c d H) rfl rfl ⟨rfl, by decide, Or.inl NT.g⟩ (fun hd => L2H.passesAt_of rfl hd) (takes_of rfl rfl rfl rfl)
      (fun W pn xe tk _ _ => pss_cons (ps_set (i := 3) scRL.nd rfl (.inl rfl) (by exact (pe_callS GRI hr1 (by rfl) gRI kRI bRI (fun σ => L2N.passAt tk σ) (by exact (pa_cons (pe_ix ix_list (pv 2) pe_int (fun _ _ => rfl)) (pa_cons (pe_glob (v := (.int 70)) (by rfl) glD rlD) pa_nil))))))
        (pss_one (ps_set (i := 4) scRL.nd rfl (.inl rfl) (by exact (pe_callS GRW hr2 (by rfl) gRW kRW bRW (fun σ => L2N.passAt tk σ) (by exact (pa_cons (pv 2) (pa_cons (pv 1) pa_nil))))))))
      (fun a oe cls d pn hz hf tkS hot => pss_one (L2H.ps_raiseHN hot tkS (pmk5_own PySem.F.excBase_ValueError RJ.x RJ.g RJ.k (raises_own RJ.b RJ.t) rfl))))
 (pss_cons (ps_if (PW.pt (pw_or (pt_cmpR op_lt (pv 3) pe_int (nomark _)) (pw_or1 (pt_cmpR op_ne (pe_op op_add_str (pv 0) pe_str) (pe_call GJL hr2 (by rfl) gJL kJL bJL .nil pass0 (pa_cons (pv 3) (pa_cons (pv 4) pa_nil))) (nomark _))))) (pss_one (ps_raise rfl (takes_of rfl rfl rfl rfl) (pmk_own PySem.F.excBase_ValueError RJ.x RJ.g RJ.k (raises_own RJ.b RJ.t) rfl))) pss_nil)
 (pss_one (ps_ret (pe_tup (pa_cons (pv 3) (pa_cons (pv 4) pa_nil))))))))), ?_⟩
    have hzl := TL.len_tl z
    have hyW := split_wds z
    have hwl := wds_le (TL.tl z)
    refine ⟨_, rfl, ⟨_, rfl⟩, z, " ", rfl, rfl, by decide, size64 (by omega), fun pw nw => ?_⟩
    have s1 := same_upd (o := .lst ((Txt.split z " ").map V.str)) nw
    have hys : (upd H pw (.lst ((Txt.split z " ").map V.str))) pw = some (.lst ((Txt.split z " ").map V.str)) := upd_same
    generalize Txt.split z " " = ys at hyW hys s1
    generalize upd H pw (.lst (ys.map V.str)) = H1 at hys s1
    have hps1 := sqT_same hps s1
    have hps2 : SqT K H1 ps ((sz.map fun n : Nat => (n : Int)).map V.int) := by rw [map_cast]; exact hps1
    generalize hWe : wds (TL.tl z) = W at *
    have hyl : ys.length = W.length := by rw [← hyW, List.length_map]
    refine ⟨_, rfl, pw, _, rfl, .inl (SqL.of hys), _, rfl, ps, _, rfl, .inr hps1, _, _, rfl, rfl, _, rfl, ps, _, rfl, hps2, _, _, rfl, rfl, rfl, _, rfl, ?_⟩
    have hcmp : (!decide (V.int (((ys.map V.str).length : Nat) : Int) = V.int (4 + (((sz.map fun n : Nat => V.int (n : Int)).length : Nat) : Int) + (sz.map fun n : Nat => (n : Int)).sum))) = decide (W.length ≠ 4 + sz.length + sz.sum) := by
      rw [sum_cast, List.length_map, List.length_map, hyl, ← decide_not]
      refine decide_eq_decide.mpr (not_congr ⟨fun h => ?_, fun h => congrArg V.int ?_⟩)
      · have := V.int.inj h
        omega
      · omega
    refine iteB hcmp (ite2 (fun e => ?_) (fun e => ?_))
    · refine (q _ s1).1 ?_
      unfold rdl
      rw [hWe, if_pos (of_decide_eq_true e)]
    have hcnt : W.length = 4 + sz.length + sz.sum := Classical.byContradiction fun x => e (decide_eq_true x)
    have hW := hW60 hcnt
    have hR : rdl sz (TL.tl z) = (num (W.getD 1 [])).bind fun st => (rdw sz (W.drop 2)).bind fun ws => if st < 0 ∨ TL.tl z ≠ jl st ws then none else some (st, ws) := by
      unfold rdl
      rw [hWe, if_neg (fun x => x hcnt)]
    rw [hR] at q
    obtain ⟨y1, hy1⟩ : ∃ y, ys[1]? = some y := ⟨_, List.getElem?_eq_getElem (by omega)⟩
    have hw1 : W.getD 1 [] = TL.tl y1 := by
      rw [List.getD_eq_getElem?_getD, ← hyW, List.getElem?_map, hy1]
      rfl
    rw [hw1] at q
    have hy60 : y1.length ≤ 60 := by
      rw [TL.len_tl]
      exact hW _ (by rw [← hyW]; exact List.mem_map.mpr ⟨y1, List.mem_of_getElem? hy1, rfl⟩)
    refine ⟨_, rfl, pw, _, _, _, rfl, rfl, SqL.of hys, atI_nat (j := 1) (by rw [List.getElem?_map, hy1]; rfl), y1, rfl, by omega, fun hno => ?_, fun st hst => ?_⟩
    · refine ⟨true, NT.ex sTT, fun _ a ha => (q _ s1).1 ?_, fun x => nomatch x⟩
      rw [hno]
      rfl
    rw [hst] at q
    refine ⟨_, rfl, _, rfl, pw, ps, W, sz, rfl, ⟨ys, hys, hyW⟩, hps1, hl5, hs30, hW, fun H2 s2 => ⟨fun hno => ?_, fun ws hws p fs hp hF => ?_⟩⟩
    · refine ⟨true, NT.ex sTT, fun _ a ha => (q _ (s1.trans s2)).1 ?_, fun x => nomatch x⟩
      rw [Option.bind_some, hno]
      rfl
    obtain ⟨o1, o2, o3, o4⟩ := rdw_ok hws fun w hw => hW w (List.mem_of_mem_drop hw)
    have hst60 : st.natAbs < 10 ^ 60 := num_lt hst (by rw [← TL.len_tl]; exact hy60)
    have q2 : ∀ H', Same H H' → RdE K (if st < 0 ∨ TL.tl z ≠ jl st ws then none else some (st, ws)) Q (E (.ref ZJ) none) H' := fun H' s => by
      have := q H' s
      rw [Option.bind_some, hws, Option.bind_some] at this
      exact this
    have s12 := s1.trans s2
    refine ⟨_, rfl, _, _, rfl, rfl, _, rfl, ite2 (fun e3 => iteT ?_) (fun e3 => ?_)⟩
    · refine (q2 _ s12).1 ?_
      rw [if_pos (.inl (of_decide_eq_true e3))]
    have e3 : ¬ st < 0 := fun x => e3 (decide_eq_true x)
    have e1 : ("\n" : Str).length = 1 := by decide +kernel
    refine ⟨_, rfl, _, _, rfl, rfl, size64 (by omega), _, rfl, _, rfl, st, p, fs, ws, rfl, hst60, hp, hF, ⟨by omega, fun r hr => ⟨?_, o2 r hr⟩⟩, ?_, fun H3 z3 s3 hz3 => ?_⟩
    · have := o4 r hr
      omega
    · have := jl_len (ws := ws) hst60 o2 (by omega) (by omega)
      omega
    refine ⟨rfl, _, rfl, ?_⟩
    have s123 := s12.trans s3
    rw [dec_tl, TL.tl_append, hz3]
    have e4 : TL.tl ("\n" : Str) = [10] := by decide +kernel
    rw [e4]
    by_cases e5 : TL.tl z = jl st ws
    · rw [decide_eq_true (show TL.tl z ++ [10] = jl st ws ++ [10] by rw [e5])]
      refine iteF ⟨_, rfl, _, rfl, by show 2 ≤ sizeLine; decide, fun p2 np2 => ?_⟩
      have s4 := same_upd (o := .tup [.int st, .ref p]) np2
      refine (q2 _ (s123.trans s4)).2 st ws ?_ p2 p fs (SqT.of upd_same) (sqT_same hp (s3.trans s4)) (hF.same (s3.trans s4))
      rw [if_neg]
      rintro (x | x)
      · exact e3 x
      · exact x e5
    · rw [decide_eq_false (show ¬ TL.tl z ++ [10] = jl st ws ++ [10] from fun x => e5 (List.append_cancel_right x))]
      refine iteT ((q2 _ s123).1 ?_)
      rw [if_pos (.inr e5)]
/-! ### what the law hears -/
structure ErrJ (K : PySem.W.Frag) (mg : Str → Option Value) (X TE : Addr) : Prop where
  r : ErrR K mg "JournalError" X
  nT : ErrN K mg "TensorError" TE
  isi : mg "isinstance" = none
  sub : PySem.W.subIn K (.ref X) (.ref TE) = some true
  exc : ExcC K X
  kit : PySem.W.kitOne K (.ref X) (.ref X) = some true
def spTold (K : PySem.W.Frag) : Sp := fun vs H Q _ => ∃ (z : Str) (ps : Addr) (sz : List Nat), vs = [.str z, .ref ps] ∧ z.length ≤ 9000 ∧ SqT K H ps (sz.map fun n : Nat => V.int (n : Int)) ∧ sz.length ≤ 5 ∧ sz.sum ≤ 30 ∧ ((wds (TL.tl z)).length = 4 + sz.length + sz.sum → ∀ w ∈ wds (TL.tl z), w.length ≤ 60) ∧
  ∀ H', Same H H' → RdE K (rdl sz (TL.tl z)) Q (Q .non) H'
abbrev nTo : List Str := ["line", "sizes", "actual", "e"]
theorem scTo : FnScope nTo ["line", "sizes"] (defScope sTold) := ⟨rfl, rfl, rfl, by decide +kernel, rfl, by decide +kernel, by decide +kernel⟩
theorem ok_told {f ZJ TE : Addr} {fd : FuncData} (F : Fun K "_law_told" "_law_told" sTold f fd) (TJ : ErrJ K mg ZJ TE) (cRL : Calls P w K mg base (L2.CX P w) 3 "read_line" ["line", "sizes"] (spRL K ZJ)) : FnOk P w K mg base CX0 4 f fd ["line", "sizes"] (spTold K) := by
  obtain ⟨fRL, dRL, GRL, kRL, bRL, gRL⟩ := cRL.ex
  refine F.ok scTo (fun vs H Q E h => ?_) (fun cdv A outer s H vs Q E hr3 h => ?_)
  · obtain ⟨_, _, _, rfl, _⟩ := h
    rfl
  · obtain ⟨z, ps, sz, rfl, hz, hps, hl5, hs30, hW60, q⟩ := h
    refine ⟨_, pss_cons (ps_try_as (i := 3) (tb := fun W => tAsg (tCallS (spRL K ZJ) (WE W) (tCons (tVar 0) (tCons (tVar 1) tNil))) (gName 2)) (Wout := fun _ _ _ _ => False) rfl rfl scTo.nd rfl rfl ⟨rfl, by decide, Or.inl TJ.nT.g⟩ takes0
        (fun W pn xe tk _ => pss_one (ps_set (i := 2) scTo.nd rfl (.inl rfl) (by exact (pe_callS GRL hr3 (by rfl) gRL kRL bRL (fun σ => passAt tk σ) (by exact (pa_cons (pv 0) (pa_cons (pv 1) pa_nil)))))))
        (fun a oe cls d pn hz hf => su_ok hz hf))
      (pss_one (ps_ret (pv 2))), ?_⟩
    refine ⟨_, rfl, _, rfl, z, ps, sz, rfl, hz, hps, hl5, hs30, hW60, fun H1 s1 => ⟨fun e => ?_, fun st ws e p pw fs hp hpw hF => ?_⟩⟩
    · refine ⟨true, TJ.nT.ex TJ.sub, fun _ ax hax => fun oe pn hz hf => ?_, fun z => nomatch z⟩
      refine ⟨_, (pss_one (ps_ret (pe_ifExp (pt_val (pe_callB (call_isE TJ.exc hz hf) (by rfl) TJ.isi (by decide +kernel) (pa_cons (pv 3) (pa_cons (pe_glob (v := .ref ZJ) (by rfl) TJ.r.g rfl) pa_nil)))) pe_non pe_str))), ?_⟩
      refine ⟨_, rfl, _, _, _, rfl, fun _ h => h, TJ.kit, _, rfl, iteT ?_⟩
      exact (q _ s1).1 e
    · exact ⟨_, rfl, (q _ s1).2 st ws e p pw fs hp hpw hF⟩
end

section
variable {P : Program} {w : World} {K : PySem.W.Frag} {mg : Str → Option Value} {base : Heap}
/-! ### _law_check -/
def rTof (K : PySem.W.Frag) : List V → Hp → VK → Prop := fun xs H Q => ∃ p ys, xs = [.ref p] ∧ ((SqL K H p ys ∧ ∀ l, H l = none → Q (.ref l) (upd H l (.tup ys))) ∨ (SqT K H p ys ∧ Q (.ref p) H))
theorem call_tof {X : Cx} : CallR X (.type "tuple") (rTof X.K) := call_tuple_of
theorem ord_one (c : Nat) : ((⟨#[c]⟩ : Str).cps.getD 0 0 : Nat) = c := rfl
abbrev nLC : List Str := ["text", "total", "k"]
theorem scLC : FnScope nLC ["text"] (defScope sLC) := ⟨rfl, rfl, rfl, by decide +kernel, rfl, by decide +kernel, by decide +kernel⟩
theorem ok_lcheck {f : Addr} {fd : FuncData} (F : Fun K "_law_check" "_law_check" sLC f fd) (T : Txt mg) : FnOk P w K mg base CX0 1 f fd ["text"] spCN := by
  refine F.ok scLC (fun vs H Q E h => ?_) (fun cdv A outer s H vs Q E hr h => ?_)
  · obtain ⟨z, rfl, _⟩ := h
    rfl
  · obtain ⟨z, rfl, hz, q⟩ := h
    have hzl := TL.len_tl z
    refine ⟨_, (pss_cons (ps_set (i := 1) scLC.nd rfl (.inl rfl) pe_int)
      (pss_cons (ps_for PassesOwn.never rfl (pi_range1 rfl T.range (pa_cons (pe_callB call_len_str (by rfl) T.len PySem.boot_len (pa_cons (pv 0) pa_nil)) pa_nil)) (pg_name (i := 2) scLC.nd rfl (.inl rfl)) (pss_one (ps_set (i := 1) scLC.nd rfl (.inl rfl) (pe_op op_mod (pe_callTy call_int1 (by rfl) T.int (by decide +kernel) (pa_cons (pe_op op_add (pv 1) (pe_op op_mul (pe_op op_add (pv 2) pe_int) (pe_callB call_ord (by rfl) T.ord (by decide +kernel) (pa_cons (pe_ix ix_str (pv 0) (pv 2) (fun _ _ => rfl)) pa_nil)))) pa_nil)) pe_int))))
      (pss_one (ps_ret (pv 1))))), ?_⟩
    refine ⟨_, rfl, z, rfl, size64 (by omega), _, rfl, by omega, by omega, for_range (lo := 0) (n := ((z.length : Nat) : Int).toNat) (fun i σ H' => ∃ v : Option V, σ = [some (.str z), some (.int ((wsum 0 ((TL.tl z).take i) % 65521 : Nat) : Int)), v] ∧ H' = H) ⟨_, rfl, rfl⟩ ?_ ?_⟩
    · rintro i σ H' hi ⟨v, rfl, rfl⟩
      have hi : i < (TL.tl z).length := by omega
      obtain ⟨c, hc⟩ : ∃ c, (TL.tl z)[i]? = some c := ⟨_, List.getElem?_eq_getElem hi⟩
      rw [Int.zero_add]
      have hT : wsum 0 ((TL.tl z).take i) % 65521 < 65521 := Nat.mod_lt _ (by decide)
      refine ⟨_, rfl, _, rfl, _, _, rfl, rfl, _, rfl, _, rfl, z, _, c, rfl, rfl, size64 (by omega), atI_nat (j := i) hc, _, rfl, rfl, _, _, rfl, rfl, .inl ⟨by omega, by omega⟩, _, _, rfl, rfl, .inl ⟨_, rfl, _, _, rfl, rfl, (by show (0 : Int) < 65521; decide), ?_⟩⟩
      refine ⟨some (.int (i : Int)), ?_, rfl⟩
      rw [take_snoc hc, wsum_snoc, List.length_take, Nat.min_eq_left (by omega), Nat.zero_add]
      have e : (((wsum 0 ((TL.tl z).take i) % 65521 : Nat) : Int) + ((i : Int) + 1) * ((((⟨#[c]⟩ : Str).cps.getD 0 0 : Nat)) : Int)) % 65521 = (((wsum 0 ((TL.tl z).take i) + (i + 1) * c) % 65521 : Nat) : Int) := by
        rw [ord_one]
        have e2 : ((i : Int) + 1) * (c : Int) = (((i + 1) * c : Nat) : Int) := by rw [Int.natCast_mul, Int.natCast_add]; rfl
        rw [e2]
        omega
      show [some (V.str z), some (V.int ((((wsum 0 ((TL.tl z).take i) % 65521 : Nat) : Int) + ((i : Int) + 1) * ((((⟨#[c]⟩ : Str).cps.getD 0 0 : Nat)) : Int)) % 65521)), some (V.int (i : Int))] = _
      rw [e]
    · rintro σ H' ⟨v, rfl, rfl⟩
      rw [List.take_of_length_le (by omega)]
      exact ⟨_, rfl, q _ (Same.refl _)⟩
/-! ### _law_number -/
def spLN : Sp := fun vs H Q _ => ∃ (d c : Addr), vs = [.ref d] ∧ DrAt H d c ∧ ∀ H' v, But d H H' → DrAt H' d c → v.natAbs < 10 ^ 41 → Q (.int v) H'
theorem ten38 : ((10 : Int) ^ (38 : Int).toNat) = 100000000000000000000000000000000000000 := by decide +kernel
theorem bnd38 : Bnd (2 * (10 : Int) ^ (38 : Int).toNat + 1) := by unfold Bnd; decide +kernel
abbrev nLN : List Str := ["d", "n"]
theorem scLN : FnScope nLN ["d"] (defScope sLN) := ⟨rfl, rfl, rfl, by decide +kernel, rfl, by decide +kernel, by decide +kernel⟩
theorem ok_ln {f : Addr} {fd : FuncData} (F : Fun K "_law_number" "_law_number" sLN f fd) (cS : Calls P w K mg base CX0 2 "_law_signed" ["d", "most"] spSigned) (cT : Calls P w K mg base CX0 1 "_law_take" ["d", "many"] spTake) : FnOk P w K mg base CX0 3 f fd ["d"] spLN := by
  obtain ⟨fS, dS, GS, kS, bS, gS⟩ := cS.ex
  obtain ⟨fT, dT, GT, kT, bT, gT⟩ := cT.ex
  refine F.ok scLN (fun vs H Q E h => ?_) (fun cdv A outer s H vs Q E hr2 h => ?_)
  · obtain ⟨_, _, rfl, _⟩ := h
    rfl
  · obtain ⟨d, c, rfl, dr, q⟩ := h
    have hr1 : Room 1 _ := hr2.mono (by decide)
    have e41 : (10 : Nat) ^ 41 = 100000000000000000000000000000000000000000 := by decide +kernel
    rw [e41] at q
    refine ⟨_, (pss_cons (ps_set (i := 1) scLN.nd rfl (.inl rfl) (pe_call GS hr2 (by rfl) gS kS bS .nil pass0 (pa_cons (pv 0) (pa_cons pe_int pa_nil))))
      (pss_one (ps_ret (pe_ifExp (pt_cmpR op_eq (pe_call GT hr1 (by rfl) gT kT bT .nil pass0 (pa_cons (pv 0) (pa_cons pe_int pa_nil))) pe_int (nomark _)) (pe_op op_add (pe_op op_mul (pv 1) (pe_op op_pow pe_int pe_int)) (pe_call GS hr2 (by rfl) gS kS bS .nil pass0 (pa_cons (pv 0) (pa_cons (pe_op op_pow pe_int pe_int) pa_nil)))) (pv 1))))), ?_⟩
    refine ⟨_, rfl, d, c, 40, rfl, dr, by decide, bnd_le (by decide), fun H1 n k1 dr1 n0 n1 => ?_⟩
    refine ⟨_, rfl, d, c, 4, rfl, dr1, by decide, bnd_le (by decide), fun H2 t k2 dr2 t0 t1 => ⟨rfl, _, rfl, ite2 (fun _ => ?_) (fun _ => ?_)⟩⟩
    · refine ⟨_, rfl, 10, 38, rfl, rfl, ⟨by decide, by decide, by decide⟩, _, _, rfl, rfl, .inl ⟨by omega, by omega⟩, _, rfl, 10, 38, rfl, rfl, ⟨by decide, by decide, by decide⟩, d, c, _, rfl, dr2, by rw [ten38]; decide, bnd38, fun H3 m k3 dr3 m0 m1 => ⟨_, _, rfl, rfl, ?_⟩⟩
      rw [ten38] at m0 m1 ⊢
      exact q _ _ ((k1.trans k2).trans k3) dr3 (by omega)
    · exact ⟨_, rfl, q _ _ (k1.trans k2) dr2 (by omega)⟩
end

/-! ### comparing -/
section
variable {K : PySem.W.Frag}
theorem ints_lay : ∀ ps : List Int, PyData.canLayAll0 (ps.map PyData.int) = true
  | [] => by simp [PyData.canLayAll0]
  | p :: ps => by simp [PyData.canLayAll0, PyData.canLay0, ints_lay ps]
theorem ints_depth : ∀ ps : List Int, PyData.depthAll (ps.map PyData.int) ≤ 2
  | [] => by simp [PyData.depthAll]
  | p :: ps => by
    have h1 := ints_depth ps
    simp only [List.map_cons, PyData.depthAll, PyData.depth]
    omega
def rowsD (ws : List (List Int)) : List PyData := ws.map fun r => .tuple (r.map PyData.int)
theorem rows_lay : ∀ ws : List (List Int), PyData.canLayAll0 (rowsD ws) = true
  | [] => by simp [rowsD, PyData.canLayAll0]
  | r :: ws => by
    have h1 := rows_lay ws
    have h2 := ints_lay r
    simp only [rowsD, List.map_cons, PyData.canLayAll0, PyData.canLay0] at h1 ⊢
    rw [h1, h2]
    rfl
theorem rows_depth : ∀ ws : List (List Int), PyData.depthAll (rowsD ws) ≤ 4
  | [] => by simp [rowsD, PyData.depthAll]
  | r :: ws => by
    have h1 := rows_depth ws
    have h2 := ints_depth r
    simp only [rowsD, List.map_cons, PyData.depthAll, PyData.depth] at h1 ⊢
    omega
def datJ (st : Int) (ws : List (List Int)) : PyData := .tuple [.int st, .tuple (rowsD ws)]
theorem datJ_shaped (st : Int) (ws : List (List Int)) : SeqAt.shaped (datJ st ws) = true := by
  have h1 := rows_lay ws
  have h2 := rows_depth ws
  have h3 : PyData.depth (datJ st ws) ≤ 64 := by
    simp only [datJ, PyData.depth, PyData.depthAll]
    omega
  show (PyData.canLay0 (datJ st ws) && decide (PyData.depth (datJ st ws) ≤ 64)) = true
  rw [Bool.and_eq_true]
  refine ⟨?_, decide_eq_true h3⟩
  simp only [datJ, PyData.canLay0, PyData.canLayAll0, h1]
  rfl
theorem eqv_self {d : PyData} (h : SeqAt.shaped d = true) : PyData.eqv d d = true := by
  unfold SeqAt.shaped at h
  rw [Bool.and_eq_true] at h
  exact PySem.SeqAt.eqv_refl d h.1
theorem dp_ints {H : Hp} : ∀ ns : List Int, DpAll K H (ns.map V.int) (ns.map PyData.int)
  | [] => .nil
  | n :: ns => .cons (.int n) (dp_ints ns)
theorem dp_rows {H : Hp} : ∀ (fs : List V) (ws : List (List Int)), Fds K H fs ws → DpAll K H fs (rowsD ws)
  | [], [], _ => .nil
  | [], r :: ws, h => by
    have := h.1
    simp at this
  | x :: fs, [], h => by
    have := h.1
    simp at this
  | x :: fs, r :: ws, h => by
    obtain ⟨pr, rfl, hpr⟩ := h.2 0 x r rfl rfl
    exact .cons (.tup hpr (dp_ints r)) (dp_rows fs ws ⟨by have := h.1; simpa using this, fun i y s a b => h.2 (i + 1) y s a b⟩)
theorem dp_J {H : Hp} {p pw : Addr} {fs : List V} {st : Int} {ws : List (List Int)} (hp : SqT K H p [.int st, .ref pw]) (hw : SqT K H pw fs) (hF : Fds K H fs ws) : Dp K H (.ref p) (datJ st ws) :=
  .tup hp (.cons (.int st) (.cons (.tup hw (dp_rows fs ws hF)) .nil))
end
/-! ### slices -/
theorem cutS_to (z : Str) (p : Nat) : TL.tl (cutS z none (some (p : Int))) = (TL.tl z).take p := by
  show ((z.cps.toList.drop (HT.sIx z.length 0 none)).take (HT.sIx z.length z.length (some (p : Int)) - HT.sIx z.length 0 none)) = _
  rw [HT.sIx_nat, HT.sIx_none, List.drop_zero, Nat.sub_zero]
  have := TL.len_tl z
  refine List.take_eq_take_iff.mpr ?_
  show min (min p z.length) (TL.tl z).length = min p (TL.tl z).length
  omega
theorem cutS_from (z : Str) (p : Nat) : TL.tl (cutS z (some (p : Int)) none) = (TL.tl z).drop p := by
  show ((z.cps.toList.drop (HT.sIx z.length 0 (some (p : Int)))).take (HT.sIx z.length z.length none - HT.sIx z.length 0 (some (p : Int)))) = _
  rw [HT.sIx_nat, HT.sIx_none]
  have := TL.len_tl z
  rw [List.take_of_length_le (by rw [List.length_drop]; show (TL.tl z).length - _ ≤ _; omega)]
  by_cases h : p ≤ z.length
  · rw [Nat.min_eq_left h]
  · rw [List.drop_eq_nil_of_le (by show (TL.tl z).length ≤ _; omega), List.drop_eq_nil_of_le (by omega)]
theorem cutV_to (xs : List V) (p : Nat) : cutV xs none (some (p : Int)) = xs.take p := by
  unfold cutV
  rw [HT.sIx_nat, HT.sIx_none, List.drop_zero, Nat.sub_zero]
  exact List.take_eq_take_iff.mpr (by omega)
theorem cutV_from (xs : List V) (p : Nat) : cutV xs (some (p : Int)) none = xs.drop p := by
  unfold cutV
  rw [HT.sIx_nat, HT.sIx_none, List.take_of_length_le (by rw [List.length_drop]; exact Nat.le_refl _)]
  by_cases h : p ≤ xs.length
  · rw [Nat.min_eq_left h]
  · rw [List.drop_eq_nil_of_le (by omega), List.drop_eq_nil_of_le (by omega)]
theorem set_cut {l : List Nat} {p : Nat} {c : Nat} (h : p < l.length) : l.take p ++ [c] ++ l.drop (p + 1) = l.set p c := by
  rw [List.set_eq_take_append_cons_drop, if_pos h, List.append_assoc]
  rfl
/-! ### bounds -/
theorem txt_low (n : Int) : ∀ c ∈ txt n, c < 300 := fun c hc => by
  have hd : ∀ c ∈ TL.numL n.natAbs, c < 300 := fun c hc => by
    have := TL.numL_digits n.natAbs c hc
    omega
  unfold txt at hc
  split at hc
  · rcases List.mem_cons.mp hc with rfl | hc
    · decide
    · exact hd c hc
  · exact hd c hc
theorem tYes_go {σ : L2.St} {H : Hp} {A B : Hp → Prop} (h : A H) : tYes σ H (fun b H3 => if b = true then A H3 else B H3) := by
  show (if true = true then A H else B H)
  rw [if_pos rfl]
  exact h
theorem rows_low {ws : List (List Int)} : ∀ w ∈ rws ws, ∀ c ∈ w, c < 300
  | w, h, c, hc => by
    induction ws with
    | nil => cases h
    | cons r rs ih =>
      rcases List.mem_cons.mp h with h | h
      · rw [h] at hc
        rw [List.mem_singleton.mp hc]
        decide
      · rcases List.mem_append.mp h with h | h
        · obtain ⟨n, _, rfl⟩ := List.mem_map.mp h
          exact txt_low n c hc
        · exact ih h
theorem join_low : ∀ {W : List (List Nat)}, (∀ w ∈ W, ∀ c ∈ w, c < 300) → ∀ c ∈ TL.joinL [32] W, c < 300
  | [], _, c, hc => by cases hc
  | [w], h, c, hc => h w List.mem_cons_self c hc
  | w :: v :: r, h, c, hc => by
    have hc : c ∈ w ++ ([32] ++ TL.joinL [32] (v :: r)) := hc
    rcases List.mem_append.mp hc with hc | hc
    · exact h w List.mem_cons_self c hc
    · rcases List.mem_append.mp hc with hc | hc
      · rw [List.mem_singleton.mp hc]
        decide
      · exact join_low (fun w hw => h w (List.mem_cons_of_mem _ hw)) c hc
theorem jl_low (st : Int) (ws : List (List Int)) : ∀ c ∈ jl st ws, c < 300 := by
  rw [jl_join]
  refine join_low fun w hw c hc => ?_
  rcases List.mem_append.mp hw with hw | hw
  · rcases List.mem_cons.mp hw with hw | hw
    · rw [hw] at hc
      have : ∀ c ∈ ([115, 116, 101, 112] : List Nat), c < 300 := by decide
      exact this c hc
    · rcases List.mem_cons.mp hw with hw | hw
      · rw [hw] at hc
        exact txt_low st c hc
      · exact rows_low w hw c hc
  · rcases List.mem_cons.mp hw with hw | hw
    · rw [hw] at hc
      have : ∀ c ∈ chw, c < 300 := by decide
      exact this c hc
    · rw [List.mem_singleton.mp hw] at hc
      exact txt_low _ c hc
/-- the words of a line are short -/
theorem jl_short {st : Int} {ws : List (List Int)} (hs : st.natAbs < 10 ^ 59) (h : ∀ r ∈ ws, ∀ n ∈ r, n.natAbs < 10 ^ 59) : ∀ w ∈ wds (jl st ws), w.length ≤ 60 := by
  rw [jl_wds]
  have hr : ∀ ws : List (List Int), (∀ r ∈ ws, ∀ n ∈ r, n.natAbs < 10 ^ 59) → ∀ w ∈ rws ws, w.length ≤ 60 := fun ws => by
    induction ws with
    | nil => intro _ w hw; cases hw
    | cons r rs ih =>
      intro h w hw
      rcases List.mem_cons.mp hw with hw | hw
      · rw [hw]
        decide
      · rcases List.mem_append.mp hw with hw | hw
        · obtain ⟨n, hn, rfl⟩ := List.mem_map.mp hw
          exact txt_len' (by decide) (h r List.mem_cons_self n hn)
        · exact ih (fun r hr => h r (List.mem_cons_of_mem _ hr)) w hw
  intro w hw
  rcases List.mem_append.mp hw with hw | hw
  · rcases List.mem_cons.mp hw with hw | hw
    · rw [hw]
      decide
    · rcases List.mem_cons.mp hw with hw | hw
      · rw [hw]
        exact txt_len' (by decide) hs
      · exact hr ws h w hw
  · rcases List.mem_cons.mp hw with hw | hw
    · rw [hw]
      decide
    · rw [List.mem_singleton.mp hw]
      have hch : chk (jt st ws) < 65521 := Nat.mod_lt _ (by decide)
      have := txt_len' (n := ((chk (jt st ws) : Nat) : Int)) (k := 5) (by decide) (by
        have : (65521 : Nat) < 10 ^ 5 := by decide
        omega)
      omega
/-- a line with a sign replaced that has as many words has words as long -/
theorem set_short {l : List Nat} {p c x k : Nat} (hx : l[p]? = some x) (h : ∀ w ∈ wds l, w.length ≤ k) (hn : (wds (l.set p c)).length = (wds l).length) : ∀ w ∈ wds (l.set p c), w.length ≤ k := by
  have hc := cnt_set (c := c) hx
  rw [wds_len, wds_len] at hn
  have hb : (l.set p c).map (· == 32) = l.map (· == 32) := by
    have hcx : (c == 32) = (x == 32) := by
      by_cases a : c = 32 <;> by_cases b : x = 32
      · rw [a, b]
      · rw [if_pos a, if_neg b] at hc; omega
      · rw [if_neg a, if_pos b] at hc; omega
      · rw [show (c == 32) = false by simpa using a, show (x == 32) = false by simpa using b]
    rw [List.map_set, hcx]
    refine List.ext_getElem? fun i => ?_
    by_cases hi : p = i
    · subst hi
      rw [List.getElem?_set_self (by rw [List.length_map]; exact (List.getElem?_eq_some_iff.mp hx).1), List.getElem?_map, hx]
      rfl
    · rw [List.getElem?_set_ne hi]
  have hm : (wds (l.set p c)).map List.length = (wds l).map List.length := by rw [wds_lens, wds_lens, hb]
  intro w hw
  have h1 : w.length ∈ (wds (l.set p c)).map List.length := List.mem_map.mpr ⟨w, hw, rfl⟩
  rw [hm] at h1
  obtain ⟨v, hv, e⟩ := List.mem_map.mp h1
  rw [← e]
  exact h v hv
theorem jt_snoc (st : Int) (a : List (List Int)) {r : List Int} (h : r ≠ []) : jt st (a ++ [r]) = jt st a ++ ([32, 59, 32] ++ TL.joinL [32] (r.map txt)) := by
  have hr : r.map txt ≠ [] := fun e => h (List.map_eq_nil_iff.mp e)
  unfold jt
  rw [jw_app, join_two [32] (jw st a) ([59] :: r.map txt) (List.cons_ne_nil _ _) (List.cons_ne_nil _ _)]
  rw [show TL.joinL [32] ([59] :: r.map txt) = [59] ++ ([32] ++ TL.joinL [32] (r.map txt)) from join_two [32] [[59]] (r.map txt) (List.cons_ne_nil _ _) hr]
  rfl
def signsS : Str := " !#$&()*+,-./0123456789:;<=>?@ABCDEFGHIJKLMNOPQRSTUVWXYZ[]^_abcdefghijklmnopqrstuvwxyz{|}~"
def tenS : Str := "0123456789"
theorem signs_low : ∀ c ∈ signsS.cps.toList, c < 300 := by decide +kernel
theorem ten_low : ∀ c ∈ tenS.cps.toList, c < 300 := by decide +kernel
theorem dec_one (x c : Nat) : decide (V.str ⟨#[x]⟩ = V.str ⟨#[c]⟩) = decide (x = c) := by
  rw [dec_tl]
  show decide ([x] = [c]) = _
  rw [Bool.eq_iff_iff, decide_eq_true_iff, decide_eq_true_iff]
  simp
theorem lsum_app (a b : List (List Nat)) : lsum (a ++ b) = lsum a + lsum b := by
  induction a with
  | nil => rw [List.nil_append]; show lsum b = 0 + lsum b; omega
  | cons x a ih =>
    show x.length + 1 + lsum (a ++ b) = x.length + 1 + lsum a + lsum b
    omega
theorem lsum_cut (W : List (List Nat)) (i : Nat) : lsum (W.take i) ≤ lsum W ∧ lsum (W.drop i) ≤ lsum W := by
  have h := lsum_app (W.take i) (W.drop i)
  rw [List.take_append_drop] at h
  omega
theorem cat_strs {a b : List Str} : a.map V.str ++ b.map V.str = (a ++ b).map V.str := (List.map_append ..).symm
structure Fx (K : PySem.W.Frag) (H : Hp) (d c pz pw : Addr) (fs : List V) (sz : List Nat) (ws : List (List Int)) : Prop where
  dr : DrAt H d c
  z : SqT K H pz (sz.map fun n : Nat => V.int (n : Int))
  w : SqT K H pw fs
  f : Fds K H fs ws
theorem But.nl {d c : Addr} {H H' : Hp} (k : But d H H') (h : DrAt H d c) : NL H H' := fun b o e => by
  by_cases hb : b = d
  · subst hb
    obtain ⟨xs, hx⟩ := h.lst
    rw [hx] at e
    exact .inl ⟨xs, (Option.some.inj e).symm⟩
  · exact .inr (by rw [k b hb]; exact e)
section
variable {K : PySem.W.Frag} {H H' : Hp} {d c pz pw : Addr} {fs : List V} {sz : List Nat} {ws : List (List Int)}
theorem Fx.same (f : Fx K H d c pz pw fs sz ws) (s : Same H H') : Fx K H' d c pz pw fs sz ws := ⟨f.dr.same s, sqT_same f.z s, sqT_same f.w s, f.f.same s⟩
theorem Fx.but (f : Fx K H d c pz pw fs sz ws) (k : But d H H') (dr : DrAt H' d c) : Fx K H' d c pz pw fs sz ws := ⟨dr, sqT_nl f.z (k.nl f.dr), sqT_nl f.w (k.nl f.dr), f.f.nl (k.nl f.dr)⟩
end
/-! ### the law -/
section
variable {P : Program} {w : World} {K : PySem.W.Frag} {mg : Str → Option Value} {base : Heap}
def spLaw (K : PySem.W.Frag) : Sp := fun vs H Q _ => ∃ (a : Addr) (ns : List Int), vs = [.ref a] ∧ SqL K H a (ns.map V.int) ∧ ns.length ≤ 63 ∧ ∀ H', Q (.bl true) H'
theorem lt59 {n : Int} (h : n.natAbs < 10 ^ 41) : n.natAbs < 10 ^ 59 := Nat.lt_of_lt_of_le h (by decide +kernel)
theorem lt60 {n : Int} (h : n.natAbs < 10 ^ 41) : n.natAbs < 10 ^ 60 := Nat.lt_of_lt_of_le h (by decide +kernel)
abbrev nL : List Str := ["script", "d", "sizes", "weights", "steps", "text", "row", "line", "told", "signs", "turn", "place", "sign", "words", "spot", "longer", "shorter", "k", "size", "n"]
theorem scL : FnScope nL ["script"] (defScope sLaw) := ⟨rfl, rfl, rfl, by decide +kernel, rfl, by decide +kernel, by decide +kernel⟩
theorem ok_law {f : Addr} {fd : FuncData} (F : Fun K "law" "law" sLaw f fd) (T : Txt mg) (cB : Calls P w K mg base CX0 1 "_law_begin" ["script"] (spBegin K)) (cT : Calls P w K mg base CX0 1 "_law_take" ["d", "many"] spTake) (cLN : Calls P w K mg base CX0 3 "_law_number" ["d"] spLN) (cLC : Calls P w K mg base CX0 1 "_law_check" ["text"] spCN) (cJL : Calls P w K mg base CX0 2 "journal_line" ["steps", "weights"] (spJL K)) (cCN : Calls P w K mg base CX0 1 "check_number" ["text"] spCN) (cTo : Calls P w K mg base CX0 4 "_law_told" ["line", "sizes"] (spTold K)) : FnOk P w K mg base CX0 5 f fd ["script"] (spLaw K) := by
  obtain ⟨fB, dB, GB, kB, bB, gB⟩ := cB.ex
  obtain ⟨fT, dT, GT, kT, bT, gT⟩ := cT.ex
  obtain ⟨fLN, dLN, GLN, kLN, bLN, gLN⟩ := cLN.ex
  obtain ⟨fLC, dLC, GLC, kLC, bLC, gLC⟩ := cLC.ex
  obtain ⟨fJL, dJL, GJL, kJL, bJL, gJL⟩ := cJL.ex
  obtain ⟨fCN, dCN, GCN, kCN, bCN, gCN⟩ := cCN.ex
  obtain ⟨fTo, dTo, GTo, kTo, bTo, gTo⟩ := cTo.ex
  refine F.ok scL (fun vs H Q E h => ?_) (fun cdv A outer s H vs Q E hr4 h => ?_)
  · obtain ⟨a, ns, rfl, _⟩ := h
    rfl
  · obtain ⟨a, ns, rfl, hS, hlen, q⟩ := h
    have hr := hr4
    have hr1 : Room 1 _ := hr4.mono (by decide)
    have hr2 : Room 2 _ := hr4.mono (by decide)
    have hr3 : Room 3 _ := hr4.mono (by decide)
    refine ⟨_, (pss_cons (ps_set (i := 1) scL.nd rfl (.inr rfl) (pe_call GB hr1 (by rfl) gB kB bB .nil pass0 (pa_cons (pv 0) pa_nil)))
      (pss_cons (ps_set (i := 2) scL.nd rfl (.inl rfl) (pe_callTy call_tuple_of (by rfl) T.tuple (by decide +kernel) (pa_cons (pe_lc (own := [("k", 17)]) (g := (gName 17)) (tt := tYes) (te := (tOp (rI0 fun i j => .int (i + j)) (tC (.int 1)) (tCall spTake [] E0 (tCons (tVar 1) (tCons (tC (.int 4)) tNil))))) rfl scL.nd (pi_range1 rfl T.range (pa_cons (pe_op op_add pe_int (pe_call GT hr1 (by rfl) gT kT bT .nil pass0 (pa_cons (pv 1) (pa_cons pe_int pa_nil)))) pa_nil)) (blkOk_by (N := nL) (sc := defScope sLaw) (by decide +kernel)) (fun _ _ _ _ _ => (pg_name (i := 17) scL.nd rfl (.inl rfl) (hf := Or.inr rfl))) (fun _ _ _ _ _ => pts_nil) (fun _ _ _ _ _ => (pe_op op_add pe_int (pe_call GT hr1 (by rfl) gT kT bT .nil pass0 (pa_cons (pv 1) (pa_cons pe_int pa_nil)))))) pa_nil)))
      (pss_cons (ps_set (i := 3) scL.nd rfl (.inl rfl) (pe_callTy call_tuple_of (by rfl) T.tuple (by decide +kernel) (pa_cons (pe_lc (own := [("size", 18)]) (g := (gName 18)) (tt := tYes) (te := (tCB (rTof K) (tCons (tLc (iRng1 (tCons (tVar 18) tNil)) (gName 17) tYes (tCall spLN [] E0 (tCons (tVar 1) tNil)) [17]) tNil))) rfl scL.nd (pi_tup (pv 2)) (blkOk_by (N := nL) (sc := defScope sLaw) (by decide +kernel)) (fun _ _ _ _ _ => (pg_name (i := 18) scL.nd rfl (.inl rfl) (hf := Or.inr rfl))) (fun _ _ _ _ _ => pts_nil) (fun _ _ _ _ _ => (pe_callTy call_tof (by rfl) T.tuple (by decide +kernel) (pa_cons (pe_lc (own := [("k", 17)]) (g := (gName 17)) (tt := tYes) (te := (tCall spLN [] E0 (tCons (tVar 1) tNil))) rfl scL.nd (pi_range1 rfl T.range (pa_cons (pv 18) pa_nil)) (blkOk_by (by rfl)) (fun _ _ _ _ _ => (pg_name (i := 17) scL.nd rfl (.inl rfl) (hf := Or.inr rfl))) (fun _ _ _ _ _ => pts_nil) (fun _ _ _ _ _ => (pe_call GLN hr3 (by rfl) gLN kLN bLN .nil pass0 (pa_cons (pv 1) pa_nil)))) pa_nil)))) pa_nil)))
      (pss_cons (ps_set (i := 4) scL.nd rfl (.inl rfl) (pe_callB call_abs (by rfl) T.abs (by decide +kernel) (pa_cons (pe_call GLN hr3 (by rfl) gLN kLN bLN .nil pass0 (pa_cons (pv 1) pa_nil)) pa_nil)))
      (pss_cons (ps_set (i := 5) scL.nd rfl (.inl rfl) (pe_op op_add_str pe_str (pe_callTy call_str_int (by rfl) T.str (by decide +kernel) (pa_cons (pv 4) pa_nil))))
      (pss_cons (ps_for PassesOwn.never rfl (pi_tup (pv 3)) (pg_name (i := 6) scL.nd rfl (.inl rfl)) (pss_one (ps_set (i := 5) scL.nd rfl (.inl rfl) (pe_op op_add_str (pe_op op_add_str (pv 5) pe_str) (pe_join pe_str (pe_lc (own := [("n", 19)]) (g := (gName 19)) (tt := tYes) (te := (tCB rStrI (tCons (tVar 19) tNil))) rfl scL.nd (pi_tup (pv 6)) (blkOk_by (N := nL) (sc := defScope sLaw) (by decide +kernel)) (fun _ _ _ _ _ => (pg_name (i := 19) scL.nd rfl (.inl rfl) (hf := Or.inr rfl))) (fun _ _ _ _ _ => pts_nil) (fun _ _ _ _ _ => (pe_callTy call_str_int (by rfl) T.str (by decide +kernel) (pa_cons (pv 19) pa_nil)))))))))
      (pss_cons (ps_set (i := 7) scL.nd rfl (.inl rfl) (pe_op op_add_str (pe_op op_add_str (pv 5) pe_str) (pe_callTy call_str_int (by rfl) T.str (by decide +kernel) (pa_cons (pe_call GLC hr1 (by rfl) gLC kLC bLC .nil pass0 (pa_cons (pv 5) pa_nil)) pa_nil))))
      (pss_cons (ps_set (i := 8) scL.nd rfl (.inl rfl) (pe_call GJL hr2 (by rfl) gJL kJL bJL .nil pass0 (pa_cons (pv 4) (pa_cons (pv 3) pa_nil))))
      (pss_cons (ps_if (PW.pt (pw_or (pt_not (pt_val (pe_callB call_isi (by rfl) T.isi (by decide +kernel) (pa_cons (pv 8) (pa_cons (pe_bltn (v := .ty "str") (by rfl) T.str (by decide +kernel) rfl) pa_nil))))) (pw_or (pt_cmpR op_ne (pv 8) (pe_op op_add_str (pv 7) pe_str) (nomark _)) (pw_or1 (pt_cmpR op_ne (pe_call GCN hr1 (by rfl) gCN kCN bCN .nil pass0 (pa_cons (pv 5) pa_nil)) (pe_call GLC hr1 (by rfl) gLC kLC bLC .nil pass0 (pa_cons (pv 5) pa_nil)) (nomark _)))))) (pss_one (ps_ret pe_bl)) pss_nil)
      (pss_cons (ps_if (pt_cmpR (op_neD hr.units) (pe_call GTo hr4 (by rfl) gTo kTo bTo .nil pass0 (pa_cons (pv 7) (pa_cons (pv 2) pa_nil))) (pe_tup (pa_cons (pv 4) (pa_cons (pv 3) pa_nil))) (nomark _)) (pss_one (ps_ret pe_bl)) pss_nil)
      (pss_cons (ps_set (i := 9) scL.nd rfl (.inl rfl) pe_str)
      (pss_cons (ps_for PassesOwn.never rfl (pi_range1 rfl T.range (pa_cons pe_int pa_nil)) (pg_name (i := 10) scL.nd rfl (.inl rfl)) (pss_cons (ps_set (i := 11) scL.nd rfl (.inl rfl) (pe_call GT hr1 (by rfl) gT kT bT .nil pass0 (pa_cons (pv 1) (pa_cons (pe_callB call_len_str (by rfl) T.len PySem.boot_len (pa_cons (pv 7) pa_nil)) pa_nil))))
      (pss_cons (ps_set (i := 12) scL.nd rfl (.inl rfl) (pe_ix ix_str (pv 9) (pe_call GT hr1 (by rfl) gT kT bT .nil pass0 (pa_cons (pv 1) (pa_cons (pe_callB call_len_str (by rfl) T.len PySem.boot_len (pa_cons (pv 9) pa_nil)) pa_nil))) (fun _ _ => rfl)))
      (Evl.pss_cut (ps_if (pt_cmpR op_eq (pv 10) pe_int (nomark _)) (pss_one (ps_set (i := 12) scL.nd rfl (.inl rfl) (pe_ix ix_str pe_str (pe_call GT hr1 (by rfl) gT kT bT .nil pass0 (pa_cons (pv 1) (pa_cons pe_int pa_nil))) (fun _ _ => rfl)))) pss_nil)
      (pss_one (ps_if (PW.pt (pw_and (pt_cmpR op_ne (pe_ix ix_str (pv 7) (pv 11) (fun _ _ => rfl)) (pv 12) (nomark _)) (pw_and1 (pt_cmpR op_notN (pe_call GTo hr4 (by rfl) gTo kTo bTo .nil pass0 (pa_cons (pe_op op_add_str (pe_op op_add_str (pe_slice sl_str (pv 7) po_none (po_some (pv 11))) (pv 12)) (pe_slice sl_str (pv 7) (po_some (pe_op op_add (pv 11) pe_int)) po_none)) (pa_cons (pv 2) pa_nil))) pe_non (nomark _))))) (pss_one (ps_ret pe_bl)) pss_nil))))))
      (pss_cons (ps_set (i := 13) scL.nd rfl (.inl rfl) (pe_split (pv 7) pe_str))
      (pss_cons (ps_set (i := 14) scL.nd rfl (.inl rfl) (pe_call GT hr1 (by rfl) gT kT bT .nil pass0 (pa_cons (pv 1) (pa_cons (pe_callB call_len_seq (by rfl) T.len PySem.boot_len (pa_cons (pv 13) pa_nil)) pa_nil))))
      (pss_cons (ps_set (i := 15) scL.nd rfl (.inl rfl) (pe_join pe_str (pe_op op_cat (pe_slice sl_list (pv 13) po_none (po_some (pe_op op_add (pv 14) pe_int))) (pe_slice sl_list (pv 13) (po_some (pv 14)) po_none))))
      (pss_cons (ps_set (i := 16) scL.nd rfl (.inl rfl) (pe_join pe_str (pe_op op_cat (pe_slice sl_list (pv 13) po_none (po_some (pv 14))) (pe_slice sl_list (pv 13) (po_some (pe_op op_add (pv 14) pe_int)) po_none))))
      (pss_cons (ps_if (PW.pt (pw_or (pt_cmpR op_notN (pe_call GTo hr4 (by rfl) gTo kTo bTo .nil pass0 (pa_cons (pv 15) (pa_cons (pv 2) pa_nil))) pe_non (nomark _)) (pw_or (pt_cmpR op_notN (pe_call GTo hr4 (by rfl) gTo kTo bTo .nil pass0 (pa_cons (pv 16) (pa_cons (pv 2) pa_nil))) pe_non (nomark _)) (pw_or1 (pt_cmpR op_notN (pe_call GTo hr4 (by rfl) gTo kTo bTo .nil pass0 (pa_cons pe_str (pa_cons (pv 2) pa_nil))) pe_non (nomark _)))))) (pss_one (ps_ret pe_bl)) pss_nil)
      (pss_one (ps_ret (pe_and (pe_cmpR op_isN (pe_call GTo hr4 (by rfl) gTo kTo bTo .nil pass0 (pa_cons (pv 7) (pa_cons (pe_op op_catT (pv 2) (pe_tup (pa_cons pe_int pa_nil))) pa_nil))) pe_non (nomark _)) (pe_one (pe_cmpR op_isN (pe_call GTo hr4 (by rfl) gTo kTo bTo .nil pass0 (pa_cons (pv 7) (pa_cons (pe_op op_catA (pe_tup (pa_cons (pe_op op_add (pe_ix ix_tup (pv 2) pe_int (fun _ _ => rfl)) pe_int) pa_nil)) (pe_slice sl_tupA (pv 2) (po_some pe_int) po_none)) pa_nil))) pe_non (nomark _))))))))))))))))))))))), ?_⟩
    refine ⟨_, rfl, a, ns, rfl, hS, hlen, fun H1 d c sm1 nd nc dr => ?_⟩
    -- sizes
    refine ⟨_, rfl, d, c, 3, rfl, dr, by decide, bnd_le (by decide), fun H2 v k2 dr2 v0 v1 => ⟨_, _, rfl, rfl, _, rfl, by omega, by omega, fun D nD => lc_range (lo := 0) (n := (1 + v).toNat) (fun i H' => ∃ sz : List Nat, H' D = some (.lst (sz.map fun n : Nat => V.int (n : Int))) ∧ sz.length = i ∧ (∀ n ∈ sz, 1 ≤ n ∧ n ≤ 4) ∧ DrAt H' d c) ⟨[], upd_same, rfl, (fun _ h => by cases h), dr2.same (same_upd nD)⟩ ?_ ?_⟩⟩
    · rintro i H' hi ⟨sz, hD, hl, hb, dr'⟩
      have hDd : D ≠ d := (ne_of_none dr2.lst.choose_spec nD).symm
      have hDc : D ≠ c := (ne_of_none dr2.lstc.choose_spec nD).symm
      refine ⟨rfl, tYes_go ?_⟩
      refine ⟨_, rfl, d, c, 4, rfl, dr', by decide, bnd_le (by decide), fun H3 u k3 dr3 u0 u1 => ⟨_, _, rfl, rfl, _, keepD k3 hDd hD, ?_, sz ++ [(1 + u).toNat], ?_, ?_, ?_, dr3.upd _ hDd hDc⟩⟩
      · rw [List.length_map, hl]
        exact small64 (by omega)
      · rw [upd_same, List.map_append]
        show some (HO.lst (_ ++ [V.int (1 + u)])) = some (HO.lst (_ ++ [V.int (((1 + u).toNat : Nat) : Int)]))
        rw [Int.toNat_of_nonneg (by omega)]
      · rw [List.length_append, hl]
        rfl
      · intro n hn
        rcases List.mem_append.mp hn with hn | hn
        · exact hb n hn
        · rw [List.mem_singleton.mp hn]
          omega
    rintro H3 ⟨sz, hD, hl, hb, dr3⟩
    have hl3 : 1 ≤ sz.length ∧ sz.length ≤ 3 := by omega
    clear hl nD
    refine ⟨D, _, rfl, .inl ⟨SqL.of hD, fun pz nz => ?_⟩⟩
    have hz : SqT K (upd H3 pz (.tup (sz.map fun n : Nat => V.int (n : Int)))) pz (sz.map fun n : Nat => V.int (n : Int)) := SqT.of upd_same
    have dr4 := dr3.same (same_upd (o := .tup (sz.map fun n : Nat => V.int (n : Int))) nz)
    generalize upd H3 pz _ = H4 at hz dr4
    clear hD dr3
    -- weights
    refine ⟨_, rfl, pz, rfl, ⟨_, hz⟩, fun D nD => lc_tup (K := K) (a := pz) (xs := sz.map fun n : Nat => V.int (n : Int)) (fun i H' => ∃ (fs : List V) (ws : List (List Int)), H' D = some (.lst fs) ∧ Fds K H' fs ws ∧ ws.map List.length = sz.take i ∧ (∀ r ∈ ws, ∀ n ∈ r, n.natAbs < 10 ^ 41) ∧ DrAt H' d c ∧ NL H4 H')
      ⟨[], [], upd_same, Fds.nil, rfl, (fun _ h => by cases h), dr4.same (same_upd nD), nl_new nD⟩ (fun i H' _ ⟨_, _, _, _, _, _, _, nl⟩ => sqT_nl hz nl) ?_ ?_⟩
    · rintro i x H' hx ⟨fs, ws, hD, hF, hm, hbw, dr', nl⟩
      have hDd : D ≠ d := (ne_of_none dr4.lst.choose_spec nD).symm
      have hDc : D ≠ c := (ne_of_none dr4.lstc.choose_spec nD).symm
      rw [List.getElem?_map] at hx
      obtain ⟨n, hn, rfl⟩ := Option.map_eq_some_iff.mp hx
      have hn4 := hb n (List.mem_of_getElem? hn)
      refine ⟨rfl, tYes_go ?_⟩
      refine ⟨_, rfl, (n : Int), rfl, by omega, by omega, fun D2 nD2 => lc_range (lo := 0) (n := ((n : Nat) : Int).toNat) (fun j H3 => ∃ vs : List Int, H3 D2 = some (.lst (vs.map V.int)) ∧ vs.length = j ∧ (∀ m ∈ vs, m.natAbs < 10 ^ 41) ∧ DrAt H3 d c ∧ H3 D = some (.lst fs) ∧ NL H' H3)
        ⟨[], upd_same, rfl, (fun _ h => by cases h), dr'.same (same_upd nD2), same_upd nD2 _ _ hD, nl_new nD2⟩ ?_ ?_⟩
      · rintro j H3 hj ⟨vs, hD2, hl2, hb2, dr3, hD3, nl3⟩
        have hD2d : D2 ≠ d := (ne_of_none dr'.lst.choose_spec nD2).symm
        have hD2c : D2 ≠ c := (ne_of_none dr'.lstc.choose_spec nD2).symm
        have hDD : D ≠ D2 := ne_of_none hD nD2
        refine ⟨rfl, tYes_go ?_⟩
        refine ⟨_, rfl, d, c, rfl, dr3, fun H5 m k5 dr5 hm5 => ⟨_, keepD k5 hD2d hD2, ?_, vs ++ [m], ?_, ?_, ?_, dr5.upd _ hD2d hD2c, ?_, ?_⟩⟩
        · rw [List.length_map, hl2]
          exact small64 (by omega)
        · rw [upd_same, List.map_append]
          rfl
        · rw [List.length_append, hl2]
          rfl
        · intro y hy
          rcases List.mem_append.mp hy with hy | hy
          · exact hb2 y hy
          · rw [List.mem_singleton.mp hy]
            exact hm5
        · rw [upd_ne hDD]
          exact keepD k5 hDd hD3
        · exact (nl3.trans (k5.nl dr3)).trans (nl_upd (keepD k5 hD2d hD2))
      rintro H3 ⟨vs, hD2, hl2, hb2, dr3, hD3, nl3⟩
      refine ⟨D2, _, rfl, .inl ⟨SqL.of hD2, fun t nt => ?_⟩⟩
      have smt := same_upd (o := .tup (vs.map V.int)) nt
      have htD : t ≠ D := fun e => by rw [e, hD3] at nt; cases nt
      refine ⟨fs, smt _ _ hD3, ?_, fs ++ [.ref t], ws ++ [vs], upd_same, ?_, ?_, ?_, (dr3.same smt).upd _ hDd hDc, ?_⟩
      · rw [hF.1]
        have := congrArg List.length hm
        rw [List.length_map, List.length_take] at this
        exact small64 (by omega)
      · exact (((hF.nl nl3).same smt).nl (nl_upd (smt _ _ hD3))).snoc (SqT.of (by rw [upd_ne htD]; exact upd_same))
      · rw [List.map_append, hm, take_snoc hn]
        show _ ++ [vs.length] = _
        rw [hl2, Int.toNat_natCast]
      · intro r hr y hy
        rcases List.mem_append.mp hr with hr | hr
        · exact hbw r hr y hy
        · rw [List.mem_singleton.mp hr] at hy
          exact hb2 y hy
      · exact ((nl.trans nl3).trans (Same.nl smt)).trans (nl_upd (smt _ _ hD3))
    rintro H5 ⟨fs, ws, hD, hF, hm, hbw, dr5, nl5⟩
    rw [List.length_map, List.take_length] at hm
    refine ⟨D, _, rfl, .inl ⟨SqL.of hD, fun pw nw => ?_⟩⟩
    have fx : Fx K (upd H5 pw (.tup fs)) d c pz pw fs sz ws := ⟨dr5.same (same_upd nw), sqT_same (sqT_nl hz nl5) (same_upd nw), SqT.of upd_same, hF.same (same_upd nw)⟩
    generalize upd H5 pw _ = H6 at fx
    clear hD hF dr5 nl5 hz dr4 nD
    -- steps
    refine ⟨_, rfl, d, c, rfl, fx.dr, fun H7 n k7 dr7 hn41 => ⟨n, rfl, ?_⟩⟩
    have fx := fx.but k7 dr7
    clear k7 dr7
    have hst0 : 0 ≤ (if n < 0 then -n else n) := by split <;> omega
    have hst41 : (if n < 0 then -n else n).natAbs < 10 ^ 41 := by
      have : (if n < 0 then -n else n).natAbs = n.natAbs := by split <;> omega
      omega
    generalize (if n < 0 then -n else n) = st at hst0 hst41
    -- what is known of the numbers
    have hwl : ws.length = sz.length := by rw [← hm, List.length_map]
    have hszs : sz.sum ≤ 12 := by
      have h1 : ∀ l : List Nat, (∀ n ∈ l, 1 ≤ n ∧ n ≤ 4) → l.sum ≤ 4 * l.length := fun l => by
        induction l with
        | nil => intro _; exact Nat.le_refl _
        | cons a l ih =>
          intro h
          have h2 := ih fun n hn => h n (List.mem_cons_of_mem _ hn)
          have h3 := h a List.mem_cons_self
          rw [List.sum_cons, List.length_cons]
          omega
      have := h1 sz hb
      omega
    have hrow : ∀ r ∈ ws, 1 ≤ r.length ∧ r.length ≤ 4 := fun r hr => hb _ (by rw [← hm]; exact List.mem_map.mpr ⟨r, hr, rfl⟩)
    have hw60 : ∀ r ∈ ws, ∀ n ∈ r, n.natAbs < 10 ^ 60 := fun r hr n hn => lt60 (hbw r hr n hn)
    have hw59 : ∀ r ∈ ws, ∀ n ∈ r, n.natAbs < 10 ^ 59 := fun r hr n hn => lt59 (hbw r hr n hn)
    have hst60 := lt60 hst41
    have hRB : RBd ws := ⟨by omega, fun r hr => ⟨by have := hrow r hr; omega, hw60 r hr⟩⟩
    have hjl : (jl st ws).length ≤ 2100 := jl_len hst60 hw60 (by omega) (by rw [hm]; omega)
    have hjtl : (jt st ws).length ≤ 2100 := by
      unfold jl at hjl
      rw [List.length_append] at hjl
      omega
    have hself : rdl sz (jl st ws) = some (st, ws) := by
      have := rdl_self (ws := ws) hst0
      rw [hm] at this
      exact this
    have hcntl : (wds (jl st ws)).length = 4 + sz.length + sz.sum := by rw [jl_count, hwl, hm]
    -- text
    have hs1 := str_len hst60
    have hl5 : ("step " : Str).length = 5 := by decide +kernel
    refine ⟨_, rfl, st, rfl, log60 hst60, _, _, rfl, rfl, size64 (by omega), ?_⟩
    refine ⟨_, rfl, pw, rfl, ⟨_, fx.w⟩, for_tup (K := K) (a := pw) (xs := fs) (fun i σ H' => ∃ (v : Option V) (z : Str), σ = [some (.ref a), some (.ref d), some (.ref pz), some (.ref pw), some (.int st), some (.str z), v, none, none, none, none, none, none, none, none, none, none, none, none, none] ∧ Fx K H' d c pz pw fs sz ws ∧ TL.tl z = jt st (ws.take i)) ⟨none, _, rfl, fx, ?_⟩ ?_ ?_ ?_⟩
    · rw [TL.tl_append, str_txt]
      rfl
    · rintro i σ H' _ ⟨v, z, rfl, fx, _⟩
      exact fx.w
    · rintro i x σ H' hx ⟨v, z, rfl, fx, hzt⟩
      obtain ⟨r, hr⟩ : ∃ r, ws[i]? = some r := ⟨_, List.getElem?_eq_getElem (by rw [← fx.f.1]; exact (List.getElem?_eq_some_iff.mp hx).1)⟩
      obtain ⟨pr, rfl, hpr⟩ := fx.f.2 i x r hx hr
      have hrm := List.mem_of_getElem? hr
      have hr4' := hrow r hrm
      have hzl : z.length ≤ 2100 := by
        rw [TL.len_tl, hzt]
        have h1 := jl_len (ws := ws.take i) hst60 (fun r hr => hw60 r (List.mem_of_mem_take hr)) (by rw [List.length_take]; omega) (by
          rw [List.map_take, hm]
          have : ∀ (l : List Nat) (i : Nat), (l.take i).sum ≤ l.sum := fun l => by
            induction l with
            | nil => intro i; rw [List.take_nil]; exact Nat.le_refl _
            | cons a l ih =>
              intro i
              cases i with
              | zero => exact Nat.zero_le _
              | succ i =>
                have := ih i
                rw [List.take_succ_cons, List.sum_cons, List.sum_cons]
                omega
          have := this sz i
          omega)
        unfold jl at h1
        rw [List.length_append] at h1
        omega
      have hl3' : (" ; " : Str).length = 3 := by decide +kernel
      refine ⟨_, rfl, _, _, rfl, rfl, size64 (by omega), ⟨_, rfl⟩, _, rfl, pr, rfl, ⟨_, hpr⟩, fun D nD => lc_tup (K := K) (a := pr) (xs := r.map V.int) (fun j H3 => Same H' H3 ∧ ∃ ys : List Str, H3 D = some (.lst (ys.map V.str)) ∧ ys.map TL.tl = (r.take j).map txt) ⟨same_upd nD, [], upd_same, rfl⟩ (fun j H3 _ h => sqT_same hpr h.1) ?_ ?_⟩
      · rintro j x H3 hx3 ⟨sm3, ys, hD, hys⟩
        obtain ⟨m, rfl, hm3⟩ := map_int_at hx3
        refine ⟨rfl, tYes_go ?_⟩
        refine ⟨_, rfl, m, rfl, log60 (hw60 r hrm m (List.mem_of_getElem? hm3)), _, hD, ?_, ?_, ys ++ [((toString m : String) : Str)], ?_, ?_⟩
        · have := congrArg List.length hys
          rw [List.length_map, List.length_map, List.length_take] at this
          rw [List.length_map]
          exact small64 (by omega)
        · exact fun b o e => by rw [upd_ne (ne_of_none e nD)]; exact sm3 _ _ e
        · rw [upd_same, List.map_append]
          rfl
        · rw [take_snoc hm3, List.map_append, List.map_append, hys]
          show _ ++ [TL.tl ((toString m : String) : Str)] = _ ++ [txt m]
          rw [str_txt]
      rintro H3 ⟨sm3, ys, hD, hys⟩
      rw [List.length_map, List.take_length] at hys
      have hrne : r ≠ [] := fun e => by rw [e] at hr4'; simp at hr4'
      have hjb : (ys.map (·.length)).sum + ys.length * 1 ≤ 62 * 4 := by
        rw [lsum_strs, hys]
        have hl : ∀ l : List Int, (∀ n ∈ l, n.natAbs < 10 ^ 60) → lsum (l.map txt) ≤ 62 * l.length := fun l hl => by
          induction l with
          | nil => exact Nat.le_refl _
          | cons n l ih =>
            have h1 := txt_len' (n := n) (k := 60) (by decide) (hl n List.mem_cons_self)
            have h2 := ih fun m hm => hl m (List.mem_cons_of_mem _ hm)
            show (txt n).length + 1 + lsum (l.map txt) ≤ 62 * (l.length + 1)
            omega
        have := hl r (hw60 r hrm)
        omega
      refine ⟨" ", D, ys, rfl, rfl, .inl (SqL.of hD), Nat.le_trans hjb (by decide), ?_⟩
      have hj : TL.tl (Txt.join " " ys) = TL.joinL [32] (r.map txt) := by
        rw [join_tl, hys]
        rfl
      have hjlen : (Txt.join " " ys).length ≤ 248 := by
        rw [TL.len_tl, hj]
        have h1 := lsum_join (r.map txt) (fun e => hrne (List.map_eq_nil_iff.mp e))
        have h2 := lsum_strs ys
        rw [hys] at h2
        omega
      generalize Txt.join " " ys = zj at hj hjlen
      refine ⟨_, _, rfl, rfl, size64 (by rw [PySem.Str.length_append]; omega), ?_⟩
      refine ⟨some (.ref pr), _, rfl, fx.same sm3, ?_⟩
      have e3 : TL.tl (" ; " : Str) = [32, 59, 32] := by decide +kernel
      rw [TL.tl_append, TL.tl_append, hzt, e3, hj, take_snoc hr, jt_snoc st _ hrne, List.append_assoc]
    rintro σ H8 ⟨v, z, rfl, fx, hzt⟩
    rw [fx.f.1, List.take_length] at hzt
    have hzl : z.length ≤ 2100 := by rw [TL.len_tl, hzt]; exact hjtl
    -- line
    have hch : chk (TL.tl z) < 65521 := Nat.mod_lt _ (by decide)
    have hck60 : ((chk (TL.tl z) : Nat) : Int).natAbs < 10 ^ 60 := by
      have : (65521 : Nat) < 10 ^ 60 := by decide +kernel
      omega
    have hcl := str_len hck60
    have el7 : (" check " : Str).length = 7 := by decide +kernel
    refine ⟨_, rfl, _, _, rfl, rfl, size64 (by omega), _, rfl, z, rfl, by omega, fun H9 s9 => ⟨(chk (TL.tl z) : Nat), rfl, log60 hck60, _, _, rfl, rfl, size64 (by rw [PySem.Str.length_append]; omega), ?_⟩⟩
    have fx := fx.same s9
    have hyt : TL.tl (z ++ " check " ++ ((toString ((chk (TL.tl z) : Nat) : Int) : String) : Str)) = jl st ws := by
      have e3 : TL.tl (" check " : Str) = 32 :: chw ++ [32] := by decide +kernel
      rw [TL.tl_append, TL.tl_append, str_txt, e3, hzt]
      unfold jl
      simp only [List.append_assoc, List.cons_append, List.nil_append]
    generalize z ++ " check " ++ ((toString ((chk (TL.tl z) : Nat) : Int) : String) : Str) = y at hyt
    have hyl : y.length ≤ 2100 := by rw [TL.len_tl, hyt]; exact hjl
    -- told
    refine ⟨_, rfl, _, rfl, st, pw, fs, ws, rfl, hst60, fx.w, fx.f, hRB, by omega, fun H10 t s10 ht => ?_⟩
    have fx := fx.same s10
    have e4 : TL.tl ("\n" : Str) = [10] := by decide +kernel
    have el1 : ("\n" : Str).length = 1 := by decide +kernel
    refine ⟨_, rfl, _, _, _, _, true, rfl, ClsV.ty "str", TyX.base (TyOf.str t), kit_ty (by decide +kernel), _, rfl, iteF ?_⟩
    refine ⟨_, rfl, _, rfl, _, _, rfl, rfl, size64 (by omega), rfl, _, rfl, ?_⟩
    rw [dec_tl, decide_eq_true (show TL.tl t = TL.tl (y ++ "\n") by rw [TL.tl_append, ht, hyt, e4])]
    refine iteF ⟨_, rfl, z, rfl, by omega, fun H11 s11 => ⟨_, rfl, z, rfl, by omega, fun H12 s12 => ⟨rfl, _, rfl, ?_⟩⟩⟩
    rw [decide_eq_true (rfl : V.int ((chk (TL.tl z) : Nat) : Int) = V.int ((chk (TL.tl z) : Nat) : Int))]
    refine iteF ?_
    have fx := (fx.same s11).same s12
    have hshort := jl_short (lt59 hst41) hw59
    -- the line as it is
    refine ⟨_, rfl, _, rfl, y, pz, sz, rfl, by omega, fx.z, by omega, by omega, fun _ => by rw [hyt]; exact hshort, fun H13 s13 => ?_⟩
    have fx := fx.same s13
    rw [hyt, hself]
    refine ⟨(fun z => by cases z), fun st' ws' e p' pw' fs' hp' hw' hF' => ?_⟩
    obtain ⟨rfl, rfl⟩ := Prod.mk.inj (Option.some.inj e)
    refine ⟨_, rfl, _, rfl, by show 2 ≤ sizeLine; decide, fun p2 n2 => ?_⟩
    have s14 := same_upd (o := .tup [.int st, .ref pw]) n2
    have fx := fx.same s14
    refine ⟨_, _, dp_J (sqT_same hp' s14) (sqT_same hw' s14) (hF'.same s14), dp_J (SqT.of upd_same) fx.w fx.f, datJ_shaped st ws, datJ_shaped st ws, _, rfl, ?_⟩
    rw [eqv_self (datJ_shaped st ws)]
    refine iteF ?_
    generalize upd _ p2 _ = H14 at fx
    -- signs
    have hpos : 0 < y.length := by
      rw [TL.len_tl, hyt]
      unfold jl
      rw [List.length_append, List.length_append]
      have : (32 :: chw).length = 6 := rfl
      omega
    have hsl : signsS.length = 90 := by decide +kernel
    have hsl2 : signsS.cps.toList.length = 90 := by decide +kernel
    have htl2 : tenS.cps.toList.length = 10 := by decide +kernel
    have htl : tenS.length = 10 := by decide +kernel
    refine ⟨4, rfl, by decide, by decide, for_range (lo := 0) (n := 4) (fun i σ H' => ∃ (v10 v11 v12 : Option V), σ = [some (.ref a), some (.ref d), some (.ref pz), some (.ref pw), some (.int st), some (.str z), v, some (.str y), some (.str t), some (.str signsS), v10, v11, v12, none, none, none, none, none, none, none] ∧ Fx K H' d c pz pw fs sz ws) ⟨_, _, _, rfl, fx⟩ ?_ ?_⟩
    · rintro i σ H' hi ⟨v10, v11, v12, rfl, fx⟩
      refine ⟨_, rfl, _, rfl, y, rfl, size64 (by omega), d, c, _, rfl, fx.dr, by omega, bnd_le (by omega), fun H2 pl k2 dr2 p0 p1 => ?_⟩
      have fx := fx.but k2 dr2
      obtain ⟨pn, rfl⟩ : ∃ pn : Nat, pl = (pn : Int) := ⟨pl.toNat, by omega⟩
      refine ⟨_, rfl, _, rfl, _, rfl, signsS, rfl, size64 (by rw [hsl]; decide), d, c, _, rfl, fx.dr, by rw [hsl]; decide, bnd_le (by rw [hsl]; decide), fun H3 si k3 dr3 s0 s1 => ?_⟩
      have fx := fx.but k3 dr3
      rw [hsl] at s1
      obtain ⟨sn, rfl⟩ : ∃ sn : Nat, si = (sn : Int) := ⟨si.toNat, by omega⟩
      obtain ⟨ch, hch⟩ : ∃ ch, signsS.cps.toList[sn]? = some ch := ⟨_, List.getElem?_eq_getElem (show sn < signsS.cps.toList.length by omega)⟩
      refine ⟨signsS, sn, ch, rfl, rfl, size64 (by rw [hsl]; decide), atI_nat hch, ?_⟩
      refine ⟨fun σ' H' => ∃ ch : Nat, ch < 300 ∧ σ' = [some (.ref a), some (.ref d), some (.ref pz), some (.ref pw), some (.int st), some (.str z), v, some (.str y), some (.str t), some (.str signsS), some (.int ((0 : Int) + i)), some (.int (pn : Int)), some (.str ⟨#[ch]⟩), none, none, none, none, none, none, none] ∧ Fx K H' d c pz pw fs sz ws, ?_, ?_⟩
      · refine ⟨_, rfl, rfl, _, rfl, ite2 (fun _ => ?_) (fun _ => ?_)⟩
        · refine ⟨_, rfl, d, c, 10, rfl, fx.dr, by decide, bnd_le (by decide), fun H4 u k4 dr4 u0 u1 => ?_⟩
          obtain ⟨un, rfl⟩ : ∃ un : Nat, u = (un : Int) := ⟨u.toNat, by omega⟩
          obtain ⟨cu, hcu⟩ : ∃ cu, tenS.cps.toList[un]? = some cu := ⟨_, List.getElem?_eq_getElem (show un < tenS.cps.toList.length by omega)⟩
          exact ⟨tenS, un, cu, rfl, rfl, size64 (by rw [htl]; decide), atI_nat hcu, cu, ten_low cu (List.mem_of_getElem? hcu), rfl, fx.but k4 dr4⟩
        · exact ⟨ch, signs_low ch (List.mem_of_getElem? hch), rfl, fx⟩
      clear hch fx k3 dr3 k2 dr2 s0 s1
      rintro σ' H4 ⟨ch, hch, rfl, fx⟩
      have hpn : pn < (TL.tl y).length := by rw [← TL.len_tl]; omega
      obtain ⟨x, hx⟩ : ∃ x, (TL.tl y)[pn]? = some x := ⟨_, List.getElem?_eq_getElem hpn⟩
      refine ⟨_, rfl, _, rfl, y, pn, x, rfl, rfl, size64 (by omega), atI_nat hx, _, rfl, rfl, _, rfl, ?_⟩
      rw [dec_one]
      by_cases hxc : x = ch
      · rw [decide_eq_true hxc]
        exact iteF ⟨_, _, _, rfl, fx⟩
      rw [decide_eq_false hxc]
      have c1 := cutS_length y none (some (pn : Int))
      have c2 := cutS_length y (some ((pn : Int) + 1)) none
      have o1 : (⟨#[ch]⟩ : Str).length = 1 := rfl
      have hbent : TL.tl (cutS y none (some (pn : Int)) ++ ⟨#[ch]⟩ ++ cutS y (some ((pn : Int) + 1)) none) = (jl st ws).set pn ch := by
        have e5 : ((pn : Int) + 1) = ((pn + 1 : Nat) : Int) := by omega
        rw [TL.tl_append, TL.tl_append, cutS_to, e5, cutS_from, hyt]
        rw [hyt] at hpn
        exact set_cut hpn
      rw [hyt] at hx
      refine iteT ⟨_, rfl, _, rfl, (pn : Int), rfl, y, rfl, size64 (by omega), _, rfl, _, _, rfl, rfl, size64 (by omega), _, rfl, _, rfl, _, _, rfl, rfl, (pn : Int) + 1, rfl, y, rfl, size64 (by omega), _, _, rfl, rfl, size64 (by rw [PySem.Str.length_append]; omega), _, rfl, _, pz, sz, rfl, ?_, fx.z, by omega, by omega, fun hcn => ?_, fun H5 s5 => ?_⟩
      · rw [PySem.Str.length_append, PySem.Str.length_append]
        omega
      · rw [hbent] at hcn ⊢
        exact set_short hx hshort (by rw [hcn, hcntl])
      · rw [hbent, rdl_bent hm (by omega) hx (jl_low st ws) hch (fun e => hxc e.symm)]
        refine ⟨fun _ => ?_, fun _ _ e => by cases e⟩
        refine ⟨rfl, _, rfl, ?_⟩
        rw [decide_eq_true (rfl : V.non = V.non)]
        exact iteF ⟨_, _, _, rfl, fx.same s5⟩
    rintro σ H15 ⟨v10, v11, v12, rfl, fx⟩
    -- words
    have hyW := split_wds y
    rw [hyt] at hyW
    refine ⟨_, rfl, ⟨_, rfl⟩, y, " ", rfl, rfl, by decide, size64 (by omega), fun px nx => ?_⟩
    have fx := fx.same (same_upd (o := .lst ((Txt.split y " ").map V.str)) nx)
    have hpx : (upd H15 px (.lst ((Txt.split y " ").map V.str))) px = some (.lst ((Txt.split y " ").map V.str)) := upd_same
    have npd : px ≠ d := fun e => by
      obtain ⟨xs, hxs⟩ := (fx.dr).lst
      obtain ⟨ns', i', r', s', _, hd', _⟩ := fx.dr
      rw [← e, upd_same] at hd'
      have := congrArg (fun o => match o with | some (HO.lst (V.ref _ :: _)) => true | _ => false) hd'
      cases hcs : (Txt.split y " ") with
      | nil =>
        rw [hcs] at hd'
        cases hd'
      | cons q qs =>
        rw [hcs] at hd'
        cases hd'
    generalize Txt.split y " " = ys at hyW hpx fx
    generalize upd H15 px (.lst (ys.map V.str)) = H16 at hpx fx
    have hysl : ys.length = 4 + sz.length + sz.sum := by rw [← hcntl, ← hyW, List.length_map]
    have hyb : (ys.map V.str).length = ys.length := List.length_map ..
    refine ⟨_, rfl, _, rfl, px, _, rfl, .inl (SqL.of hpx), d, c, _, rfl, fx.dr, by rw [hyb]; omega, bnd_le (by rw [hyb]; omega), fun H17 sp k17 dr17 sp0 sp1 => ?_⟩
    have fx := fx.but k17 dr17
    have hpx := keepD k17 npd hpx
    rw [hyb] at sp1
    obtain ⟨sn, rfl⟩ : ∃ sn : Nat, sp = (sn : Int) := ⟨sp.toNat, by omega⟩
    have e5 : ((sn : Int) + 1) = ((sn + 1 : Nat) : Int) := by omega
    have hW : lsum (wds (jl st ws)) ≤ 2101 := by
      have h1 := lsum_join (wds (jl st ws)) (by rw [← hyW]; intro e; have := List.map_eq_nil_iff.mp e; rw [this] at hysl; simp at hysl; omega)
      have h2 : TL.joinL [32] (wds (jl st ws)) = jl st ws := by rw [jl_wds, ← jl_join]
      rw [h2] at h1
      omega
    -- any list of those words that is of another length
    have off : ∀ (zs : List Str), zs ≠ [] → (∀ z ∈ zs, z ∈ ys) → zs.length ≠ 4 + sz.length + sz.sum → rdl sz (TL.tl (Txt.join " " zs)) = none ∧ (wds (TL.tl (Txt.join " " zs))).length ≠ 4 + sz.length + sz.sum := fun zs hne hin hln => by
      have e6 : TL.tl (Txt.join " " zs) = TL.joinL [32] (zs.map TL.tl) := join_tl " " zs
      have e7 : wds (TL.tl (Txt.join " " zs)) = zs.map TL.tl := by
        rw [e6]
        refine wds_join (fun e => hne (List.map_eq_nil_iff.mp e)) fun p hp => ?_
        obtain ⟨z, hz, rfl⟩ := List.mem_map.mp hp
        refine wds_free (jl st ws) _ ?_
        rw [← hyW]
        exact List.mem_map.mpr ⟨z, hin z hz, rfl⟩
      have e8 : (wds (TL.tl (Txt.join " " zs))).length ≠ 4 + sz.length + sz.sum := by rw [e7, List.length_map]; exact hln
      exact ⟨rdl_count e8, e8⟩
    have jlen : ∀ (zs : List Str), zs ≠ [] → lsum (zs.map TL.tl) ≤ 4202 → (Txt.join " " zs).length ≤ 9000 ∧ (zs.map (·.length)).sum + zs.length * 1 ≤ 16777216 := fun zs hne hl => by
      have h1 := lsum_strs zs
      have h2 := lsum_join (zs.map TL.tl) (fun e => hne (List.map_eq_nil_iff.mp e))
      have e6 : TL.tl (Txt.join " " zs) = TL.joinL [32] (zs.map TL.tl) := join_tl " " zs
      rw [TL.len_tl, e6]
      omega
    have cut1 := lsum_cut (wds (jl st ws)) (sn + 1)
    have cut2 := lsum_cut (wds (jl st ws)) sn
    -- longer
    have z1len : (ys.take (sn + 1) ++ ys.drop sn).length = ys.length + 1 := by
      rw [List.length_append, List.length_take, List.length_drop]
      omega
    have z1ne : ys.take (sn + 1) ++ ys.drop sn ≠ [] := fun e => by
      rw [e] at z1len
      have : ([] : List Str).length = 0 := rfl
      omega
    have z1 := jlen (ys.take (sn + 1) ++ ys.drop sn) z1ne (by
      rw [List.map_append, List.map_take, List.map_drop, hyW, lsum_app]
      omega)
    have z1o := off (ys.take (sn + 1) ++ ys.drop sn) z1ne (fun z hz => (List.mem_append.mp hz).elim (fun h => List.mem_of_mem_take h) fun h => List.mem_of_mem_drop h) (by rw [z1len]; omega)
    have z2len : (ys.take sn ++ ys.drop (sn + 1)).length = ys.length - 1 := by
      rw [List.length_append, List.length_take, List.length_drop]
      omega
    have z2ne : ys.take sn ++ ys.drop (sn + 1) ≠ [] := fun e => by
      rw [e] at z2len
      have : ([] : List Str).length = 0 := rfl
      omega
    have z2 := jlen (ys.take sn ++ ys.drop (sn + 1)) z2ne (by
      rw [List.map_append, List.map_take, List.map_drop, hyW, lsum_app]
      omega)
    have z2o := off (ys.take sn ++ ys.drop (sn + 1)) z2ne (fun z hz => (List.mem_append.mp hz).elim (fun h => List.mem_of_mem_take h) fun h => List.mem_of_mem_drop h) (by rw [z2len]; omega)
    refine ⟨⟨_, rfl⟩, _, rfl, _, rfl, _, _, rfl, rfl, (sn : Int) + 1, rfl, px, _, rfl, SqL.of hpx, fun q1 nq1 => ?_⟩
    have sq1 := same_upd (o := .lst (cutV (ys.map V.str) none (some ((sn : Int) + 1)))) nq1
    have hq1 : (upd H17 q1 (.lst (cutV (ys.map V.str) none (some ((sn : Int) + 1))))) q1 = some (.lst ((ys.take (sn + 1)).map V.str)) := by rw [upd_same, e5, cutV_to, List.map_take]
    generalize upd H17 q1 _ = H18 at sq1 hq1
    have hpx := sq1 _ _ hpx
    have fx := fx.same sq1
    refine ⟨_, rfl, _, rfl, (sn : Int), rfl, px, _, rfl, SqL.of hpx, fun q2 nq2 => ?_⟩
    have sq2 := same_upd (o := .lst (cutV (ys.map V.str) (some (sn : Int)) none)) nq2
    have hq2 : (upd H18 q2 (.lst (cutV (ys.map V.str) (some (sn : Int)) none))) q2 = some (.lst ((ys.drop sn).map V.str)) := by rw [upd_same, cutV_from, List.map_drop]
    generalize upd H18 q2 _ = H19 at sq2 hq2
    have hpx := sq2 _ _ hpx
    have fx := fx.same sq2
    have hq1 := sq2 _ _ hq1
    refine ⟨q1, q2, _, _, rfl, rfl, hq1, hq2, ?_, fun q3 nq3 => ?_⟩
    · rw [List.length_map, List.length_map, ← List.length_append, z1len]
      exact size64 (by omega)
    have sq3 := same_upd (o := .lst ((ys.take (sn + 1)).map V.str ++ (ys.drop sn).map V.str)) nq3
    have hq3 : (upd H19 q3 (.lst ((ys.take (sn + 1)).map V.str ++ (ys.drop sn).map V.str))) q3 = some (.lst ((ys.take (sn + 1) ++ ys.drop sn).map V.str)) := by rw [upd_same, cat_strs]
    generalize upd H19 q3 _ = H20 at sq3 hq3
    have hpx := sq3 _ _ hpx
    have fx := fx.same sq3
    refine ⟨" ", q3, _, rfl, rfl, .inl (SqL.of hq3), z1.2, ?_⟩
    -- shorter
    refine ⟨⟨_, rfl⟩, _, rfl, _, rfl, (sn : Int), rfl, px, _, rfl, SqL.of hpx, fun q4 nq4 => ?_⟩
    have sq4 := same_upd (o := .lst (cutV (ys.map V.str) none (some (sn : Int)))) nq4
    have hq4 : (upd H20 q4 (.lst (cutV (ys.map V.str) none (some (sn : Int))))) q4 = some (.lst ((ys.take sn).map V.str)) := by rw [upd_same, cutV_to, List.map_take]
    generalize upd H20 q4 _ = H21 at sq4 hq4
    have hpx := sq4 _ _ hpx
    have fx := fx.same sq4
    refine ⟨_, rfl, _, rfl, _, _, rfl, rfl, (sn : Int) + 1, rfl, px, _, rfl, SqL.of hpx, fun q5 nq5 => ?_⟩
    have sq5 := same_upd (o := .lst (cutV (ys.map V.str) (some ((sn : Int) + 1)) none)) nq5
    have hq5 : (upd H21 q5 (.lst (cutV (ys.map V.str) (some ((sn : Int) + 1)) none))) q5 = some (.lst ((ys.drop (sn + 1)).map V.str)) := by rw [upd_same, e5, cutV_from, List.map_drop]
    generalize upd H21 q5 _ = H22 at sq5 hq5
    have fx := fx.same sq5
    have hq4 := sq5 _ _ hq4
    refine ⟨q4, q5, _, _, rfl, rfl, hq4, hq5, ?_, fun q6 nq6 => ?_⟩
    · rw [List.length_map, List.length_map, ← List.length_append, z2len]
      exact size64 (by omega)
    have sq6 := same_upd (o := .lst ((ys.take sn).map V.str ++ (ys.drop (sn + 1)).map V.str)) nq6
    have hq6 : (upd H22 q6 (.lst ((ys.take sn).map V.str ++ (ys.drop (sn + 1)).map V.str))) q6 = some (.lst ((ys.take sn ++ ys.drop (sn + 1)).map V.str)) := by rw [upd_same, cat_strs]
    generalize upd H22 q6 _ = H23 at sq6 hq6
    have fx := fx.same sq6
    refine ⟨" ", q6, _, rfl, rfl, .inl (SqL.of hq6), z2.2, ?_⟩
    generalize Txt.join " " (ys.take (sn + 1) ++ ys.drop sn) = zL at z1 z1o
    generalize Txt.join " " (ys.take sn ++ ys.drop (sn + 1)) = zS at z2 z2o
    have dn : decide (V.non = V.non) = true := decide_eq_true rfl
    -- the three
    refine ⟨_, rfl, _, rfl, zL, pz, sz, rfl, z1.1, fx.z, by omega, by omega, fun h => absurd h z1o.2, fun H24 s24 => ?_⟩
    have fx := fx.same s24
    rw [z1o.1]
    refine ⟨fun _ => ?_, fun _ _ e => by cases e⟩
    refine ⟨rfl, _, rfl, ?_⟩
    rw [dn]
    refine iteF ?_
    refine ⟨_, rfl, _, rfl, zS, pz, sz, rfl, z2.1, fx.z, by omega, by omega, fun h => absurd h z2o.2, fun H25 s25 => ?_⟩
    have fx := fx.same s25
    rw [z2o.1]
    refine ⟨fun _ => ?_, fun _ _ e => by cases e⟩
    refine ⟨rfl, _, rfl, ?_⟩
    rw [dn]
    refine iteF ?_
    have he0 : (wds (TL.tl ("" : Str))).length ≠ 4 + sz.length + sz.sum := by
      have : wds (TL.tl ("" : Str)) = [[]] := by decide +kernel
      rw [this]
      show 1 ≠ _
      omega
    refine ⟨_, rfl, "", pz, sz, rfl, Nat.zero_le _, fx.z, by omega, by omega, fun h => absurd h he0, fun H26 s26 => ?_⟩
    have fx := fx.same s26
    rw [rdl_count he0]
    refine ⟨fun _ => ?_, fun _ _ e => by cases e⟩
    refine ⟨rfl, _, rfl, ?_⟩
    rw [dn]
    refine iteF ?_
    -- other sizes
    obtain ⟨s0, sr, hsz0⟩ : ∃ s0 sr, sz = s0 :: sr := by
      cases sz with
      | nil => simp at hl3
      | cons a b => exact ⟨a, b, rfl⟩
    have hsne : (sz.map fun n : Nat => V.int (n : Int)) ≠ [] := by rw [hsz0]; exact List.cons_ne_nil _ _
    refine ⟨_, rfl, _, rfl, by show 1 ≤ sizeLine; decide, fun r1 nr1 => ?_⟩
    have fx := fx.same (same_upd (o := .tup [.int 1]) nr1)
    refine ⟨pz, r1, _, _, rfl, rfl, fx.z, SqT.of upd_same, hsne, by rw [List.length_map]; exact size64 (by show sz.length + 1 ≤ _; omega), (fun e => by cases e), fun _ r2 nr2 => ?_⟩
    have fx := fx.same (same_upd (o := .tup ((sz.map fun n : Nat => V.int (n : Int)) ++ [.int 1])) nr2)
    have hz1 : SqT K (upd (upd H26 r1 (.tup [.int 1])) r2 (.tup ((sz.map fun n : Nat => V.int (n : Int)) ++ [.int 1]))) r2 ((sz ++ [1]).map fun n : Nat => V.int (n : Int)) := SqT.of (by rw [upd_same, List.map_append]; rfl)
    generalize upd (upd H26 r1 _) r2 _ = H27 at fx hz1
    have hc1 : (wds (TL.tl y)).length ≠ 4 + (sz ++ [1]).length + (sz ++ [1]).sum := by
      rw [hyt, hcntl, List.length_append, List.sum_append]
      show _ ≠ 4 + (sz.length + 1) + (sz.sum + 1)
      omega
    refine ⟨y, r2, sz ++ [1], rfl, by omega, hz1, by rw [List.length_append]; show sz.length + 1 ≤ 5; omega, by rw [List.sum_append]; show sz.sum + 1 ≤ 30; omega, fun h => absurd h hc1, fun H28 s28 => ?_⟩
    have fx := fx.same s28
    rw [rdl_count hc1]
    refine ⟨fun _ => ?_, fun _ _ e => by cases e⟩
    refine ⟨rfl, _, rfl, ?_⟩
    rw [dn]
    refine iteT ?_
    refine ⟨_, rfl, _, rfl, pz, _, _, _, rfl, rfl, fx.z, (by rw [hsz0]; exact atI_zero), _, _, rfl, rfl, by show 1 ≤ sizeLine; decide, fun r3 nr3 => ?_⟩
    have fx := fx.same (same_upd (o := .tup [.int ((s0 : Int) + 1)]) nr3)
    refine ⟨_, rfl, 1, rfl, pz, _, rfl, fx.z, (fun h => absurd h.1 (by rw [hsz0]; show ¬ min (1 : Int).toNat (sr.length + 1) = 0; omega)), fun _ r4 nr4 => ?_⟩
    have hr3 : (upd (upd H28 r3 (.tup [.int ((s0 : Int) + 1)])) r4 (.tup (cutV (sz.map fun n : Nat => V.int (n : Int)) (some 1) none))) r3 = some (.tup [.int ((s0 : Int) + 1)]) := same_upd nr4 _ _ upd_same
    have hr4 : (upd (upd H28 r3 (.tup [.int ((s0 : Int) + 1)])) r4 (.tup (cutV (sz.map fun n : Nat => V.int (n : Int)) (some 1) none))) r4 = some (.tup (sr.map fun n : Nat => V.int (n : Int))) := by
      rw [upd_same]
      have : cutV (sz.map fun n : Nat => V.int (n : Int)) (some ((1 : Nat) : Int)) none = (sz.map fun n : Nat => V.int (n : Int)).drop 1 := cutV_from _ 1
      rw [hsz0] at this ⊢
      exact congrArg (fun l => some (HO.tup l)) this
    have fx := fx.same (same_upd (o := .tup (cutV (sz.map fun n : Nat => V.int (n : Int)) (some 1) none)) nr4)
    generalize upd (upd H28 r3 _) r4 _ = H29 at fx hr3 hr4
    have fin : ∀ r5 H30, Same H29 H30 → SqT K H30 r5 (((s0 + 1) :: sr).map fun n : Nat => V.int (n : Int)) → ∀ Q' : VK, (∀ H', Q' .non H') → spTold K [.str y, .ref r5] H30 Q' E0 := fun r5 H30 s30 h5 Q' hQ => by
      have hc2 : (wds (TL.tl y)).length ≠ 4 + ((s0 + 1) :: sr).length + ((s0 + 1) :: sr).sum := by
        rw [hyt, hcntl, hsz0, List.length_cons, List.length_cons, List.sum_cons, List.sum_cons]
        omega
      refine ⟨y, r5, (s0 + 1) :: sr, rfl, by omega, h5, ?_, ?_, fun h => absurd h hc2, fun H31 s31 => ?_⟩
      · rw [hsz0] at hl3
        have := hl3.2
        rw [List.length_cons] at this ⊢
        omega
      · rw [hsz0] at hszs
        rw [List.sum_cons] at hszs ⊢
        omega
      · rw [rdl_count hc2]
        exact ⟨fun _ => hQ _, fun _ _ e => by cases e⟩
    have last : ∀ H', Q (V.bl (decide (V.non = V.non))) H' := fun H' => by
      rw [dn]
      exact q H'
    refine ⟨r3, r4, _, _, rfl, rfl, SqT.of hr3, SqT.of hr4, ?_, (fun e => by cases e), fun _ e => ?_, fun _ _ r5 nr5 => ?_⟩
    · rw [List.length_map]
      rw [hsz0, List.length_cons] at hl3
      exact size64 (by show 1 + sr.length ≤ _; omega)
    · have e := List.map_eq_nil_iff.mp e
      exact fin r3 H29 (Same.refl _) (by rw [e]; exact SqT.of hr3) _ fun H' => ⟨rfl, last H'⟩
    · exact fin r5 _ (same_upd nr5) (SqT.of upd_same) _ fun H' => ⟨rfl, last H'⟩
end
/-! ### what the top has written, the head -/
theorem all_mk {l : PySem.W.OpenLaw} {w : World} {K : PySem.W.Frag} {h : Heap} {mg : Str → Option Value} {fa f1 f2 f3 f4 f5 f6 f7 f8 f9 f10 f11 f12 f13 zT zJ cT : Addr} (X : K.In h) (G : h.Ns mainGlobals mg) (hfa : mg "law" = some (.ref fa))
    {od1 an1 od2 an2 od3 an3 od4 an4 od5 an5 od6 an6 od7 an7 od8 an8 od9 an9 od10 an10 od11 an11 od12 an12 od13 an13 : Option Addr} {sl1 sl2 sl3 sl4 sl5 sl6 sl7 sl8 sl9 sl10 sl11 sl12 sl13 : Array (Option Value)} {oc1 kV1 dc1 pm1 cd1 ct1 oc2 kV2 dc2 pm2 cd2 ct2 oc3 kV3 dc3 pm3 cd3 ct3 oc4 kV4 dc4 pm4 cd4 ct4 oc5 kV5 dc5 pm5 cd5 ct5 oc6 kV6 dc6 pm6 cd6 ct6 oc7 kV7 dc7 pm7 cd7 ct7 oc8 kV8 dc8 pm8 cd8 ct8 oc9 kV9 dc9 pm9 cd9 ct9 oc10 kV10 dc10 pm10 cd10 ct10 oc11 kV11 dc11 pm11 cd11 ct11 oc12 kV12 dc12 pm12 cd12 ct12 oc13 kV13 dc13 pm13 cd13 ct13 : Value}
    {tkM tkD : Tok}
    (a1 : PySem.W.nsIn K mainGlobals "read_integer" = some (some (.ref f1))) (l1 : K.lookup f1 = some ⟨oc1, od1, .func (PySem.W.fnOf "read_integer" "read_integer" (defArgs sReadInt) (defBody sReadInt) (defScope sReadInt) .none kV1 dc1 pm1 an1 cd1 ct1), sl1⟩) (c1 : PySem.W.codeIn K cd1 "read_integer" = true) (k1 : PySem.W.keepIn K (.ref f1) = true)
    (a2 : PySem.W.nsIn K mainGlobals "write_integer" = some (some (.ref f2))) (l2 : K.lookup f2 = some ⟨oc2, od2, .func (PySem.W.fnOf "write_integer" "write_integer" (defArgs sWI) (defBody sWI) (defScope sWI) .none kV2 dc2 pm2 an2 cd2 ct2), sl2⟩) (c2 : PySem.W.codeIn K cd2 "write_integer" = true) (k2 : PySem.W.keepIn K (.ref f2) = true)
    (a3 : PySem.W.nsIn K mainGlobals "check_number" = some (some (.ref f3))) (l3 : K.lookup f3 = some ⟨oc3, od3, .func (PySem.W.fnOf "check_number" "check_number" (defArgs sCN) (defBody sCN) (defScope sCN) .none kV3 dc3 pm3 an3 cd3 ct3), sl3⟩) (c3 : PySem.W.codeIn K cd3 "check_number" = true) (k3 : PySem.W.keepIn K (.ref f3) = true)
    (a4 : PySem.W.nsIn K mainGlobals "journal_line" = some (some (.ref f4))) (l4 : K.lookup f4 = some ⟨oc4, od4, .func (PySem.W.fnOf "journal_line" "journal_line" (defArgs sJL) (defBody sJL) (defScope sJL) .none kV4 dc4 pm4 an4 cd4 ct4), sl4⟩) (c4 : PySem.W.codeIn K cd4 "journal_line" = true) (k4 : PySem.W.keepIn K (.ref f4) = true)
    (a5 : PySem.W.nsIn K mainGlobals "read_line" = some (some (.ref f5))) (l5 : K.lookup f5 = some ⟨oc5, od5, .func (PySem.W.fnOf "read_line" "read_line" (defArgs sRL) (defBody sRL) (defScope sRL) .none kV5 dc5 pm5 an5 cd5 ct5), sl5⟩) (c5 : PySem.W.codeIn K cd5 "read_line" = true) (k5 : PySem.W.keepIn K (.ref f5) = true)
    (a6 : PySem.W.nsIn K mainGlobals "_read_weights" = some (some (.ref f6))) (l6 : K.lookup f6 = some ⟨oc6, od6, .func (PySem.W.fnOf "_read_weights" "_read_weights" (defArgs sRW) (defBody sRW) (defScope sRW) .none kV6 dc6 pm6 an6 cd6 ct6), sl6⟩) (c6 : PySem.W.codeIn K cd6 "_read_weights" = true) (k6 : PySem.W.keepIn K (.ref f6) = true)
    (a7 : PySem.W.nsIn K mainGlobals "_law_begin" = some (some (.ref f7))) (l7 : K.lookup f7 = some ⟨oc7, od7, .func (PySem.W.fnOf "_law_begin" "_law_begin" (defArgs sBegin) (defBody sBegin) (defScope sBegin) .none kV7 dc7 pm7 an7 cd7 ct7), sl7⟩) (c7 : PySem.W.codeIn K cd7 "_law_begin" = true) (k7 : PySem.W.keepIn K (.ref f7) = true)
    (a8 : PySem.W.nsIn K mainGlobals "_law_take" = some (some (.ref f8))) (l8 : K.lookup f8 = some ⟨oc8, od8, .func (PySem.W.fnOf "_law_take" "_law_take" (defArgs sTake) (defBody sTake) (defScope sTake) .none kV8 dc8 pm8 an8 cd8 ct8), sl8⟩) (c8 : PySem.W.codeIn K cd8 "_law_take" = true) (k8 : PySem.W.keepIn K (.ref f8) = true)
    (a9 : PySem.W.nsIn K mainGlobals "_law_signed" = some (some (.ref f9))) (l9 : K.lookup f9 = some ⟨oc9, od9, .func (PySem.W.fnOf "_law_signed" "_law_signed" (defArgs sSigned) (defBody sSigned) (defScope sSigned) .none kV9 dc9 pm9 an9 cd9 ct9), sl9⟩) (c9 : PySem.W.codeIn K cd9 "_law_signed" = true) (k9 : PySem.W.keepIn K (.ref f9) = true)
    (a10 : PySem.W.nsIn K mainGlobals "_law_told" = some (some (.ref f10))) (l10 : K.lookup f10 = some ⟨oc10, od10, .func (PySem.W.fnOf "_law_told" "_law_told" (defArgs sTold) (defBody sTold) (defScope sTold) .none kV10 dc10 pm10 an10 cd10 ct10), sl10⟩) (c10 : PySem.W.codeIn K cd10 "_law_told" = true) (k10 : PySem.W.keepIn K (.ref f10) = true)
    (a11 : PySem.W.nsIn K mainGlobals "_law_check" = some (some (.ref f11))) (l11 : K.lookup f11 = some ⟨oc11, od11, .func (PySem.W.fnOf "_law_check" "_law_check" (defArgs sLC) (defBody sLC) (defScope sLC) .none kV11 dc11 pm11 an11 cd11 ct11), sl11⟩) (c11 : PySem.W.codeIn K cd11 "_law_check" = true) (k11 : PySem.W.keepIn K (.ref f11) = true)
    (a12 : PySem.W.nsIn K mainGlobals "_law_number" = some (some (.ref f12))) (l12 : K.lookup f12 = some ⟨oc12, od12, .func (PySem.W.fnOf "_law_number" "_law_number" (defArgs sLN) (defBody sLN) (defScope sLN) .none kV12 dc12 pm12 an12 cd12 ct12), sl12⟩) (c12 : PySem.W.codeIn K cd12 "_law_number" = true) (k12 : PySem.W.keepIn K (.ref f12) = true)
    (a13 : PySem.W.nsIn K mainGlobals "law" = some (some (.ref f13))) (l13 : K.lookup f13 = some ⟨oc13, od13, .func (PySem.W.fnOf "law" "law" (defArgs sLaw) (defBody sLaw) (defScope sLaw) .none kV13 dc13 pm13 an13 cd13 ct13), sl13⟩) (c13 : PySem.W.codeIn K cd13 "law" = true) (k13 : PySem.W.keepIn K (.ref f13) = true)
    (aEzT : PySem.W.nsIn K mainGlobals "TextError" = some (some (.ref zT)))
    (kEzT : PySem.W.keepIn K (.ref zT) = true)
    (bEzT : PySem.W.subIn K (.ref zT) (.type "BaseException") = some true)
    (tEzT : PySem.W.typeIn K (.ref zT) = some (.type "type"))
    (hEzT : PySem.W.hasDictIn K zT = true)
    (aEzJ : PySem.W.nsIn K mainGlobals "JournalError" = some (some (.ref zJ)))
    (kEzJ : PySem.W.keepIn K (.ref zJ) = true)
    (bEzJ : PySem.W.subIn K (.ref zJ) (.type "BaseException") = some true)
    (tEzJ : PySem.W.typeIn K (.ref zJ) = some (.type "type"))
    (hEzJ : PySem.W.hasDictIn K zJ = true)
    (aEcT : PySem.W.nsIn K mainGlobals "TensorError" = some (some (.ref cT)))
    (kEcT : PySem.W.keepIn K (.ref cT) = true)
    (bEcT : PySem.W.subIn K (.ref cT) (.type "BaseException") = some true)
    (tEcT : PySem.W.typeIn K (.ref cT) = some (.type "type"))
    (hEcT : PySem.W.hasDictIn K cT = true)
    (xzT : PySem.W.excIn K zT valErr "ValueError.__new__" = true)
    (sTzT : PySem.W.subIn K (.ref zT) (.ref cT) = some true)
    (i1zT : PySem.W.findIn K (.ref zT) "__getattribute__" = some (some (.builtin "BaseException.__getattribute__")))
    (i2zT : PySem.W.findIn K (.ref zT) "__getattr__" = some none)
    (i3zT : PySem.W.findIn K (.ref zT) "__class__" = some (some (.builtin "object.__class__")))
    (i6zT : PySem.W.mroIn K zT (.type "object") = some true)
    (szTzT : PySem.W.subIn K (.ref zT) (.ref zT) = some true)
    (szTzJ : PySem.W.subIn K (.ref zT) (.ref zJ) = some false)
    (xzJ : PySem.W.excIn K zJ valErr "ValueError.__new__" = true)
    (sTzJ : PySem.W.subIn K (.ref zJ) (.ref cT) = some true)
    (i1zJ : PySem.W.findIn K (.ref zJ) "__getattribute__" = some (some (.builtin "BaseException.__getattribute__")))
    (i2zJ : PySem.W.findIn K (.ref zJ) "__getattr__" = some none)
    (i3zJ : PySem.W.findIn K (.ref zJ) "__class__" = some (some (.builtin "object.__class__")))
    (i6zJ : PySem.W.mroIn K zJ (.type "object") = some true)
    (szJzT : PySem.W.subIn K (.ref zJ) (.ref zT) = some false)
    (szJzJ : PySem.W.subIn K (.ref zJ) (.ref zJ) = some true)
    (i4 : PySem.W.specialIn K (.builtin "object.__class__") "__get__" = some (some (.builtin "getset_descriptor.__get__")))
    (i5 : PySem.W.takesIn K (.builtin "object.__class__") = some true)
    (eMo : PySem.W.nsIn K mainGlobals "_MODULUS" = some (some (.int 65521 tkM)))
    (eDi : PySem.W.nsIn K mainGlobals "_DIGITS_LIMIT" = some (some (.int 70 tkD)))
    (z_int : PySem.W.nsIn K mainGlobals "int" = some none)
    (z_abs : PySem.W.nsIn K mainGlobals "abs" = some none)
    (z_len : PySem.W.nsIn K mainGlobals "len" = some none)
    (z_list : PySem.W.nsIn K mainGlobals "list" = some none)
    (z_str : PySem.W.nsIn K mainGlobals "str" = some none)
    (z_ord : PySem.W.nsIn K mainGlobals "ord" = some none)
    (z_divmod : PySem.W.nsIn K mainGlobals "divmod" = some none)
    (z_sum : PySem.W.nsIn K mainGlobals "sum" = some none)
    (z_enumerate : PySem.W.nsIn K mainGlobals "enumerate" = some none)
    (z_tuple : PySem.W.nsIn K mainGlobals "tuple" = some none)
    (z_range : PySem.W.nsIn K mainGlobals "range" = some none)
    (z_isinstance : PySem.W.nsIn K mainGlobals "isinstance" = some none)
    : ∃ fd : FuncData, (∀ (s : Shared) (v : Value), BindsTo s fd ⟨[v], []⟩ [("script", v)]) ∧ ∀ base : Heap, K.In base → base.Ns mainGlobals mg → FnOk l.prog w K mg base CX0 5 fa fd ["script"] (spLaw K) := by
  have e := hfa.symm.trans (PySem.W.mg_of X G a13)
  cases e
  have F1 := fun_mk (st := sReadInt) l1 c1 k1
  have m1 := PySem.W.mg_of X G a1
  have b1 := F1.binds (ps := ["text", "most"]) fun _ _ _ _ _ _ us hl => match us, hl with | [_, _], _ => rfl
  have F2 := fun_mk (st := sWI) l2 c2 k2
  have m2 := PySem.W.mg_of X G a2
  have b2 := F2.binds (ps := ["n"]) fun _ _ _ _ _ _ us hl => match us, hl with | [_], _ => rfl
  have F3 := fun_mk (st := sCN) l3 c3 k3
  have m3 := PySem.W.mg_of X G a3
  have b3 := F3.binds (ps := ["text"]) fun _ _ _ _ _ _ us hl => match us, hl with | [_], _ => rfl
  have F4 := fun_mk (st := sJL) l4 c4 k4
  have m4 := PySem.W.mg_of X G a4
  have b4 := F4.binds (ps := ["steps", "weights"]) fun _ _ _ _ _ _ us hl => match us, hl with | [_, _], _ => rfl
  have F5 := fun_mk (st := sRL) l5 c5 k5
  have m5 := PySem.W.mg_of X G a5
  have b5 := F5.binds (ps := ["line", "sizes"]) fun _ _ _ _ _ _ us hl => match us, hl with | [_, _], _ => rfl
  have F6 := fun_mk (st := sRW) l6 c6 k6
  have m6 := PySem.W.mg_of X G a6
  have b6 := F6.binds (ps := ["words", "sizes"]) fun _ _ _ _ _ _ us hl => match us, hl with | [_, _], _ => rfl
  have F7 := fun_mk (st := sBegin) l7 c7 k7
  have m7 := PySem.W.mg_of X G a7
  have b7 := F7.binds (ps := ["script"]) fun _ _ _ _ _ _ us hl => match us, hl with | [_], _ => rfl
  have F8 := fun_mk (st := sTake) l8 c8 k8
  have m8 := PySem.W.mg_of X G a8
  have b8 := F8.binds (ps := ["d", "many"]) fun _ _ _ _ _ _ us hl => match us, hl with | [_, _], _ => rfl
  have F9 := fun_mk (st := sSigned) l9 c9 k9
  have m9 := PySem.W.mg_of X G a9
  have b9 := F9.binds (ps := ["d", "most"]) fun _ _ _ _ _ _ us hl => match us, hl with | [_, _], _ => rfl
  have F10 := fun_mk (st := sTold) l10 c10 k10
  have m10 := PySem.W.mg_of X G a10
  have b10 := F10.binds (ps := ["line", "sizes"]) fun _ _ _ _ _ _ us hl => match us, hl with | [_, _], _ => rfl
  have F11 := fun_mk (st := sLC) l11 c11 k11
  have m11 := PySem.W.mg_of X G a11
  have b11 := F11.binds (ps := ["text"]) fun _ _ _ _ _ _ us hl => match us, hl with | [_], _ => rfl
  have F12 := fun_mk (st := sLN) l12 c12 k12
  have m12 := PySem.W.mg_of X G a12
  have b12 := F12.binds (ps := ["d"]) fun _ _ _ _ _ _ us hl => match us, hl with | [_], _ => rfl
  have F13 := fun_mk (st := sLaw) l13 c13 k13
  have m13 := PySem.W.mg_of X G a13
  have n_int := PySem.W.mg_none_of X G z_int
  have n_abs := PySem.W.mg_none_of X G z_abs
  have n_len := PySem.W.mg_none_of X G z_len
  have n_list := PySem.W.mg_none_of X G z_list
  have n_str := PySem.W.mg_none_of X G z_str
  have n_ord := PySem.W.mg_none_of X G z_ord
  have n_divmod := PySem.W.mg_none_of X G z_divmod
  have n_sum := PySem.W.mg_none_of X G z_sum
  have n_enumerate := PySem.W.mg_none_of X G z_enumerate
  have n_tuple := PySem.W.mg_none_of X G z_tuple
  have n_range := PySem.W.mg_none_of X G z_range
  have n_isinstance := PySem.W.mg_none_of X G z_isinstance
  have TD : TxtD mg := ⟨n_int, n_abs, n_len, n_list⟩
  have T : Txt mg := ⟨TD, n_str, n_ord, n_divmod, n_sum, n_enumerate, n_tuple, n_range, n_isinstance⟩
  have RT : ErrR K mg "TextError" zT := ⟨PySem.W.mg_of X G aEzT, xzT, kEzT, bEzT, tEzT⟩
  have NT : ErrN K mg "TextError" zT := ⟨PySem.W.mg_of X G aEzT, bEzT, hEzT, tEzT⟩
  have RJ : ErrR K mg "JournalError" zJ := ⟨PySem.W.mg_of X G aEzJ, xzJ, kEzJ, bEzJ, tEzJ⟩
  have TJ : ErrJ K mg zJ cT := ⟨RJ, ⟨PySem.W.mg_of X G aEcT, bEcT, hEcT, tEcT⟩, n_isinstance, sTzJ, ⟨i1zJ, i2zJ, bEzJ, hEzJ, i3zJ, i4, i5, i6zJ⟩, kit_rr szJzJ szJzJ hEzJ tEzJ⟩
  have lM : ∃ u, mg "_MODULUS" = some u ∧ RelV (.int 65521) u := ⟨_, PySem.W.mg_of X G eMo, _, rfl⟩
  have lD : ∃ u, mg "_DIGITS_LIMIT" = some u ∧ RelV (.int 70) u := ⟨_, PySem.W.mg_of X G eDi, _, rfl⟩
  refine ⟨PySem.W.fnOf "law" "law" (defArgs sLaw) (defBody sLaw) (defScope sLaw) .none kV13 dc13 pm13 an13 cd13 ct13, fun s v => .of_eq rfl, fun base _ _ => ?_⟩
  have gRI : FnOk l.prog w K mg base (L2N.CX l.prog w) 1 _ _ ["text", "most"] (spReadInt zT) := ok_readint F1 T RT
  have cRI : Calls l.prog w K mg base (L2N.CX l.prog w) 1 "read_integer" ["text", "most"] (spReadInt zT) := ⟨_, _, gRI, k1, b1, m1⟩
  have gWI : FnOk l.prog w K mg base CX0 1 _ _ ["n"] spWI := ok_wi F2 T
  have cWI : Calls l.prog w K mg base CX0 1 "write_integer" ["n"] spWI := ⟨_, _, gWI, k2, b2, m2⟩
  have gCN : FnOk l.prog w K mg base CX0 1 _ _ ["text"] spCN := ok_cn F3 T lM
  have cCN : Calls l.prog w K mg base CX0 1 "check_number" ["text"] spCN := ⟨_, _, gCN, k3, b3, m3⟩
  have gJL : FnOk l.prog w K mg base CX0 2 _ _ ["steps", "weights"] (spJL K) := ok_jl F4 cWI cCN
  have cJL : Calls l.prog w K mg base CX0 2 "journal_line" ["steps", "weights"] (spJL K) := ⟨_, _, gJL, k4, b4, m4⟩
  have gRW : FnOk l.prog w K mg base (L2N.CX l.prog w) 2 _ _ ["words", "sizes"] (spRW K zT) := ok_rw F6 T lD cRI
  have cRW : Calls l.prog w K mg base (L2N.CX l.prog w) 2 "_read_weights" ["words", "sizes"] (spRW K zT) := ⟨_, _, gRW, k6, b6, m6⟩
  have gRL : FnOk l.prog w K mg base (L2.CX l.prog w) 3 _ _ ["line", "sizes"] (spRL K zJ) := ok_rl F5 T lD RJ NT szTzT cRI cRW cJL
  have cRL : Calls l.prog w K mg base (L2.CX l.prog w) 3 "read_line" ["line", "sizes"] (spRL K zJ) := ⟨_, _, gRL, k5, b5, m5⟩
  have gB : FnOk l.prog w K mg base CX0 1 _ _ ["script"] (spBegin K) := ok_begin F7 TD
  have cB : Calls l.prog w K mg base CX0 1 "_law_begin" ["script"] (spBegin K) := ⟨_, _, gB, k7, b7, m7⟩
  have gT : FnOk l.prog w K mg base CX0 1 _ _ ["d", "many"] spTake := ok_take F8 TD
  have cT : Calls l.prog w K mg base CX0 1 "_law_take" ["d", "many"] spTake := ⟨_, _, gT, k8, b8, m8⟩
  have gS : FnOk l.prog w K mg base CX0 2 _ _ ["d", "most"] spSigned := ok_signed F9 gT (by assumption) (by assumption) (by assumption)
  have cS : Calls l.prog w K mg base CX0 2 "_law_signed" ["d", "most"] spSigned := ⟨_, _, gS, k9, b9, m9⟩
  have gTo : FnOk l.prog w K mg base CX0 4 _ _ ["line", "sizes"] (spTold K) := ok_told F10 TJ cRL
  have cTo : Calls l.prog w K mg base CX0 4 "_law_told" ["line", "sizes"] (spTold K) := ⟨_, _, gTo, k10, b10, m10⟩
  have gLC : FnOk l.prog w K mg base CX0 1 _ _ ["text"] spCN := ok_lcheck F11 T
  have cLC : Calls l.prog w K mg base CX0 1 "_law_check" ["text"] spCN := ⟨_, _, gLC, k11, b11, m11⟩
  have gLN : FnOk l.prog w K mg base CX0 3 _ _ ["d"] spLN := ok_ln F12 cS cT
  have cLN : Calls l.prog w K mg base CX0 3 "_law_number" ["d"] spLN := ⟨_, _, gLN, k12, b12, m12⟩
  exact ok_law F13 T cB cT cLN cLC cJL cCN cTo
end My
open PySem PySem.W PyProof.Rows
set_option maxRecDepth 100000 in
set_option maxHeartbeats 0 in
theorem PySem.Challenge.cw_tensorcompiler_k70_lines_of_the_journal_holds : PySem.Challenge.rw_tensorcompiler_k70_lines_of_the_journal.Holds := by
  w_on; o_law; k_head; (case hw => w_witness2)
  k_fill
  refine L2.walk_of (l := PySem.Challenge.rw_tensorcompiler_k70_lines_of_the_journal) (n := 63) (k := 5) (x := "script") (CX := fun _ => L2.CX0) (sp := fun w => My.spLaw _) rfl (by decide) rfl ⟨rfl, by decide, by decide⟩ (fun w h Y => PySem.W.kIn_of Y) ?F (fun _ _ a ns hl _ hS => ⟨a, ns, rfl, hS, hl, fun _ => rfl⟩) (fun _ _ _ _ _ h => h)
  case F =>
    intro w mg fa h KX G hmg
    refine' My.all_mk KX G hmg ?a1 ?l1 ?c1 ?k1 ?a2 ?l2 ?c2 ?k2 ?a3 ?l3 ?c3 ?k3 ?a4 ?l4 ?c4 ?k4 ?a5 ?l5 ?c5 ?k5 ?a6 ?l6 ?c6 ?k6 ?a7 ?l7 ?c7 ?k7 ?a8 ?l8 ?c8 ?k8 ?a9 ?l9 ?c9 ?k9 ?a10 ?l10 ?c10 ?k10 ?a11 ?l11 ?c11 ?k11 ?a12 ?l12 ?c12 ?k12 ?a13 ?l13 ?c13 ?k13 ?aEzT ?kEzT ?bEzT ?tEzT ?hEzT ?aEzJ ?kEzJ ?bEzJ ?tEzJ ?hEzJ ?aEcT ?kEcT ?bEcT ?tEcT ?hEcT ?xzT ?sTzT ?i1zT ?i2zT ?i3zT ?i6zT ?szTzT ?szTzJ ?xzJ ?sTzJ ?i1zJ ?i2zJ ?i3zJ ?i6zJ ?szJzT ?szJzJ ?i4 ?i5 ?eMo ?eDi ?z_int ?z_abs ?z_len ?z_list ?z_str ?z_ord ?z_divmod ?z_sum ?z_enumerate ?z_tuple ?z_range ?z_isinstance
    (case a1 => k_is); (case l1 => k_is); (case c1 => k_is); (case k1 => k_is); (case a2 => k_is); (case l2 => k_is); (case c2 => k_is); (case k2 => k_is); (case a3 => k_is); (case l3 => k_is); (case c3 => k_is); (case k3 => k_is); (case a4 => k_is); (case l4 => k_is); (case c4 => k_is); (case k4 => k_is); (case a5 => k_is); (case l5 => k_is); (case c5 => k_is); (case k5 => k_is); (case a6 => k_is); (case l6 => k_is); (case c6 => k_is); (case k6 => k_is); (case a7 => k_is); (case l7 => k_is); (case c7 => k_is); (case k7 => k_is); (case a8 => k_is); (case l8 => k_is); (case c8 => k_is); (case k8 => k_is); (case a9 => k_is); (case l9 => k_is); (case c9 => k_is); (case k9 => k_is); (case a10 => k_is); (case l10 => k_is); (case c10 => k_is); (case k10 => k_is); (case a11 => k_is); (case l11 => k_is); (case c11 => k_is); (case k11 => k_is); (case a12 => k_is); (case l12 => k_is); (case c12 => k_is); (case k12 => k_is); (case a13 => k_is); (case l13 => k_is); (case c13 => k_is); (case k13 => k_is); (case aEzT => k_is); (case kEzT => k_is); (case bEzT => k_is); (case tEzT => k_is); (case hEzT => k_is); (case aEzJ => k_is); (case kEzJ => k_is); (case bEzJ => k_is); (case tEzJ => k_is); (case hEzJ => k_is); (case aEcT => k_is); (case kEcT => k_is); (case bEcT => k_is); (case tEcT => k_is); (case hEcT => k_is); (case xzT => k_exc); (case sTzT => k_is); (case i1zT => k_is); (case i2zT => k_is); (case i3zT => k_is); (case i6zT => k_is); (case szTzT => first | rfl | k_is); (case szTzJ => first | rfl | k_is); (case xzJ => k_exc); (case sTzJ => k_is); (case i1zJ => k_is); (case i2zJ => k_is); (case i3zJ => k_is); (case i6zJ => k_is); (case szJzT => first | rfl | k_is); (case szJzJ => first | rfl | k_is); (case i4 => k_is); (case i5 => k_is); (case eMo => k_is); (case eDi => k_is); (case z_int => k_is); (case z_abs => k_is); (case z_len => k_is); (case z_list => k_is); (case z_str => k_is); (case z_ord => k_is); (case z_divmod => k_is); (case z_sum => k_is); (case z_enumerate => k_is); (case z_tuple => k_is); (case z_range => k_is); (case z_isinstance => k_is)
