import PyProof.Rows.All
import Wide.All
import OpenK.AllK
import Wide.FinOn
import HandS.ForMost
import HandS.Wide
import HandS.Evl
import HandS.Exc
import HandS.ExcOwn
import HandS.TryOnly
import HandS.WordsExc
import HandS.ExcIs
import HandS.IsInst
import HandS.RaiseMore
import HandS.FStr
import HandS.Zip
import PyProof.Rows.SetFrom
import PyProof.StrWalks
import PySem.Challenge.RW_tensorcompiler_k03_shapes_are_checked
set_option Elab.async false
set_option linter.all false
set_option maxRecDepth 100000
set_option maxHeartbeats 4000000
namespace My
open PySem L2
/-! ### the text -/
def topS (i : Nat) : Stmt := PySem.Challenge.pw_tensorcompiler_k03_shapes_are_checked.main.body.getD i (.Pass ⟨0, 0, 0, 0⟩)
abbrev sCheck : Stmt := topS 10
abbrev sCountOf : Stmt := topS 11
abbrev sLettersOf : Stmt := topS 12
abbrev sBegin : Stmt := topS 14
abbrev sTake : Stmt := topS 15
abbrev sInt : Stmt := topS 16
abbrev sCount : Stmt := topS 17
abbrev sNames : Stmt := topS 18
abbrev sTold : Stmt := topS 19
abbrev sDue : Stmt := topS 20
abbrev sLaw : Stmt := topS 21
/-! ### len(set(text)) -/
def one (c : Nat) : Str := ⟨#[c]⟩
/-- the signs met so far, each once -/
def met : List Nat → List Nat → List Nat
  | σ, [] => σ
  | σ, c :: r => met (if c ∈ σ then σ else σ ++ [c]) r
theorem met_take (l : List Nat) : ∀ (σ : List Nat) (i : Nat) (c : Nat), l[i]? = some c → met σ (l.take (i + 1)) = if c ∈ met σ (l.take i) then met σ (l.take i) else met σ (l.take i) ++ [c] := by
  induction l with
  | nil => intro σ i c h; simp at h
  | cons a l ih =>
    intro σ i c h
    cases i with
    | zero =>
      simp only [List.getElem?_cons_zero, Option.some.injEq] at h
      subst h
      rfl
    | succ i =>
      simp only [List.getElem?_cons_succ] at h
      exact ih _ i c h
theorem met_len : ∀ (l σ : List Nat), σ.length ≤ (met σ l).length ∧ (met σ l).length ≤ σ.length + l.length
  | [], σ => ⟨Nat.le_refl _, Nat.le_refl _⟩
  | c :: r, σ => by
    have ih := met_len r (if c ∈ σ then σ else σ ++ [c])
    show σ.length ≤ (met (if c ∈ σ then σ else σ ++ [c]) r).length ∧ (met (if c ∈ σ then σ else σ ++ [c]) r).length ≤ σ.length + (r.length + 1)
    by_cases g : c ∈ σ
    · rw [if_pos g] at ih ⊢
      omega
    · rw [if_neg g] at ih ⊢
      rw [List.length_append, List.length_singleton] at ih
      omega
/-- as many as there are signs: none twice -/
theorem met_all : ∀ (l σ : List Nat), σ.Nodup → ((met σ l).length = σ.length + l.length ↔ (σ ++ l).Nodup)
  | [], σ, h => by
    rw [List.append_nil]
    exact ⟨fun _ => h, fun _ => rfl⟩
  | c :: r, σ, h => by
    show (met (if c ∈ σ then σ else σ ++ [c]) r).length = σ.length + (r.length + 1) ↔ _
    by_cases g : c ∈ σ
    · rw [if_pos g]
      have := (met_len r σ).2
      constructor
      · intro e; omega
      · intro n
        exact absurd rfl ((List.nodup_append.mp n).2.2 c g c List.mem_cons_self)
    · rw [if_neg g]
      have hn : (σ ++ [c]).Nodup := by
        refine List.nodup_append.mpr ⟨h, by simp, fun x hx y hy e => ?_⟩
        rw [List.mem_singleton] at hy
        rw [e, hy] at hx
        exact g hx
      have ih := met_all r (σ ++ [c]) hn
      rw [List.length_append, List.length_singleton] at ih
      rw [show σ.length + (r.length + 1) = σ.length + 1 + r.length by omega, ih, List.append_assoc]
      rfl
section SetS
open PySem.Spec
variable {prog : Program} {ww : World} {AA : Around}
theorem set_loop {I S : Addr} {x : Str} {St : Nat → Heap → Prop} {R : Result → Shared → Prop} (Wk : Walks prog ww AA.in1 I [I] [I] x.cps.size (SignAt x) St) (hS : S ≠ I) (hb : x.cps.size + 1 < scanBound) :
    ∀ (k i : Nat) (s : Shared), x.cps.size - i = k → i ≤ x.cps.size → St i s.heap → s.heap.SetOf (strKind prog ww) S (fun z => decide (∃ c ∈ met [] (x.cps.toList.take i), z = one c)) (met [] (x.cps.toList.take i)).length →
      (∀ h' tk, (∀ b o, b ≠ S → b ≠ I → s.heap.get? b = some o → h'.get? b = some o) → h'.SetOf (strKind prog ww) S (fun z => decide (∃ c ∈ met [] x.cps.toList, z = one c)) (met [] x.cps.toList).length → R (.ok (.ret .none)) { s with heap := h', toks := tk }) →
      codeAny (model prog ww) AA (.builtin "set.update.loop" ⟨[.ref S, .ref I], []⟩) R s := by
  intro k
  induction k with
  | zero =>
    intro i s hk hi st hset hR
    have e : i = x.cps.size := by omega
    subst e
    refine codeAny_builtin PyProof.Rows.F.entry_set_update_loop ?_
    rw [Around.under_plainId PyProof.Rows.F.plain_set_update_loop _]
    refine wpAny_bind (Wk.done s _ _ st fun h' tk hm => wpAny_pure (hR h' tk (fun b o _ hI g => hm b o (fun z => hI (List.mem_singleton.mp z)) g) ?_))
    obtain ⟨o, es, ep, t, ho, r⟩ := hset
    rw [show x.cps.size = x.cps.toList.length from Array.length_toList.symm, List.take_length] at r
    exact ⟨o, es, ep, t, hm S o (fun z => hS (List.mem_singleton.mp z)) ho, r⟩
  | succ k ih =>
    intro i s hk hi st hset hR
    have hlt : i < x.cps.size := by omega
    refine codeAny_builtin PyProof.Rows.F.entry_set_update_loop ?_
    rw [Around.under_plainId PyProof.Rows.F.plain_set_update_loop _]
    refine wpAny_bind (Wk.item i s _ _ hlt st fun v h1 tk hv st1 hm => ?_)
    obtain ⟨c, u, hc, rfl⟩ := hv
    have hc2 : x.cps.toList[i]? = some c := by rw [Array.getElem?_toList]; exact hc
    have hset1 : h1.SetOf (strKind prog ww) S (fun z => decide (∃ c ∈ met [] (x.cps.toList.take i), z = one c)) (met [] (x.cps.toList.take i)).length := by
      obtain ⟨o, es, ep, t, ho, r⟩ := hset
      exact ⟨o, es, ep, t, hm S o (fun z => hS (List.mem_singleton.mp z)) ho, r⟩
    refine wpAny_bind (m := holding [Value.str (one c) u] (setAdd S (.str (one c) u))) (wpAny_holding ?_)
    unfold setAdd
    refine wpAny_holding (wpAny_bind ((strKind prog ww).pyHash (k := one c) (strKind_is _ _ _ _) ?_))
    have room : (met [] (x.cps.toList.take i)).length + 1 < scanBound := by
      have l0 := (met_len (x.cps.toList.take i) []).2
      have l1 : (x.cps.toList.take i).length ≤ x.cps.size := by
        rw [List.length_take, Array.length_toList]
        exact Nat.min_le_right _ _
      have l2 : ([] : List Nat).length = 0 := rfl
      omega
    refine wpAny_setAddHashed_of (knd := strKind prog ww) (strKind_is _ _ _ _) rfl hset1 room fun h2 sb hset2 => wpAny_pure ⟨plainId_quiet PyProof.Rows.F.plain_set_update_loop _, ?_⟩
    have inj : ∀ a b, one a = one b → a = b := fun a b e => by
      have := congrArg (fun z : Str => z.cps.toList) e
      exact (List.cons.inj this).1
    have key : ∀ l : List Nat, (decide (∃ a ∈ l, one c = one a)) = decide (c ∈ l) := fun l => by
      by_cases g : c ∈ l
      · rw [decide_eq_true g]; exact decide_eq_true ⟨c, g, rfl⟩
      · rw [decide_eq_false g]; exact decide_eq_false (fun ⟨a, ha, e⟩ => g (by rw [inj _ _ e]; exact ha))
    refine ih (i + 1) _ (by omega) hlt (Wk.frame _ _ _ st1 fun b hb o e => ?_) ?_ fun h3 tk3 hm3 hs3 => ?_
    · rw [sb.2 b (fun z => hS (by rw [← z]; exact List.mem_singleton.mp hb))]
      exact e
    · rw [met_take _ _ _ _ hc2]
      have hh := hset2
      simp only [key] at hh
      by_cases g : c ∈ met [] (x.cps.toList.take i)
      · rw [if_pos g]
        rw [decide_eq_true g, if_pos rfl] at hh
        have ef : (fun z => decide (∃ a ∈ met [] (x.cps.toList.take i), z = one a) || decide (z = one c)) = fun z => decide (∃ a ∈ met [] (x.cps.toList.take i), z = one a) := by
          funext z
          by_cases q : z = one c
          · rw [decide_eq_true q, decide_eq_true (show ∃ a ∈ met [] (x.cps.toList.take i), z = one a from ⟨c, g, q⟩)]; rfl
          · rw [decide_eq_false q, Bool.or_false]
        rw [ef] at hh
        exact hh
      · rw [if_neg g]
        rw [decide_eq_false g, if_neg Bool.false_ne_true] at hh
        have ef : (fun z => decide (∃ a ∈ met [] (x.cps.toList.take i), z = one a) || decide (z = one c)) = fun z => decide (∃ a ∈ met [] (x.cps.toList.take i) ++ [c], z = one a) := by
          funext z
          by_cases q : z = one c
          · rw [decide_eq_true q, Bool.or_true]; exact (decide_eq_true ⟨c, List.mem_append_right _ (List.mem_singleton.mpr rfl), q⟩).symm
          · rw [decide_eq_false q, Bool.or_false]
            by_cases p : ∃ a ∈ met [] (x.cps.toList.take i), z = one a
            · obtain ⟨a, ha, e⟩ := p
              rw [decide_eq_true (show ∃ a ∈ met [] (x.cps.toList.take i), z = one a from ⟨a, ha, e⟩)]
              exact (decide_eq_true ⟨a, List.mem_append_left _ ha, e⟩).symm
            · rw [decide_eq_false p]
              refine (decide_eq_false fun ⟨a, ha, e⟩ => ?_).symm
              rcases List.mem_append.mp ha with y | y
              · exact p ⟨a, y, e⟩
              · rw [List.mem_singleton] at y; exact q (by rw [e, y])
        rw [ef] at hh
        rw [List.length_append, List.length_singleton]
        exact hh
    · refine hR h3 tk3 (fun b o nS nI e => hm3 b o nS nI ?_) hs3
      rw [sb.2 b nS]
      exact hm b o (fun z => nI (List.mem_singleton.mp z)) e

theorem sub_str_set : isSubtype (.type "str") (.type "set") = pure false := by rw [isSubtype_type]; kernel_rfl
theorem sub_str_frz : isSubtype (.type "str") (.type "frozenset") = pure false := by rw [isSubtype_type]; kernel_rfl
variable {EE : Value → Shared → Prop} {ss : Shared}
set_option maxHeartbeats 8000000 in
theorem call_set_str {x : Str} {t : Tok} {Q : Value → Shared → Prop} (hh : AA.handled = none) (hb : x.cps.size + 1 < scanBound)
    (h : ∀ (h' : Heap) (tk : Nat), h'.SetOf (strKind prog ww) ss.heap.objs.size (fun z => decide (∃ c ∈ met [] x.cps.toList, z = one c)) (met [] x.cps.toList).length →
      (∀ b o, b < ss.heap.objs.size → ss.heap.get? b = some o → h'.get? b = some o) → Q (.ref ss.heap.objs.size) { ss with heap := h', toks := tk }) :
    wpAny (model prog ww) AA (call (.type "set") [.str x t]) Q EE ss := by
  obtain ⟨c, tl, hmro⟩ := PySem.F.called_set.mro
  have hmade := PySem.F.called_set.made
  have hsub := PySem.F.called_set.sub
  refine wpAny_call (codeAny_of_tree ?_)
  show wpAny _ _ (callAny (.type "set") _) _ _ _
  refine wpAny_pure ⟨Code.quiet_builtin _ (by decide +kernel), codeAny_builtin PySem.F.entry_type_call ?_⟩
  rw [Around.under_plain (weight_type_call_type "set" [.str x t] []) rfl]
  have h1 := PySem.F.called_set.notType
  have h2 := PySem.F.called_set.canCreate
  have hct := PySem.F.typeCall_set_1 (.str x t)
  repeat (any_goals (first | assumption | wp_step))
  refine codeAny_mono (code_set_new_1 (.str x t) (E := EE) (Q₁ := fun obj s1 => ∃ led : Bool, obj = .ref ss.heap.objs.size ∧ s1 = { ss with heap := ss.heap.push { cls := .type "set", dict := none, data := .set #[] 0 (.fresh 0 0 led) } }) fun led => ⟨led, rfl, rfl⟩) fun r s1 hr => ?_
  match r, hr with
  | .error e, hr => exact hr
  | .ok .next, hr => exact hr.elim
  | .ok .brk, hr => exact hr.elim
  | .ok .cont, hr => exact hr.elim
  | .ok (.ret obj), hr =>
    obtain ⟨led, rfl, rfl⟩ := hr
    have hS : (ss.heap.push ({ cls := .type "set", dict := none, data := .set #[] 0 (.fresh 0 0 led) } : Obj)).get? ss.heap.objs.size = some ({ cls := .type "set", dict := none, data := .set #[] 0 (.fresh 0 0 led) } : Obj) := Heap.get?_push_size _ rfl
    have hT : Shared.TypeIs { ss with heap := ss.heap.push ({ cls := .type "set", dict := none, data := .set #[] 0 (.fresh 0 0 led) } : Obj) } (.ref ss.heap.objs.size) "set" := ⟨_, hS, rfl⟩
    have hli := PySem.F.called_set.init.lookup
    have hbi := PySem.F.called_set.init.bind (.ref ss.heap.objs.size)
    repeat (any_goals (first | assumption | wp_step))
    refine codeAny_mono (codeAny_call_builtin (R := wants (fun r s2 => r = .none ∧ ∃ h' tk, s2 = { ss with heap := h', toks := tk } ∧ h'.SetOf (strKind prog ww) ss.heap.objs.size (fun z => decide (∃ c ∈ met [] x.cps.toList, z = one c)) (met [] x.cps.toList).length ∧ (∀ b o, b < ss.heap.objs.size → ss.heap.get? b = some o → h'.get? b = some o)) EE)
      PySem.F.called_set.init.plain PySem.F.entry_set_init (check_set_init_1 hT ?_)) fun r2 s2 hr2 => ?_
    · have hs1 := sub_str_set
      have hs2 := sub_str_frz
      have hne : (Value.type "str" == Value.type "dict") = false := by decide
      unfold Builtin.«set.__init__» noKeywords Builtin.Frozenset.updateFrom
      generalize hPI : pyIter = PI
      wp_walk
      subst hPI
      refine wpAny_pyIter_str fun o St Wk st0 => ?_
      refine wpAny_bind (wpAny_runValue ?_)
      have hne2 : ss.heap.objs.size ≠ (ss.heap.push ({ cls := .type "set", dict := none, data := .set #[] 0 (.fresh 0 0 led) } : Obj)).objs.size := by
        rw [Heap.size_push]
        exact Nat.ne_of_lt (Nat.lt_succ_self _)
      refine set_loop (Wk _ (by simp [hh])) hne2 hb (x.cps.size - 0) 0 _ (by omega) (Nat.zero_le _) st0 ?_ fun h3 tk3 hk hset => ?_
      · have hget : ((ss.heap.push ({ cls := .type "set", dict := none, data := .set #[] 0 (.fresh 0 0 led) } : Obj)).push o).get? ss.heap.objs.size = some ({ cls := .type "set", dict := none, data := .set #[] 0 (.fresh 0 0 led) } : Obj) := Heap.get?_push_of_some _ hS
        have f := ((PyProof.Rows.setObjOf_fresh (knd := strKind prog ww) led).setOf (h := (ss.heap.push ({ cls := .type "set", dict := none, data := .set #[] 0 (.fresh 0 0 led) } : Obj)).push o) (a := ss.heap.objs.size) hget (by unfold scanBound; omega))
        have ef : (fun z : Str => decide (∃ c ∈ met [] (x.cps.toList.take 0), z = one c)) = fun _ => false := by
          funext z
          exact decide_eq_false fun ⟨c, hc, _⟩ => by cases hc
        rw [ef]
        exact f
      · refine wpAny_pure ?_
        refine wpAny_pure ⟨rfl, h3, tk3, rfl, hset, fun b o2 hb2 e => ?_⟩
        refine hk b o2 (Nat.ne_of_lt hb2) ?_ (Heap.get?_push_of_some _ (Heap.get?_push_of_some _ e))
        rw [Heap.size_push]
        exact Nat.ne_of_lt (Nat.lt_succ_of_lt hb2)
    · match r2, hr2 with
      | .error e, hr2 => exact hr2
      | .ok .next, hr2 => exact hr2.elim
      | .ok .brk, hr2 => exact hr2.elim
      | .ok .cont, hr2 => exact hr2.elim
      | .ok (.ret v), hr2 =>
        obtain ⟨rfl, h3, tk3, rfl, hset, hk⟩ := hr2
        repeat (any_goals (first | assumption | wp_step))
        exact h _ _ hset hk
end SetS
/-- of a text -/
def tLenSetS (ta : TE) : TE := fun σ H Q => ta σ H fun x H1 => ∃ z : Str, x = .str z ∧ z.cps.size ≤ 1000 ∧ Q (.int ((met [] z.cps.toList).length : Nat)) H1
open PySem.Spec PyProof.Rows in
theorem pe_lenSetS {X : Cx} {a : Expr} {ta : TE} {p p2 q pos : Pos} (hg : Gl X "len") (hm : X.mg "len" = none) (hg2 : Gl X "set") (hm2 : X.mg "set" = none) (ha : PE X a ta) (hc : X.calm = true := by rfl)
    (na : starEach [a] X.env = (false, eval a X.env) :: starEach [] X.env := by rfl) : PE X (.Call (.Name "len" p) [.Call (.Name "set" p2) [a] [] q] [] pos) (tLenSetS ta) := by
  refine ⟨fun pins s σ H Q I h => Call_ (ld_blt I hg hm boot_len ?_)⟩
  refine PyProof.Rows.callWith_builtin1 (PyProof.Rows.args_cons (Call_ (ld_blt I hg2 hm2 boot_set ?_)) rfl) rfl rfl
  refine PyProof.Rows.callWith_type1 (PyProof.Rows.args_cons (thn (ha.run pins s σ H _ I h) fun v s1 ⟨x, H1, I1, r1, q1⟩ => PyProof.Rows.args_nil ?_) na) na rfl
  obtain ⟨z, rfl, hz, q1⟩ := q1
  obtain ⟨t, rfl⟩ := r1
  refine call_set_str (I1.ok.hd hc) (by unfold scanBound; omega) fun h' tk hset hk => PyProof.Rows.args_nil ?_
  have hl := (met_len z.cps.toList []).2
  have l1 : z.cps.toList.length ≤ 1000 := by
    rw [Array.length_toList]
    exact hz
  have l2 : ([] : List Nat).length = 0 := rfl
  obtain ⟨o, es, ep, tb, ho, hex, hd, _, _, _, hf, hn⟩ := hset
  exact call_len_set ho hex hd hf (by rw [hn]; omega) ⟨.int ((met [] z.cps.toList).length : Nat), H1, (I1.kept fun b o e => hk b o (Heap.lt_size e) e : Inv X pins σ H1 { s1 with heap := h', toks := tk }).tok _, ⟨_, by rw [hn]⟩, q1⟩
/-! ### shapes: tuples (or lists) of pairs of a letter and a size -/
abbrev Sh := List (Nat × Int)
def sizes (sh : Sh) : List Int := sh.map (·.2)
/-- the axes stand at the places ts -/
def Axes (H : Hp) (ts : List Addr) (sh : Sh) : Prop := ts.length = sh.length ∧ ∀ (i : Nat) (t : Addr) (p : Nat × Int), ts[i]? = some t → sh[i]? = some p → H t = some (.tup [.str (one p.1), .int p.2])
theorem Axes.same {H H' : Hp} {ts : List Addr} {sh : Sh} (h : Axes H ts sh) (s : Same H H') : Axes H' ts sh := ⟨h.1, fun i t p a b => s _ _ (h.2 i t p a b)⟩
theorem Axes.keep {H H' : Hp} {ts : List Addr} {sh : Sh} (h : Axes H ts sh) (s : ∀ b xs, H b = some (.tup xs) → H' b = some (.tup xs)) : Axes H' ts sh := ⟨h.1, fun i t p a b => s _ _ (h.2 i t p a b)⟩
theorem Axes.nil {H : Hp} : Axes H [] [] := ⟨rfl, fun _ _ _ h _ => by simp at h⟩
theorem Axes.snoc {H : Hp} {ts : List Addr} {sh : Sh} {t : Addr} {p : Nat × Int} (h : Axes H ts sh) (ht : H t = some (.tup [.str (one p.1), .int p.2])) : Axes H (ts ++ [t]) (sh ++ [p]) := by
  refine ⟨by simp [h.1], fun i u q a b => ?_⟩
  by_cases hi : i < ts.length
  · rw [List.getElem?_append_left hi] at a
    rw [List.getElem?_append_left (by rw [← h.1]; exact hi)] at b
    exact h.2 i u q a b
  · rw [List.getElem?_append_right (by omega)] at a
    rw [List.getElem?_append_right (by rw [← h.1]; omega)] at b
    rw [h.1] at a
    cases z : i - sh.length with
    | zero =>
      rw [z] at a b
      simp only [List.getElem?_cons_zero, Option.some.injEq] at a b
      subst a b
      exact ht
    | succ j =>
      rw [z] at a
      simp at a
/-- the i-th axis -/
theorem Axes.at {H : Hp} {ts : List Addr} {sh : Sh} (h : Axes H ts sh) {i : Nat} {x : V} (hx : (ts.map V.ref)[i]? = some x) : ∃ (t : Addr) (p : Nat × Int), x = .ref t ∧ ts[i]? = some t ∧ sh[i]? = some p ∧ H t = some (.tup [.str (one p.1), .int p.2]) := by
  rw [List.getElem?_map] at hx
  cases e : ts[i]? with
  | none => rw [e] at hx; cases hx
  | some t =>
    rw [e] at hx
    have hi : i < sh.length := by
      have := (List.getElem?_eq_some_iff.mp e).1
      rw [← h.1]; exact this
    exact ⟨t, sh[i], (Option.some.inj hx).symm, rfl, List.getElem?_eq_getElem hi, h.2 i t _ e (List.getElem?_eq_getElem hi)⟩
/-- a tuple that is a shape -/
def ShT (K : PySem.W.Frag) (H : Hp) (a : Addr) (sh : Sh) : Prop := ∃ ts : List Addr, H a = some (.tup (ts.map V.ref)) ∧ Axes H ts sh
theorem ShT.same {K : PySem.W.Frag} {H H' : Hp} {a : Addr} {sh : Sh} (h : ShT K H a sh) (s : Same H H') : ShT K H' a sh := by
  obtain ⟨ts, h1, h2⟩ := h
  exact ⟨ts, s _ _ h1, h2.same s⟩
def Fine (sh : Sh) : Prop := ∀ p ∈ sh, 1 ≤ p.2 ∧ p.2 ≤ 16
theorem Fine.sizes {sh : Sh} (h : Fine sh) : ∀ s ∈ sizes sh, 1 ≤ s := by
  intro s hs
  obtain ⟨p, hp, rfl⟩ := List.mem_map.mp hs
  exact (h p hp).1
theorem same_upd {H : Hp} {p : Addr} {o : HO} (h : H p = none) : Same H (upd H p o) := fun b x e => by
  rw [upd_ne (ne_of_none e h)]
  exact e
theorem map_int_at {ns : List Int} {i : Nat} {x : V} (h : (ns.map V.int)[i]? = some x) : ∃ n, x = .int n ∧ ns[i]? = some n := by
  rw [List.getElem?_map] at h
  cases e : ns[i]? with
  | none => rw [e] at h; cases h
  | some n => rw [e] at h; exact ⟨n, (Option.some.inj h).symm, rfl⟩
theorem drop_at {α : Type} {l : List α} {i : Nat} {x : α} (h : l[i]? = some x) : l.drop i = x :: l.drop (i + 1) := by
  obtain ⟨hi, e⟩ := List.getElem?_eq_some_iff.mp h
  rw [List.drop_eq_getElem_cons hi, e]
/-! ### own errors -/
abbrev valErr : List Value := [.type "ValueError", .type "Exception", .type "BaseException", .type "object"]
/-- what the written part says of an error class that is raised -/
structure ErrR (K : PySem.W.Frag) (mg : Str → Option Value) (n : Str) (C : Addr) : Prop where
  g : mg n = some (.ref C)
  x : PySem.W.excIn K C valErr "ValueError.__new__" = true
  k : PySem.W.keepIn K (.ref C) = true
  b : PySem.W.subIn K (.ref C) (.type "BaseException") = some true
  t : PySem.W.typeIn K (.ref C) = some (.type "type")
/-- of one that an except clause names -/
structure ErrN (K : PySem.W.Frag) (mg : Str → Option Value) (n : Str) (C : Addr) : Prop where
  g : mg n = some (.ref C)
  b : PySem.W.subIn K (.ref C) (.type "BaseException") = some true
  h : PySem.W.hasDictIn K C = true
  t : PySem.W.typeIn K (.ref C) = some (.type "type")
theorem ErrN.ex {K : PySem.W.Frag} {mg : Str → Option Value} {n : Str} {C : Addr} (e : ErrN K mg n C) {cls : Value} {r : Bool} (s : PySem.W.subIn K cls (.ref C) = some r) : PySem.W.exmOne K cls (.ref C) = some r := PySem.W.exm_ref e.b e.h e.t s
theorem pss_if {X : Cx} {sts : List Stmt} {t : TS} {P : Prop} (h : P → PSs X sts t) : PSs X sts (fun D σ H => P ∧ t D σ H) := ⟨fun pins s σ H D I hh => (h hh.1).run pins s σ H D I hh.2⟩
theorem kit_rr {K : PySem.W.Frag} {Z C : Addr} {r : Bool} (s : PySem.W.subIn K (.ref Z) (.ref C) = some r) (z : PySem.W.subIn K (.ref Z) (.ref Z) = some true) (h : PySem.W.hasDictIn K C = true) (t : PySem.W.typeIn K (.ref C) = some (.type "type")) : PySem.W.kitOne K (.ref Z) (.ref C) = some r := by
  have hc : (PySem.W.clsIn K C).isSome = true := by
    unfold PySem.W.hasDictIn at h
    cases e : PySem.W.clsIn K C with
    | none => rw [e] at h; cases h
    | some _ => rfl
  have e2 : ((PySem.W.clsIn K C).isSome && PySem.W.typeIn K (.ref C) == some (.type "type")) = true := by rw [hc, t] <;> rfl
  show (if (Value.ref Z == Value.ref C) = true then some true else (if ((PySem.W.clsIn K C).isSome && PySem.W.typeIn K (.ref C) == some (.type "type")) = true then PySem.W.subIn K (.ref Z) (.ref C) else none)) = some r
  by_cases g : (Value.ref Z == Value.ref C) = true
  · rw [if_pos g]
    have e : Value.ref Z = Value.ref C := beq_iff_eq.mp g
    rw [← e, z] at s
    exact s
  · rw [if_neg g, if_pos e2]
    exact s
theorem kit_rt {K : PySem.W.Frag} {Z : Addr} {T : String} {r : Bool} (s : PySem.W.subIn K (.ref Z) (.type T) = some r) (m : PySem.W.kitMeta T = true) : PySem.W.kitOne K (.ref Z) (.type T) = some r := by
  have g : (Value.ref Z == Value.type T) = false := rfl
  show (if (Value.ref Z == Value.type T) = true then some true else (if PySem.W.kitMeta T = true then PySem.W.subIn K (.ref Z) (.type T) else none)) = some r
  rw [g, if_neg Bool.false_ne_true, if_pos m]
  exact s
/-! ### check_shape and what it calls -/
def prod : List Int → Int
  | [] => 1
  | s :: ss => s * prod ss
theorem prod_snoc : ∀ {ss : List Int} {s : Int}, prod (ss ++ [s]) = prod ss * s
  | [], s => by show s * 1 = 1 * s; omega
  | a :: ss, s => by
    show a * prod (ss ++ [s]) = a * prod ss * s
    rw [prod_snoc, Int.mul_assoc]
theorem take_snoc {α : Type} {l : List α} {i : Nat} {x : α} (h : l[i]? = some x) : l.take (i + 1) = l.take i ++ [x] := by
  rw [List.take_add_one, h]
  rfl
def codes (sh : Sh) : List Nat := sh.map (·.1)
def lets (sh : Sh) : Str := ⟨(codes sh).toArray⟩
theorem joinL_nil : ∀ l : List (List Nat), TL.joinL [] l = l.flatten
  | [] => rfl
  | [p] => by show p = p ++ []; rw [List.append_nil]
  | p :: q :: r => by
    show p ++ ([] ++ TL.joinL [] (q :: r)) = p ++ (q :: r).flatten
    rw [joinL_nil (q :: r)]
    rfl
theorem join_ones (l : List Nat) : Txt.join "" (l.map one) = ⟨l.toArray⟩ := by
  have e : TL.tl (Txt.join "" (l.map one)) = l := by
    rw [TL.join_eq, TL.tl_join]
    show TL.joinL [] ((l.map one).map TL.tl) = l
    rw [joinL_nil]
    induction l with
    | nil => rfl
    | cons a l ih =>
      show [a] ++ ((l.map one).map TL.tl).flatten = a :: l
      rw [ih]
      rfl
  have g : Txt.join "" (l.map one) = ⟨(TL.tl (Txt.join "" (l.map one))).toArray⟩ := by rw [TL.mk_tl]
  rw [g, e]
/-- sizes that may be multiplied -/
def Mod (sh : Sh) : Prop := ∀ p ∈ sh, -1000 ≤ p.2 ∧ p.2 ≤ 1000
theorem Fine.mod {sh : Sh} (h : Fine sh) : Mod sh := fun p hp => ⟨by have := (h p hp).1; omega, by have := (h p hp).2; omega⟩
def fineB (sh : Sh) : Bool := sh.all fun p => decide (1 ≤ p.2) && decide (p.2 ≤ 16)
theorem fineB_iff {sh : Sh} : fineB sh = true ↔ Fine sh := by
  unfold fineB Fine
  rw [List.all_eq_true]
  constructor
  · intro h p hp
    have := h p hp
    rw [Bool.and_eq_true] at this
    exact ⟨of_decide_eq_true this.1, of_decide_eq_true this.2⟩
  · intro h p hp
    rw [Bool.and_eq_true]
    exact ⟨decide_eq_true (h p hp).1, decide_eq_true (h p hp).2⟩
def chk (sh : Sh) : Nat := if 4 < sh.length then 1 else if (codes sh).Nodup then (if fineB sh = true then (if 256 < prod (sizes sh) then 4 else 0) else 3) else 2
section
variable {P : Program} {w : World} {K : PySem.W.Frag} {mg : Str → Option Value} {base : Heap}
theorem sz_at {sh : Sh} {i : Nat} {p : Nat × Int} (h : sh[i]? = some p) : (sizes sh)[i]? = some p.2 := by rw [sizes, List.getElem?_map, h]; rfl
def spCountOf (K : PySem.W.Frag) : Sp := fun vs H Q _ => ∃ (a : Addr) (sh : Sh), vs = [.ref a] ∧ ShT K H a sh ∧ Mod sh ∧ Q (.int (prod (sizes sh))) H
theorem scCO : FnScope ["shape", "count", "_", "size"] ["shape"] (defScope sCountOf) := ⟨rfl, rfl, rfl, by decide +kernel, rfl, by decide +kernel, by decide +kernel⟩
theorem ok_countOf {f : Addr} {fd : FuncData} (F : Fun K "count_of" "count_of" sCountOf f fd) : FnOk P w K mg base CX0 1 f fd ["shape"] (spCountOf K) := by
  refine F.ok scCO (fun vs H Q E h => ?_) (fun cdv A outer s H vs Q E hr h => ?_)
  · obtain ⟨a, sh, rfl, _⟩ := h
    rfl
  · obtain ⟨a, sh, rfl, ⟨ts, ha, hx⟩, hf, q⟩ := h
    refine ⟨_, pss_cons (ps_set (i := 1) scCO.nd rfl (.inl rfl) pe_int)
      (pss_cons (ps_for PassesOwn.never rfl (pi_tup (pv 0)) (pg_tup rfl (pgs_cons (pg_name (i := 2) scCO.nd rfl (.inl rfl)) (pgs_cons (pg_name (i := 3) scCO.nd rfl (.inl rfl)) pgs_nil)))
        (pss_one (ps_set (i := 1) scCO.nd rfl (.inl rfl) (pe_op op_mul (pv 1) (pv 3)))))
      (pss_one (ps_ret (pv 1)))), ?_⟩
    refine ⟨_, rfl, a, rfl, ⟨_, SqT.of ha⟩, for_tup (K := K) (a := a) (xs := ts.map V.ref) (fun i σ H' => ∃ (v2 v3 : Option V), σ = [some (.ref a), some (.int (prod ((sizes sh).take i))), v2, v3] ∧ H' = H)
      ⟨none, none, rfl, rfl⟩ (fun i σ H' _ ⟨_, _, _, e⟩ => by rw [e]; exact SqT.of ha) ?_ ?_⟩
    · rintro i x σ H' hi ⟨v2, v3, rfl, rfl⟩
      obtain ⟨t, p, rfl, g1, g2, g3⟩ := hx.at hi
      have hp := hf p (List.mem_of_getElem? g2)
      refine ⟨t, _, rfl, SqT.of g3, rfl, _, _, rfl, _, _, rfl, rfl, ?_⟩
      refine ⟨_, rfl, _, rfl, _, _, rfl, rfl, .inr ⟨by omega, by omega⟩, some (.str (one p.1)), some (.int p.2), ?_, rfl⟩
      rw [take_snoc (sz_at g2), prod_snoc]
      rfl
    · rintro σ H' ⟨v2, v3, rfl, rfl⟩
      refine ⟨_, rfl, ?_⟩
      rw [show (ts.map V.ref).length = (sizes sh).length by rw [List.length_map, hx.1, sizes, List.length_map], List.take_length]
      exact q
def spLettersOf (K : PySem.W.Frag) : Sp := fun vs H Q _ => ∃ (a : Addr) (sh : Sh), vs = [.ref a] ∧ ShT K H a sh ∧ sh.length ≤ 16 ∧ ∀ H', Same H H' → Q (.str (lets sh)) H'
abbrev nLO : List Str := ["shape", "letter", "_"]
theorem scLO : FnScope nLO ["shape"] (defScope sLettersOf) := ⟨rfl, rfl, rfl, by decide +kernel, rfl, by decide +kernel, by decide +kernel⟩
theorem ones_len : ∀ l : List Nat, ((l.map one).map (·.length)).sum = l.length
  | [] => rfl
  | a :: l => by
    show 1 + ((l.map one).map (·.length)).sum = l.length + 1
    rw [ones_len l]
    omega
theorem ok_lettersOf {f : Addr} {fd : FuncData} (F : Fun K "letters_of" "letters_of" sLettersOf f fd) : FnOk P w K mg base CX0 1 f fd ["shape"] (spLettersOf K) := by
  refine F.ok scLO (fun vs H Q E h => ?_) (fun cdv A outer s H vs Q E hr h => ?_)
  · obtain ⟨a, sh, rfl, _⟩ := h
    rfl
  · obtain ⟨a, sh, rfl, ⟨ts, ha, hx⟩, hl, q⟩ := h
    refine ⟨_, pss_one (ps_ret (pe_join pe_str (pe_lc (own := [("letter", 1), ("_", 2)]) (g := gTup K 2 (gCons (gName 1) (gCons (gName 2) gNil))) (tt := tYes) rfl scLO.nd (pi_tup (pv 0)) (blkOk_by (N := nLO) (sc := defScope sLettersOf) (by decide +kernel))
      (fun _ _ _ _ _ => pg_tup (n := 2) rfl (pgs_cons (pg_name (i := 1) scLO.nd rfl (.inl rfl) (hf := Or.inr rfl)) (pgs_cons (pg_name (i := 2) scLO.nd rfl (.inl rfl) (hf := Or.inr rfl)) pgs_nil))) (fun _ _ _ _ _ => pts_nil) (fun _ _ _ _ _ => pv 1)))), ?_⟩
    refine ⟨⟨_, rfl⟩, _, rfl, a, rfl, ⟨_, SqT.of ha⟩, fun D nD => lc_tup (K := K) (a := a) (xs := ts.map V.ref) (fun i H' => Same H H' ∧ H' D = some (.lst (((codes sh).take i).map fun c => V.str (one c))))
      ⟨same_upd nD, upd_same⟩ (fun i H' _ h => SqT.of (h.1 _ _ ha)) ?_ ?_⟩
    · rintro i x H' hi ⟨sm, hD⟩
      obtain ⟨t, p, rfl, g1, g2, g3⟩ := hx.at hi
      refine ⟨t, _, rfl, SqT.of (sm _ _ g3), rfl, _, _, rfl, _, _, rfl, rfl, rfl, ?_⟩
      unfold tYes
      dsimp only
      rw [if_pos rfl]
      refine ⟨_, rfl, _, hD, ?_, ?_, ?_⟩
      · rw [List.length_map, List.length_take, codes, List.length_map]
        exact Nat.lt_of_le_of_lt (Nat.min_le_right _ _) (small1000 (by omega))
      · exact fun b o e => by rw [upd_ne (ne_of_none e nD)]; exact sm _ _ e
      · rw [upd_same, take_snoc (show (codes sh)[i]? = some p.1 by rw [codes, List.getElem?_map, g2]; rfl), List.map_append]
        rfl
    · rintro H' ⟨sm, hD⟩
      rw [show (ts.map V.ref).length = (codes sh).length by rw [List.length_map, hx.1, codes, List.length_map], List.take_length] at hD
      refine ⟨"", D, (codes sh).map one, rfl, rfl, .inl (SqL.of (by rw [List.map_map]; exact hD)), ?_, ?_⟩
      · rw [ones_len, List.length_map, codes, List.length_map]
        have : (("" : Str)).length = 0 := rfl
        rw [this]
        omega
      · rw [join_ones]
        exact q _ sm
/-- the classes of the errors: 1 rank, 2 axis, 3 range, 4 large -/
structure ErrS (K : PySem.W.Frag) (mg : Str → Option Value) (C : Nat → Addr) : Prop where
  r1 : ErrR K mg "RankError" (C 1)
  r2 : ErrR K mg "AxisError" (C 2)
  r3 : ErrR K mg "RangeError" (C 3)
  r4 : ErrR K mg "TooLarge" (C 4)
  len : mg "len" = none
  set : mg "set" = none
  l1 : ∃ u, mg "RANK_LIMIT" = some u ∧ RelV (.int 4) u
  l2 : ∃ u, mg "SIZE_LIMIT" = some u ∧ RelV (.int 16) u
  l3 : ∃ u, mg "COUNT_LIMIT" = some u ∧ RelV (.int 256) u
/-- what a check of this shape does -/
def CkEnd (C : Nat → Addr) (n : Nat) (Q : VK) (E : XK) (v : V) (H : Hp) : Prop := (n = 0 → Q v H) ∧ ∀ k, n = k + 1 → E (.ref (C (k + 1))) none H
def spCheck (K : PySem.W.Frag) (C : Nat → Addr) : Sp := fun vs H Q E => ∃ (a : Addr) (sh : Sh), vs = [.ref a] ∧ ShT K H a sh ∧ sh.length ≤ 16 ∧ Mod sh ∧ ∀ H', Same H H' → CkEnd C (chk sh) Q E .non H'
theorem scCK : FnScope ["shape", "letter", "size"] ["shape"] (defScope sCheck) := ⟨rfl, rfl, rfl, by decide +kernel, rfl, by decide +kernel, by decide +kernel⟩
theorem txt_len (a b : Str) : (a ++ b).length = a.length + b.length := PySem.Str.length_append a b
theorem int_txt : ∀ n : Nat, n ≤ 16 → ((toString (n : Int) : String) : Str).length ≤ 2 := by decide +kernel
theorem ok_check {f fL fC : Addr} {C : Nat → Addr} {fd fdL fdC : FuncData} (F : Fun K "check_shape" "check_shape" sCheck f fd) (R : ErrS K mg C)
    (GL : FnOk P w K mg base CX0 1 fL fdL ["shape"] (spLettersOf K)) (kL : PySem.W.keepIn K (.ref fL) = true) (bL : Binds K fdL ["shape"] []) (gL : mg "letters_of" = some (.ref fL))
    (GC : FnOk P w K mg base CX0 1 fC fdC ["shape"] (spCountOf K)) (kC : PySem.W.keepIn K (.ref fC) = true) (bC : Binds K fdC ["shape"] []) (gC : mg "count_of" = some (.ref fC)) :
    FnOk P w K mg base (L2.CX P w) 2 f fd ["shape"] (spCheck K C) := by
  obtain ⟨u1, gl1, rl1⟩ := R.l1
  obtain ⟨u2, gl2, rl2⟩ := R.l2
  obtain ⟨u3, gl3, rl3⟩ := R.l3
  refine F.okX scCK (fun vs H Q E h => ?_) (fun cdv A outer s H vs Q E hr h => ?_)
  · obtain ⟨a, sh, rfl, _⟩ := h
    rfl
  · obtain ⟨a, sh, rfl, hS, hl, hm, q⟩ := h
    obtain ⟨ts, ha, hx⟩ := id hS
    refine ⟨_, pss_cons (ps_if (pt_cmpR op_gt (pe_callB call_len_seq (by rfl) R.len PySem.boot_len (pa_cons (pv 0) pa_nil)) (pe_glob (v := .int 4) (by rfl) gl1 rl1) (nomark _))
        (pss_one (ps_raise rfl (takes_of rfl rfl rfl rfl) (SkE.pmk_own1 PySem.F.excBase_ValueError R.r1.x R.r1.g R.r1.k (raises_own R.r1.b R.r1.t) rfl (pe_joined (.cons pe_str (.cons (pe_fmt (pe_callB call_len_seq (by rfl) R.len PySem.boot_len (pa_cons (pv 0) pa_nil))) (.cons pe_str .nil))))))) pss_nil)
      (pss_cons (ps_if (pt_cmpR op_lt (pe_lenSetS (by rfl) R.len (by rfl) R.set (pe_call GL hr (by rfl) gL kL bL .nil pass0 (pa_cons (pv 0) pa_nil))) (pe_callB call_len_seq (by rfl) R.len PySem.boot_len (pa_cons (pv 0) pa_nil)) (nomark _))
        (pss_one (ps_raise rfl (takes_of rfl rfl rfl rfl) (pmk_own PySem.F.excBase_ValueError R.r2.x R.r2.g R.r2.k (raises_own R.r2.b R.r2.t) rfl))) pss_nil)
      (pss_cons (ps_for (passes_of rfl) rfl (pi_tup (pv 0)) (pg_tup rfl (pgs_cons (pg_name (i := 1) scCK.nd rfl (.inl rfl)) (pgs_cons (pg_name (i := 2) scCK.nd rfl (.inl rfl)) pgs_nil)))
        (pss_one (ps_if (PW.pt (pw_or (pt_cmpR op_lt (pv 2) pe_int (nomark _)) (pw_or1 (pt_cmpR op_gt (pv 2) (pe_glob (v := .int 16) (by rfl) gl2 rl2) (nomark _)))))
          (pss_one (ps_raise rfl (takes_of rfl rfl rfl rfl) (SkE.pmk_own1 PySem.F.excBase_ValueError R.r3.x R.r3.g R.r3.k (raises_own R.r3.b R.r3.t) rfl (pe_joined (.cons pe_str (.cons (pe_fmt (pv 1)) (.cons pe_str (.cons (pe_fmt (pe_glob (v := .int 16) (by rfl) gl2 rl2)) .nil)))))))) pss_nil)))
      (pss_one (ps_if (pt_cmpR op_gt (pe_call GC hr (by rfl) gC kC bC .nil pass0 (pa_cons (pv 0) pa_nil)) (pe_glob (v := .int 256) (by rfl) gl3 rl3) (nomark _))
        (pss_one (ps_raise rfl (takes_of rfl rfl rfl rfl) (pmk_own PySem.F.excBase_ValueError R.r4.x R.r4.g R.r4.k (raises_own R.r4.b R.r4.t) rfl))) pss_nil)))), ?_⟩
    have hlen : (ts.map V.ref).length = sh.length := by rw [List.length_map, hx.1]
    unfold chk at q
    refine ⟨_, rfl, a, _, rfl, .inr (SqT.of ha), _, _, rfl, rfl, _, rfl, ite2 (fun e => ?_) (fun e => ?_)⟩
    · have e' := of_decide_eq_true e
      rw [hlen] at e'
      rw [if_pos (by omega)] at q
      have k1 := int_txt sh.length hl
      have b0 : ∀ x : Str, x.length ≤ 100 → x.length ≤ sizeLine := fun x h => Nat.le_trans h (by decide)
      refine ⟨_, rfl, by decide +kernel, _, rfl, a, _, rfl, .inr (SqT.of ha), .inr ⟨_, rfl, ?_, _, rfl, ?_, _, rfl, ?_, ?_⟩⟩
      · rw [hlen]
        have : sh.length < 2 ^ 60 := by omega
        exact Nat.lt_of_le_of_lt (Nat.log2_le_self _) (by omega)
      · rw [hlen]
        refine b0 _ ?_
        rw [txt_len]
        have : (Str.empty ++ ("a shape has " : Str)).length = 12 := by decide +kernel
        omega
      · rw [hlen]
        refine b0 _ ?_
        rw [txt_len, txt_len]
        have : (Str.empty ++ ("a shape has " : Str)).length = 12 := by decide +kernel
        have : (" axes" : Str).length = 5 := by decide +kernel
        omega
      · exact (q _ (Same.refl H)).2 0 rfl
    · have e' : ¬ 4 < sh.length := by
        have e0 : ¬ ((4 : Int) < ((ts.map V.ref).length : Int)) := fun z => e (decide_eq_true z)
        rw [hlen] at e0
        omega
      rw [if_neg e'] at q
      refine ⟨_, rfl, a, sh, rfl, hS, hl, fun H1 sm1 => ⟨_, rfl, ?_, ?_⟩⟩
      · show (codes sh).toArray.size ≤ 1000
        rw [List.size_toArray, codes, List.length_map]
        omega
      have ha1 := sm1 _ _ ha
      have hmet := met_all (codes sh) [] List.nodup_nil
      have hml := (met_len (codes sh) []).2
      have hcl : (codes sh).length = sh.length := by rw [codes, List.length_map]
      rw [List.length_nil, Nat.zero_add, List.nil_append, hcl] at hmet
      rw [List.length_nil, Nat.zero_add, hcl] at hml
      refine ⟨_, rfl, a, _, rfl, .inr (SqT.of ha1), _, _, rfl, rfl, _, rfl, ite2 (fun e2 => ?_) (fun e2 => ?_)⟩
      · have e3 := of_decide_eq_true e2
        rw [hlen] at e3
        have : ¬ (codes sh).Nodup := fun n => by
          have := hmet.mpr n
          have e4 : (lets sh).cps.toList = codes sh := rfl
          rw [e4] at e3
          omega
        rw [if_neg this] at q
        exact (q _ sm1).2 1 rfl
      · have e3 : ¬ (((met [] (lets sh).cps.toList).length : Int) < ((ts.map V.ref).length : Int)) := fun z => e2 (decide_eq_true z)
        rw [hlen] at e3
        have e4 : (lets sh).cps.toList = codes sh := rfl
        rw [e4] at e3
        rw [if_pos (hmet.mp (by omega))] at q
        refine ⟨_, rfl, a, rfl, ⟨_, SqT.of ha1⟩, for_tup (K := K) (a := a) (xs := ts.map V.ref) (fun i σ H' => ∃ (v1 v2 : Option V), σ = [some (.ref a), v1, v2] ∧ H' = H1 ∧ ∀ j p, j < i → sh[j]? = some p → 1 ≤ p.2 ∧ p.2 ≤ 16)
          ⟨none, none, rfl, rfl, fun j p h => absurd h (Nat.not_lt_zero _)⟩ (fun i σ H' _ ⟨_, _, _, e, _⟩ => by rw [e]; exact SqT.of ha1) ?_ ?_⟩
        · rintro i x σ H' hi ⟨v1, v2, rfl, rfl, hok⟩
          obtain ⟨t, p, rfl, g1, g2, g3⟩ := (hx.same sm1).at hi
          have hp := hm p (List.mem_of_getElem? g2)
          refine ⟨t, _, rfl, SqT.of g3, rfl, _, _, rfl, _, _, rfl, rfl, ?_⟩
          have bad : ¬ (1 ≤ p.2 ∧ p.2 ≤ 16) → fineB sh = false := fun nb => Bool.eq_false_iff.mpr fun z => nb (fineB_iff.mp z p (List.mem_of_getElem? g2))
          have raise : ¬ (1 ≤ p.2 ∧ p.2 ≤ 16) → E (.ref (C 3)) none H' := fun nb => by
            have q1 := q _ sm1
            rw [bad nb, if_neg Bool.false_ne_true] at q1
            exact q1.2 2 rfl
          have b0 : ∀ x : Str, x.length ≤ 100 → x.length ≤ sizeLine := fun x h => Nat.le_trans h (by decide)
          have m1 : (Str.empty ++ ("the size of the axis " : Str)).length = 21 := by decide +kernel
          have m2 : (one p.1).length = 1 := rfl
          have m3 : (" is not from 1 to " : Str).length = 18 := by decide +kernel
          have m4 := int_txt 16 (by decide)
          have n1 := b0 (Str.empty ++ ("the size of the axis " : Str)) (by omega)
          have n2 := b0 (Str.empty ++ ("the size of the axis " : Str) ++ one p.1) (by rw [txt_len]; omega)
          have n3 := b0 (Str.empty ++ ("the size of the axis " : Str) ++ one p.1 ++ (" is not from 1 to " : Str)) (by rw [txt_len, txt_len]; omega)
          have n4 := b0 (Str.empty ++ ("the size of the axis " : Str) ++ one p.1 ++ (" is not from 1 to " : Str) ++ ((toString ((16 : Nat) : Int) : String) : Str)) (by rw [txt_len, txt_len, txt_len]; omega)
          refine ⟨_, rfl, _, _, rfl, rfl, _, rfl, ite2 (fun e5 => iteT ?_) (fun e5 => ?_)⟩
          · exact ⟨_, rfl, n1, _, rfl, .inl ⟨_, rfl, b0 _ (by omega), _, rfl, n2, _, rfl, n3, .inr ⟨_, rfl, by decide +kernel, _, rfl, n4, raise (fun z => absurd (of_decide_eq_true e5) (by omega))⟩⟩⟩
          · refine ⟨_, rfl, _, _, rfl, rfl, _, rfl, ite2 (fun e6 => ?_) (fun e6 => ?_)⟩
            · exact ⟨_, rfl, n1, _, rfl, .inl ⟨_, rfl, b0 _ (by omega), _, rfl, n2, _, rfl, n3, .inr ⟨_, rfl, by decide +kernel, _, rfl, n4, raise (fun z => absurd (of_decide_eq_true e6) (by omega))⟩⟩⟩
            · refine ⟨_, _, rfl, rfl, fun j p' hj hp' => ?_⟩
              by_cases ej : j = i
              · subst ej
                rw [g2] at hp'
                cases hp'
                have a1 : ¬ p.2 < 1 := fun z => e5 (decide_eq_true z)
                have a2 : ¬ 16 < p.2 := fun z => e6 (decide_eq_true z)
                omega
              · exact hok j p' (by omega) hp'
        · rintro σ H' ⟨v1, v2, rfl, rfl, hok⟩
          have hfine : Fine sh := fun p hp => by
            obtain ⟨j, hj⟩ := List.mem_iff_getElem?.mp hp
            exact hok j p (by rw [hlen]; exact (List.getElem?_eq_some_iff.mp hj).1) hj
          rw [if_pos (fineB_iff.mpr hfine)] at q
          refine ⟨_, rfl, a, sh, rfl, hS.same sm1, hm, _, _, rfl, rfl, _, rfl, ite2 (fun e7 => ?_) (fun e7 => ?_)⟩
          · rw [if_pos (of_decide_eq_true e7)] at q
            exact (q _ sm1).2 3 rfl
          · rw [if_neg (fun z => e7 (decide_eq_true z))] at q
            exact (q _ sm1).1 rfl
end
section
variable {P : Program} {w : World} {K : PySem.W.Frag} {mg : Str → Option Value} {base : Heap}
/-! ### the law's defs -/
/-- the suite of an except clause, by what is known when it is reached -/
def tSu (X : Cx) (sts : List Stmt) : Addr → Value → Option Addr → TS := fun a cls d D σ H => ∀ (oe : Obj) (pn : List (Addr × Obj)), Zc cls d oe → (∃ vs, oe.data = .fields vs) → ∃ t, PSs (X.suite a ((a, oe) :: pn)) sts t ∧ t D σ H
theorem su_ok {X : Cx} {sts : List Stmt} {a : Addr} {cls : Value} {d : Option Addr} {oe : Obj} {pn : List (Addr × Obj)} (hz : Zc cls d oe) (hf : ∃ vs, oe.data = .fields vs) : PSs (X.suite a ((a, oe) :: pn)) sts (tSu X sts a cls d) :=
  ⟨fun pins s σ H D I h => by
    obtain ⟨t, p, q⟩ := h oe pn hz hf
    exact p.run pins s σ H D I q⟩
theorem scLC : FnScope ["shape", "count", "axis"] ["shape"] (defScope sCount) := ⟨rfl, rfl, rfl, by decide +kernel, rfl, by decide +kernel, by decide +kernel⟩
def spCountT (K : PySem.W.Frag) : Sp := fun vs H Q _ => ∃ (a : Addr) (sh : Sh), vs = [.ref a] ∧ ShT K H a sh ∧ Mod sh ∧ Q (.int (prod (sizes sh))) H
theorem ok_countT {f : Addr} {fd : FuncData} (F : Fun K "_law_count" "_law_count" sCount f fd) : FnOk P w K mg base CX0 1 f fd ["shape"] (spCountT K) := by
  refine F.ok scLC (fun vs H Q E h => ?_) (fun cdv A outer s H vs Q E hr h => ?_)
  · obtain ⟨a, sh, rfl, _⟩ := h
    rfl
  · obtain ⟨a, sh, rfl, ⟨ts, ha, hx⟩, hf, q⟩ := h
    refine ⟨_, pss_cons (ps_set (i := 1) scLC.nd rfl (.inl rfl) pe_int)
      (pss_cons (ps_for PassesOwn.never rfl (pi_tup (pv 0)) (pg_name (i := 2) scLC.nd rfl (.inl rfl))
        (pss_one (ps_set (i := 1) scLC.nd rfl (.inl rfl) (pe_op op_mul (pv 1) (pe_ix ix_tup (pv 2) pe_int (fun _ _ => rfl))))))
      (pss_one (ps_ret (pv 1)))), ?_⟩
    refine ⟨_, rfl, a, rfl, ⟨_, SqT.of ha⟩, for_tup (K := K) (a := a) (xs := ts.map V.ref) (fun i σ H' => ∃ (v : Option V), σ = [some (.ref a), some (.int (prod ((sizes sh).take i))), v] ∧ H' = H)
      ⟨none, rfl, rfl⟩ (fun i σ H' _ ⟨_, _, e⟩ => by rw [e]; exact SqT.of ha) ?_ ?_⟩
    · rintro i x σ H' hi ⟨v, rfl, rfl⟩
      obtain ⟨t, p, rfl, g1, g2, g3⟩ := hx.at hi
      have hp := hf p (List.mem_of_getElem? g2)
      refine ⟨_, rfl, _, rfl, t, _, 1, _, rfl, rfl, SqT.of g3, rfl, _, _, rfl, rfl, .inr ⟨by omega, by omega⟩, ?_⟩
      refine ⟨some (.ref t), ?_, rfl⟩
      rw [take_snoc (sz_at g2), prod_snoc]
      rfl
    · rintro σ H' ⟨v, rfl, rfl⟩
      refine ⟨_, rfl, ?_⟩
      rw [show (ts.map V.ref).length = (sizes sh).length by rw [List.length_map, hx.1, sizes, List.length_map], List.take_length]
      exact q
abbrev nLN : List Str := ["shape", "axis"]
theorem scLN : FnScope nLN ["shape"] (defScope sNames) := ⟨rfl, rfl, rfl, by decide +kernel, rfl, by decide +kernel, by decide +kernel⟩
/-- of a tuple, of a list -/
def spNamesT (K : PySem.W.Frag) : Sp := spLettersOf K
def spNamesL (K : PySem.W.Frag) : Sp := fun vs H Q _ => ∃ (a : Addr) (ts : List Addr) (sh : Sh), vs = [.ref a] ∧ H a = some (.lst (ts.map V.ref)) ∧ Axes H ts sh ∧ sh.length ≤ 16 ∧ ∀ H', Same H H' → Q (.str (lets sh)) H'
theorem ok_namesT {f : Addr} {fd : FuncData} (F : Fun K "_law_names" "_law_names" sNames f fd) : FnOk P w K mg base CX0 1 f fd ["shape"] (spNamesT K) := by
  refine F.ok scLN (fun vs H Q E h => ?_) (fun cdv A outer s H vs Q E hr h => ?_)
  · obtain ⟨a, sh, rfl, _⟩ := h
    rfl
  · obtain ⟨a, sh, rfl, ⟨ts, ha, hx⟩, hl, q⟩ := h
    refine ⟨_, pss_one (ps_ret (pe_join pe_str (pe_lc (own := [("axis", 1)]) (g := gName 1) (tt := tYes) (te := tOp (rIxT K) (tVar 1) (tC (.int 0))) rfl scLN.nd (pi_tup (pv 0)) (blkOk_by (N := nLN) (sc := defScope sNames) (by decide +kernel))
      (fun _ _ _ _ _ => pg_name (i := 1) scLN.nd rfl (.inl rfl) (hf := Or.inr rfl)) (fun _ _ _ _ _ => pts_nil) (fun _ _ _ _ _ => pe_ix ix_tup (pv 1) pe_int (fun _ _ => rfl))))), ?_⟩
    refine ⟨⟨_, rfl⟩, _, rfl, a, rfl, ⟨_, SqT.of ha⟩, fun D nD => lc_tup (K := K) (a := a) (xs := ts.map V.ref) (fun i H' => Same H H' ∧ H' D = some (.lst (((codes sh).take i).map fun c => V.str (one c))))
      ⟨same_upd nD, upd_same⟩ (fun i H' _ h => SqT.of (h.1 _ _ ha)) ?_ ?_⟩
    · rintro i x H' hi ⟨sm, hD⟩
      obtain ⟨t, p, rfl, g1, g2, g3⟩ := hx.at hi
      refine ⟨rfl, ?_⟩
      unfold tYes
      dsimp only
      rw [if_pos rfl]
      refine ⟨_, rfl, t, _, 0, _, rfl, rfl, SqT.of (sm _ _ g3), rfl, _, hD, ?_, ?_, ?_⟩
      · rw [List.length_map, List.length_take, codes, List.length_map]
        exact Nat.lt_of_le_of_lt (Nat.min_le_right _ _) (small1000 (by omega))
      · exact fun b o e => by rw [upd_ne (ne_of_none e nD)]; exact sm _ _ e
      · rw [upd_same, take_snoc (show (codes sh)[i]? = some p.1 by rw [codes, List.getElem?_map, g2]; rfl), List.map_append]
        rfl
    · rintro H' ⟨sm, hD⟩
      rw [show (ts.map V.ref).length = (codes sh).length by rw [List.length_map, hx.1, codes, List.length_map], List.take_length] at hD
      refine ⟨"", D, (codes sh).map one, rfl, rfl, .inl (SqL.of (by rw [List.map_map]; exact hD)), ?_, ?_⟩
      · rw [ones_len, List.length_map, codes, List.length_map]
        have : (("" : Str)).length = 0 := rfl
        rw [this]
        omega
      · rw [join_ones]
        exact q _ sm
theorem ok_namesL {f : Addr} {fd : FuncData} (F : Fun K "_law_names" "_law_names" sNames f fd) : FnOk P w K mg base CX0 1 f fd ["shape"] (spNamesL K) := by
  refine F.ok scLN (fun vs H Q E h => ?_) (fun cdv A outer s H vs Q E hr h => ?_)
  · obtain ⟨a, ts, sh, rfl, _⟩ := h
    rfl
  · obtain ⟨a, ts, sh, rfl, ha, hx, hl, q⟩ := h
    refine ⟨_, pss_one (ps_ret (pe_join pe_str (pe_lc (own := [("axis", 1)]) (g := gName 1) (tt := tYes) (te := tOp (rIxT K) (tVar 1) (tC (.int 0))) rfl scLN.nd (pi_list (pv 0)) (blkOk_by (N := nLN) (sc := defScope sNames) (by decide +kernel))
      (fun _ _ _ _ _ => pg_name (i := 1) scLN.nd rfl (.inl rfl) (hf := Or.inr rfl)) (fun _ _ _ _ _ => pts_nil) (fun _ _ _ _ _ => pe_ix ix_tup (pv 1) pe_int (fun _ _ => rfl))))), ?_⟩
    refine ⟨⟨_, rfl⟩, _, rfl, a, rfl, ⟨_, SqL.of ha⟩, fun D nD => lc_list (K := K) (a := a) (xs := ts.map V.ref) (fun i H' => Same H H' ∧ H' D = some (.lst (((codes sh).take i).map fun c => V.str (one c))))
      ⟨same_upd nD, upd_same⟩ (fun i H' _ h => SqL.of (h.1 _ _ ha)) ?_ ?_⟩
    · rintro i x H' hi ⟨sm, hD⟩
      obtain ⟨t, p, rfl, g1, g2, g3⟩ := hx.at hi
      refine ⟨rfl, ?_⟩
      unfold tYes
      dsimp only
      rw [if_pos rfl]
      refine ⟨_, rfl, t, _, 0, _, rfl, rfl, SqT.of (sm _ _ g3), rfl, _, hD, ?_, ?_, ?_⟩
      · rw [List.length_map, List.length_take, codes, List.length_map]
        exact Nat.lt_of_le_of_lt (Nat.min_le_right _ _) (small1000 (by omega))
      · exact fun b o e => by rw [upd_ne (ne_of_none e nD)]; exact sm _ _ e
      · rw [upd_same, take_snoc (show (codes sh)[i]? = some p.1 by rw [codes, List.getElem?_map, g2]; rfl), List.map_append]
        rfl
    · rintro H' ⟨sm, hD⟩
      rw [show (ts.map V.ref).length = (codes sh).length by rw [List.length_map, hx.1, codes, List.length_map], List.take_length] at hD
      refine ⟨"", D, (codes sh).map one, rfl, rfl, .inl (SqL.of (by rw [List.map_map]; exact hD)), ?_, ?_⟩
      · rw [ones_len, List.length_map, codes, List.length_map]
        have : (("" : Str)).length = 0 := rfl
        rw [this]
        omega
      · rw [join_ones]
        exact q _ sm
end
section
variable {P : Program} {w : World} {K : PySem.W.Frag} {mg : Str → Option Value} {base : Heap}
def word : Nat → Str
  | 0 => "good"
  | 1 => "rank"
  | 2 => "axis"
  | 3 => "range"
  | _ => "large"
theorem chk_le (sh : Sh) : chk sh ≤ 4 := by
  unfold chk
  split
  · decide
  · split
    · split
      · split <;> decide
      · decide
    · decide
structure ErrT (K : PySem.W.Frag) (mg : Str → Option Value) (C : Nat → Addr) (TE : Addr) : Prop where
  R : ErrS K mg C
  nT : ErrN K mg "TensorError" TE
  isi : mg "isinstance" = none
  sub1 : PySem.W.subIn K (.ref (C 1)) (.ref TE) = some true
  exc1 : ExcC K (C 1)
  sub2 : PySem.W.subIn K (.ref (C 2)) (.ref TE) = some true
  exc2 : ExcC K (C 2)
  sub3 : PySem.W.subIn K (.ref (C 3)) (.ref TE) = some true
  exc3 : ExcC K (C 3)
  sub4 : PySem.W.subIn K (.ref (C 4)) (.ref TE) = some true
  exc4 : ExcC K (C 4)
  kit11 : PySem.W.kitOne K (.ref (C 1)) (.ref (C 1)) = some true
  kit12 : PySem.W.kitOne K (.ref (C 1)) (.ref (C 2)) = some false
  kit13 : PySem.W.kitOne K (.ref (C 1)) (.ref (C 3)) = some false
  kit14 : PySem.W.kitOne K (.ref (C 1)) (.ref (C 4)) = some false
  kit21 : PySem.W.kitOne K (.ref (C 2)) (.ref (C 1)) = some false
  kit22 : PySem.W.kitOne K (.ref (C 2)) (.ref (C 2)) = some true
  kit23 : PySem.W.kitOne K (.ref (C 2)) (.ref (C 3)) = some false
  kit24 : PySem.W.kitOne K (.ref (C 2)) (.ref (C 4)) = some false
  kit31 : PySem.W.kitOne K (.ref (C 3)) (.ref (C 1)) = some false
  kit32 : PySem.W.kitOne K (.ref (C 3)) (.ref (C 2)) = some false
  kit33 : PySem.W.kitOne K (.ref (C 3)) (.ref (C 3)) = some true
  kit34 : PySem.W.kitOne K (.ref (C 3)) (.ref (C 4)) = some false
  kit41 : PySem.W.kitOne K (.ref (C 4)) (.ref (C 1)) = some false
  kit42 : PySem.W.kitOne K (.ref (C 4)) (.ref (C 2)) = some false
  kit43 : PySem.W.kitOne K (.ref (C 4)) (.ref (C 3)) = some false
  kit44 : PySem.W.kitOne K (.ref (C 4)) (.ref (C 4)) = some true
def spTold (K : PySem.W.Frag) : Sp := fun vs H Q _ => ∃ (a : Addr) (sh : Sh), vs = [.ref a] ∧ ShT K H a sh ∧ sh.length ≤ 16 ∧ Mod sh ∧ ∀ H', Same H H' → Q (.str (word (chk sh))) H'
theorem scTD : FnScope ["shape", "actual", "e", "told"] ["shape"] (defScope sTold) := ⟨rfl, rfl, rfl, by decide +kernel, rfl, by decide +kernel, by decide +kernel⟩
theorem ok_told {f fK TE : Addr} {C : Nat → Addr} {fd fdK : FuncData} (F : Fun K "_law_told" "_law_told" sTold f fd) (T : ErrT K mg C TE)
    (GK : FnOk P w K mg base (L2.CX P w) 2 fK fdK ["shape"] (spCheck K C)) (kK : PySem.W.keepIn K (.ref fK) = true) (bK : Binds K fdK ["shape"] []) (gK : mg "check_shape" = some (.ref fK)) : FnOk P w K mg base CX0 3 f fd ["shape"] (spTold K) := by
  refine F.ok scTD (fun vs H Q E h => ?_) (fun cdv A outer s H vs Q E hr h => ?_)
  · obtain ⟨a, sh, rfl, _⟩ := h
    rfl
  · obtain ⟨a, sh, rfl, hS, hl, hm, q⟩ := h
    have hle := chk_le sh
    refine ⟨_, pss_cons (ps_try_as (i := 2) (tb := fun W => tAsg (tCallS (spCheck K C) (WE W) (tCons (tVar 0) tNil)) (gName 1)) (Wout := fun _ _ _ _ => False) rfl rfl scTD.nd rfl rfl ⟨rfl, by decide, Or.inl T.nT.g⟩ takes0
        (fun W pn xe tk _ => pss_one (ps_set (i := 1) scTD.nd rfl (.inl rfl) (by exact (pe_callS GK hr (by rfl) gK kK bK (fun σ => passAt tk σ) (by exact (pa_cons (pv 0) pa_nil))))))
        (fun a oe cls d pn hz hf => su_ok hz hf))
      (pss_one (ps_ret (pe_ifExp (pt_cmpR op_isN (pv 1) pe_non (nomark _)) pe_str pe_str))), ?_⟩
    generalize hc : chk sh = c at *
    refine ⟨_, rfl, a, sh, rfl, hS, hl, hm, fun H1 sm1 => ⟨fun e0 => ?_, fun k ek => ?_⟩⟩
    · rw [hc] at e0
      subst e0
      exact ⟨_, rfl, rfl, _, rfl, iteT (q _ sm1)⟩
    · rw [hc] at ek
      subst ek
      match k, hle with
      | 0, _ =>
        refine ⟨true, T.nT.ex T.sub1, fun _ ax hax => fun oe pn hz hf => ?_, fun z => nomatch z⟩
        refine ⟨_, pss_cons (ps_set (i := 3) scTD.nd rfl (.inl rfl) pe_str)
          (pss_cons (ps_if (pt_val (pe_callB (call_isE T.exc1 hz hf) (by rfl) T.isi (by decide +kernel) (pa_cons (pv 2) (pa_cons (pe_glob (v := .ref (C 1)) (by rfl) T.R.r1.g rfl) pa_nil)))) (pss_one (ps_set (i := 3) scTD.nd rfl (.inl rfl) (pe_op op_add_str (pv 3) pe_str))) pss_nil)
          (pss_cons (ps_if (pt_val (pe_callB (call_isE T.exc1 hz hf) (by rfl) T.isi (by decide +kernel) (pa_cons (pv 2) (pa_cons (pe_glob (v := .ref (C 2)) (by rfl) T.R.r2.g rfl) pa_nil)))) (pss_one (ps_set (i := 3) scTD.nd rfl (.inl rfl) (pe_op op_add_str (pv 3) pe_str))) pss_nil)
          (pss_cons (ps_if (pt_val (pe_callB (call_isE T.exc1 hz hf) (by rfl) T.isi (by decide +kernel) (pa_cons (pv 2) (pa_cons (pe_glob (v := .ref (C 3)) (by rfl) T.R.r3.g rfl) pa_nil)))) (pss_one (ps_set (i := 3) scTD.nd rfl (.inl rfl) (pe_op op_add_str (pv 3) pe_str))) pss_nil)
          (pss_cons (ps_if (pt_val (pe_callB (call_isE T.exc1 hz hf) (by rfl) T.isi (by decide +kernel) (pa_cons (pv 2) (pa_cons (pe_glob (v := .ref (C 4)) (by rfl) T.R.r4.g rfl) pa_nil)))) (pss_one (ps_set (i := 3) scTD.nd rfl (.inl rfl) (pe_op op_add_str (pv 3) pe_str))) pss_nil)
          (pss_one (ps_ret (pv 3))))))), ?_⟩
        refine ⟨_, rfl, _, _, _, rfl, fun _ h => h, T.kit11, _, rfl, iteT ?_⟩
        refine ⟨_, rfl, _, _, rfl, rfl, by decide +kernel, ?_⟩
        refine ⟨_, rfl, _, _, _, rfl, fun _ h => h, T.kit12, _, rfl, iteF ?_⟩
        refine ⟨_, rfl, _, _, _, rfl, fun _ h => h, T.kit13, _, rfl, iteF ?_⟩
        refine ⟨_, rfl, _, _, _, rfl, fun _ h => h, T.kit14, _, rfl, iteF ?_⟩
        exact ⟨_, rfl, q _ sm1⟩
      | 1, _ =>
        refine ⟨true, T.nT.ex T.sub2, fun _ ax hax => fun oe pn hz hf => ?_, fun z => nomatch z⟩
        refine ⟨_, pss_cons (ps_set (i := 3) scTD.nd rfl (.inl rfl) pe_str)
          (pss_cons (ps_if (pt_val (pe_callB (call_isE T.exc2 hz hf) (by rfl) T.isi (by decide +kernel) (pa_cons (pv 2) (pa_cons (pe_glob (v := .ref (C 1)) (by rfl) T.R.r1.g rfl) pa_nil)))) (pss_one (ps_set (i := 3) scTD.nd rfl (.inl rfl) (pe_op op_add_str (pv 3) pe_str))) pss_nil)
          (pss_cons (ps_if (pt_val (pe_callB (call_isE T.exc2 hz hf) (by rfl) T.isi (by decide +kernel) (pa_cons (pv 2) (pa_cons (pe_glob (v := .ref (C 2)) (by rfl) T.R.r2.g rfl) pa_nil)))) (pss_one (ps_set (i := 3) scTD.nd rfl (.inl rfl) (pe_op op_add_str (pv 3) pe_str))) pss_nil)
          (pss_cons (ps_if (pt_val (pe_callB (call_isE T.exc2 hz hf) (by rfl) T.isi (by decide +kernel) (pa_cons (pv 2) (pa_cons (pe_glob (v := .ref (C 3)) (by rfl) T.R.r3.g rfl) pa_nil)))) (pss_one (ps_set (i := 3) scTD.nd rfl (.inl rfl) (pe_op op_add_str (pv 3) pe_str))) pss_nil)
          (pss_cons (ps_if (pt_val (pe_callB (call_isE T.exc2 hz hf) (by rfl) T.isi (by decide +kernel) (pa_cons (pv 2) (pa_cons (pe_glob (v := .ref (C 4)) (by rfl) T.R.r4.g rfl) pa_nil)))) (pss_one (ps_set (i := 3) scTD.nd rfl (.inl rfl) (pe_op op_add_str (pv 3) pe_str))) pss_nil)
          (pss_one (ps_ret (pv 3))))))), ?_⟩
        refine ⟨_, rfl, _, _, _, rfl, fun _ h => h, T.kit21, _, rfl, iteF ?_⟩
        refine ⟨_, rfl, _, _, _, rfl, fun _ h => h, T.kit22, _, rfl, iteT ?_⟩
        refine ⟨_, rfl, _, _, rfl, rfl, by decide +kernel, ?_⟩
        refine ⟨_, rfl, _, _, _, rfl, fun _ h => h, T.kit23, _, rfl, iteF ?_⟩
        refine ⟨_, rfl, _, _, _, rfl, fun _ h => h, T.kit24, _, rfl, iteF ?_⟩
        exact ⟨_, rfl, q _ sm1⟩
      | 2, _ =>
        refine ⟨true, T.nT.ex T.sub3, fun _ ax hax => fun oe pn hz hf => ?_, fun z => nomatch z⟩
        refine ⟨_, pss_cons (ps_set (i := 3) scTD.nd rfl (.inl rfl) pe_str)
          (pss_cons (ps_if (pt_val (pe_callB (call_isE T.exc3 hz hf) (by rfl) T.isi (by decide +kernel) (pa_cons (pv 2) (pa_cons (pe_glob (v := .ref (C 1)) (by rfl) T.R.r1.g rfl) pa_nil)))) (pss_one (ps_set (i := 3) scTD.nd rfl (.inl rfl) (pe_op op_add_str (pv 3) pe_str))) pss_nil)
          (pss_cons (ps_if (pt_val (pe_callB (call_isE T.exc3 hz hf) (by rfl) T.isi (by decide +kernel) (pa_cons (pv 2) (pa_cons (pe_glob (v := .ref (C 2)) (by rfl) T.R.r2.g rfl) pa_nil)))) (pss_one (ps_set (i := 3) scTD.nd rfl (.inl rfl) (pe_op op_add_str (pv 3) pe_str))) pss_nil)
          (pss_cons (ps_if (pt_val (pe_callB (call_isE T.exc3 hz hf) (by rfl) T.isi (by decide +kernel) (pa_cons (pv 2) (pa_cons (pe_glob (v := .ref (C 3)) (by rfl) T.R.r3.g rfl) pa_nil)))) (pss_one (ps_set (i := 3) scTD.nd rfl (.inl rfl) (pe_op op_add_str (pv 3) pe_str))) pss_nil)
          (pss_cons (ps_if (pt_val (pe_callB (call_isE T.exc3 hz hf) (by rfl) T.isi (by decide +kernel) (pa_cons (pv 2) (pa_cons (pe_glob (v := .ref (C 4)) (by rfl) T.R.r4.g rfl) pa_nil)))) (pss_one (ps_set (i := 3) scTD.nd rfl (.inl rfl) (pe_op op_add_str (pv 3) pe_str))) pss_nil)
          (pss_one (ps_ret (pv 3))))))), ?_⟩
        refine ⟨_, rfl, _, _, _, rfl, fun _ h => h, T.kit31, _, rfl, iteF ?_⟩
        refine ⟨_, rfl, _, _, _, rfl, fun _ h => h, T.kit32, _, rfl, iteF ?_⟩
        refine ⟨_, rfl, _, _, _, rfl, fun _ h => h, T.kit33, _, rfl, iteT ?_⟩
        refine ⟨_, rfl, _, _, rfl, rfl, by decide +kernel, ?_⟩
        refine ⟨_, rfl, _, _, _, rfl, fun _ h => h, T.kit34, _, rfl, iteF ?_⟩
        exact ⟨_, rfl, q _ sm1⟩
      | 3, _ =>
        refine ⟨true, T.nT.ex T.sub4, fun _ ax hax => fun oe pn hz hf => ?_, fun z => nomatch z⟩
        refine ⟨_, pss_cons (ps_set (i := 3) scTD.nd rfl (.inl rfl) pe_str)
          (pss_cons (ps_if (pt_val (pe_callB (call_isE T.exc4 hz hf) (by rfl) T.isi (by decide +kernel) (pa_cons (pv 2) (pa_cons (pe_glob (v := .ref (C 1)) (by rfl) T.R.r1.g rfl) pa_nil)))) (pss_one (ps_set (i := 3) scTD.nd rfl (.inl rfl) (pe_op op_add_str (pv 3) pe_str))) pss_nil)
          (pss_cons (ps_if (pt_val (pe_callB (call_isE T.exc4 hz hf) (by rfl) T.isi (by decide +kernel) (pa_cons (pv 2) (pa_cons (pe_glob (v := .ref (C 2)) (by rfl) T.R.r2.g rfl) pa_nil)))) (pss_one (ps_set (i := 3) scTD.nd rfl (.inl rfl) (pe_op op_add_str (pv 3) pe_str))) pss_nil)
          (pss_cons (ps_if (pt_val (pe_callB (call_isE T.exc4 hz hf) (by rfl) T.isi (by decide +kernel) (pa_cons (pv 2) (pa_cons (pe_glob (v := .ref (C 3)) (by rfl) T.R.r3.g rfl) pa_nil)))) (pss_one (ps_set (i := 3) scTD.nd rfl (.inl rfl) (pe_op op_add_str (pv 3) pe_str))) pss_nil)
          (pss_cons (ps_if (pt_val (pe_callB (call_isE T.exc4 hz hf) (by rfl) T.isi (by decide +kernel) (pa_cons (pv 2) (pa_cons (pe_glob (v := .ref (C 4)) (by rfl) T.R.r4.g rfl) pa_nil)))) (pss_one (ps_set (i := 3) scTD.nd rfl (.inl rfl) (pe_op op_add_str (pv 3) pe_str))) pss_nil)
          (pss_one (ps_ret (pv 3))))))), ?_⟩
        refine ⟨_, rfl, _, _, _, rfl, fun _ h => h, T.kit41, _, rfl, iteF ?_⟩
        refine ⟨_, rfl, _, _, _, rfl, fun _ h => h, T.kit42, _, rfl, iteF ?_⟩
        refine ⟨_, rfl, _, _, _, rfl, fun _ h => h, T.kit43, _, rfl, iteF ?_⟩
        refine ⟨_, rfl, _, _, _, rfl, fun _ h => h, T.kit44, _, rfl, iteT ?_⟩
        refine ⟨_, rfl, _, _, rfl, rfl, by decide +kernel, ?_⟩
        exact ⟨_, rfl, q _ sm1⟩

theorem nodup_iff : ∀ {l : List Nat}, l.Nodup ↔ ∀ j c, l[j]? = some c → c ∉ l.take j
  | l => by
    constructor
    · intro h j c hj hc
      obtain ⟨i, hi⟩ := List.mem_iff_getElem?.mp hc
      rw [List.getElem?_take] at hi
      by_cases hij : i < j
      · rw [if_pos hij] at hi
        obtain ⟨a1, b1⟩ := List.getElem?_eq_some_iff.mp hi
        obtain ⟨a2, b2⟩ := List.getElem?_eq_some_iff.mp hj
        exact List.pairwise_iff_getElem.mp h i j a1 a2 hij (b1.trans b2.symm)
      · rw [if_neg hij] at hi
        cases hi
    · intro h
      refine List.pairwise_iff_getElem.mpr fun i j hi hj hij e => ?_
      refine h j l[j] (List.getElem?_eq_getElem hj) ?_
      exact List.mem_iff_getElem?.mpr ⟨i, by rw [List.getElem?_take, if_pos hij, List.getElem?_eq_getElem hi, e]⟩
abbrev nDU : List Str := ["shape", "names", "k", "axis"]
theorem scDU : FnScope nDU ["shape"] (defScope sDue) := ⟨rfl, rfl, rfl, by decide +kernel, rfl, by decide +kernel, by decide +kernel⟩
theorem cut_take (l : List Nat) (i : Nat) : (cutS ⟨l.toArray⟩ none (some (i : Int))).cps.toList = l.take i := by
  unfold cutS
  show ((l.drop _).take _) = _
  rw [HT.sIx_none, HT.sIx_nat, List.drop_zero, Nat.sub_zero]
  show l.take (min i l.length) = l.take i
  by_cases h : i ≤ l.length
  · rw [Nat.min_eq_left h]
  · rw [Nat.min_eq_right (by omega), List.take_of_length_le (Nat.le_refl _), List.take_of_length_le (by omega)]
def spDue (K : PySem.W.Frag) : Sp := spTold K
theorem ok_due {f fN fC : Addr} {fd fdN fdC : FuncData} (F : Fun K "_law_due" "_law_due" sDue f fd) (ml : mg "len" = none) (mr : mg "range" = none)
    (GN : FnOk P w K mg base CX0 1 fN fdN ["shape"] (spNamesT K)) (kN : PySem.W.keepIn K (.ref fN) = true) (bN : Binds K fdN ["shape"] []) (gN : mg "_law_names" = some (.ref fN))
    (GC : FnOk P w K mg base CX0 1 fC fdC ["shape"] (spCountT K)) (kC : PySem.W.keepIn K (.ref fC) = true) (bC : Binds K fdC ["shape"] []) (gC : mg "_law_count" = some (.ref fC)) : FnOk P w K mg base CX0 2 f fd ["shape"] (spDue K) := by
  refine F.ok scDU (fun vs H Q E h => ?_) (fun cdv A outer s H vs Q E hr h => ?_)
  · obtain ⟨a, sh, rfl, _⟩ := h
    rfl
  · obtain ⟨a, sh, rfl, hS, hl, hm, q⟩ := h
    refine ⟨_, pss_cons (ps_set (i := 1) scDU.nd rfl (.inr rfl) (pe_call GN hr (by rfl) gN kN bN .nil pass0 (pa_cons (pv 0) pa_nil)))
      (pss_cons (ps_if (pt_cmpR op_gt (pe_callB call_len_seq (by rfl) ml PySem.boot_len (pa_cons (pv 0) pa_nil)) pe_int (nomark _)) (pss_one (ps_ret pe_str)) pss_nil)
      (pss_cons (ps_if (pt_cmpR op_gt (pe_callB call_len_seq (by rfl) ml PySem.boot_len (pa_cons
          (pe_lc (own := [("k", 2)]) (g := gName 2) (te := tVar 2) rfl scDU.nd (pi_range1 rfl mr (pa_cons (pe_callB call_len_str (by rfl) ml PySem.boot_len (pa_cons (pv 1) pa_nil)) pa_nil)) (blkOk_by (N := nDU) (sc := defScope sDue) (by decide +kernel))
            (fun _ _ _ _ _ => pg_name (i := 2) scDU.nd rfl (.inl rfl) (hf := Or.inr rfl)) (fun _ _ _ _ _ => pts_one (pt_cmpR op_in_sign (pe_ix ix_str (pv 1) (pv 2) (fun _ _ => rfl)) (pe_slice sl_str (pv 1) po_none (po_some (pv 2))) rfl)) (fun _ _ _ _ _ => pv 2)) pa_nil)) pe_int (nomark _)) (pss_one (ps_ret pe_str)) pss_nil)
      (pss_cons (ps_if (pt_cmpR op_gt (pe_callB call_len_seq (by rfl) ml PySem.boot_len (pa_cons
          (pe_lc (own := [("axis", 3)]) (g := gName 3) (te := tVar 3) (tt := tOr (tTest (tOp (rI0 fun i j => .bl (decide (i < j))) (tOp (rIxT K) (tVar 3) (tC (.int 1))) (tC (.int 1)))) (tTest (tOp (rI0 fun i j => .bl (decide (j < i))) (tOp (rIxT K) (tVar 3) (tC (.int 1))) (tC (.int 16))))) rfl scDU.nd (pi_tup (pv 0)) (blkOk_by (N := nDU) (sc := defScope sDue) (by decide +kernel))
            (fun _ _ _ _ _ => pg_name (i := 3) scDU.nd rfl (.inl rfl) (hf := Or.inr rfl)) (fun _ _ _ _ _ => pts_one (PW.pt (pw_or (pt_cmpR op_lt (pe_ix ix_tup (pv 3) pe_int (fun _ _ => rfl)) pe_int (nomark _)) (pw_or1 (pt_cmpR op_gt (pe_ix ix_tup (pv 3) pe_int (fun _ _ => rfl)) pe_int (nomark _)))))) (fun _ _ _ _ _ => pv 3)) pa_nil)) pe_int (nomark _)) (pss_one (ps_ret pe_str)) pss_nil)
      (pss_one (ps_ret (pe_ifExp (pt_cmpR op_gt (pe_call GC hr (by rfl) gC kC bC .nil pass0 (pa_cons (pv 0) pa_nil)) pe_int (nomark _)) pe_str pe_str)))))), ?_⟩
    refine ⟨_, rfl, a, sh, rfl, hS, hl, fun H1 sm1 => ?_⟩
    obtain ⟨ts, ha1, hx1⟩ := hS.same sm1
    have hlen : (ts.map V.ref).length = sh.length := by rw [List.length_map, hx1.1]
    have hcl : (codes sh).length = sh.length := by rw [codes, List.length_map]
    have hzl : (lets sh).length = sh.length := by
      show (codes sh).toArray.size = sh.length
      rw [List.size_toArray, hcl]
    refine ⟨_, rfl, a, _, rfl, .inr (SqT.of ha1), _, _, rfl, rfl, _, rfl, ite2 (fun e => ?_) (fun e => ?_)⟩
    · have e' := of_decide_eq_true e
      rw [hlen] at e'
      have hc : chk sh = 1 := by unfold chk; rw [if_pos (by omega)]
      rw [hc] at q
      exact q _ sm1
    · have e0 : ¬ ((4 : Int) < ((ts.map V.ref).length : Int)) := fun z => e (decide_eq_true z)
      rw [hlen] at e0
      have e1 : ¬ 4 < sh.length := by omega
      refine ⟨_, rfl, _, rfl, by rw [hzl]; exact small64 (by omega), _, rfl, by omega, by rw [hzl]; omega, fun D nD => lc_range (lo := 0) (n := (((lets sh).length : Nat) : Int).toNat)
        (fun i H' => Same H1 H' ∧ ∃ acc, H' D = some (.lst acc) ∧ acc.length ≤ i ∧ (acc = [] ↔ ∀ j c, j < i → (codes sh)[j]? = some c → c ∉ (codes sh).take j))
        ⟨same_upd nD, [], upd_same, Nat.le_refl _, fun _ j c h => absurd h (Nat.not_lt_zero _), fun _ => rfl⟩ ?_ ?_⟩
      · rintro i H' hi ⟨sm, acc, hD, hal, hiff⟩
        have hi2 : i < (codes sh).length := by
          rw [hcl]
          rw [hzl] at hi
          omega
        have hg : (codes sh)[i]? = some (codes sh)[i] := List.getElem?_eq_getElem hi2
        generalize (codes sh)[i] = ch at hg
        rw [Int.zero_add]
        refine ⟨rfl, _, rfl, _, rfl, lets sh, i, ch, rfl, rfl, by rw [hzl]; exact small64 (by omega), atI_nat (by exact hg), _, rfl, _, rfl, _, rfl, lets sh, rfl, by rw [hzl]; exact small64 (by omega), ch, _, rfl, rfl, _, rfl, ?_⟩
        rw [show (cutS (lets sh) none (some (i : Int))).cps.toList = (codes sh).take i from cut_take _ _]
        refine ite2 (fun g => ?_) (fun g => ?_)
        · have g' := of_decide_eq_true g
          refine ⟨_, rfl, acc, hD, small1000 (by rw [hcl] at hi2; omega), fun b o z => by rw [upd_ne (ne_of_none z nD)]; exact sm _ _ z, _, upd_same, by rw [List.length_append]; exact Nat.succ_le_succ hal, fun z => by simp at z, fun z => absurd g' (z i ch (Nat.lt_succ_self _) hg)⟩
        · have g' : ch ∉ (codes sh).take i := fun z => g (decide_eq_true z)
          refine ⟨sm, acc, hD, by omega, fun z j c hj hc => ?_, fun z => hiff.mpr fun j c hj hc => z j c (by omega) hc⟩
          by_cases ej : j = i
          · subst ej
            rw [hg] at hc
            cases hc
            exact g'
          · exact hiff.mp z j c (by omega) hc
      · rintro H2 ⟨sm2, acc, hD, hal, hiff⟩
        rw [hzl, Int.toNat_natCast] at hiff
        have hnd : acc = [] ↔ (codes sh).Nodup := by
          rw [hiff, nodup_iff]
          constructor
          · intro z j c hc
            exact z j c (by rw [← hcl]; exact (List.getElem?_eq_some_iff.mp hc).1) hc
          · intro z j c _ hc
            exact z j c hc
        refine ⟨D, acc, rfl, .inl (SqL.of hD), _, _, rfl, rfl, _, rfl, ite2 (fun e2 => ?_) (fun e2 => ?_)⟩
        · have e3 := of_decide_eq_true e2
          have : ¬ (codes sh).Nodup := fun n => by
            rw [hnd.mpr n, List.length_nil] at e3
            omega
          have hc : chk sh = 2 := by unfold chk; rw [if_neg e1, if_neg this]
          rw [hc] at q
          exact q _ (sm1.trans sm2)
        · have e3 : ¬ ((0 : Int) < (acc.length : Int)) := fun z => e2 (decide_eq_true z)
          have hnn : (codes sh).Nodup := hnd.mp (List.length_eq_zero_iff.mp (by omega))
          have ha2 := sm2 _ _ ha1
          refine ⟨_, rfl, a, rfl, ⟨_, SqT.of ha2⟩, fun D2 nD2 => lc_tup (K := K) (a := a) (xs := ts.map V.ref)
            (fun i H' => Same H2 H' ∧ ∃ acc, H' D2 = some (.lst acc) ∧ acc.length ≤ i ∧ (acc = [] ↔ ∀ j p, j < i → sh[j]? = some p → 1 ≤ p.2 ∧ p.2 ≤ 16))
            ⟨same_upd nD2, [], upd_same, Nat.le_refl _, fun _ j c h => absurd h (Nat.not_lt_zero _), fun _ => rfl⟩ (fun i H' _ h => SqT.of (h.1 _ _ ha2)) ?_ ?_⟩
          · rintro i x H' hi ⟨sm, acc, hD, hal, hiff⟩
            obtain ⟨t, p, rfl, g1, g2, g3⟩ := (hx1.same sm2).at hi
            have g4 := sm _ _ g3
            have hil : i < sh.length := (List.getElem?_eq_some_iff.mp g2).1
            refine ⟨rfl, _, rfl, t, _, 1, _, rfl, rfl, SqT.of g4, rfl, _, _, rfl, rfl, _, rfl, ?_⟩
            have good : ¬ (1 ≤ p.2 ∧ p.2 ≤ 16) → (Same H2 (upd H' D2 (.lst (acc ++ [.ref t]))) ∧ ∃ acc', (upd H' D2 (.lst (acc ++ [.ref t]))) D2 = some (.lst acc') ∧ acc'.length ≤ i + 1 ∧ (acc' = [] ↔ ∀ j p, j < i + 1 → sh[j]? = some p → 1 ≤ p.2 ∧ p.2 ≤ 16)) := fun nb =>
              ⟨fun b o z => by rw [upd_ne (ne_of_none z nD2)]; exact sm _ _ z, _, upd_same, by rw [List.length_append]; exact Nat.succ_le_succ hal, fun z => by simp at z, fun z => absurd (z i p (Nat.lt_succ_self _) g2) nb⟩
            refine ite2 (fun e5 => ?_) (fun e5 => ⟨_, rfl, t, _, 1, _, rfl, rfl, SqT.of g4, rfl, _, _, rfl, rfl, _, rfl, ite2 (fun e6 => ?_) (fun e6 => ?_)⟩)
            · dsimp only
              rw [if_pos rfl]
              exact ⟨_, rfl, acc, hD, small1000 (by omega), good (fun z => absurd (of_decide_eq_true e5) (by omega))⟩
            · exact ⟨_, rfl, acc, hD, small1000 (by omega), good (fun z => absurd (of_decide_eq_true e6) (by omega))⟩
            · have a1 : ¬ p.2 < 1 := fun z => e5 (decide_eq_true z)
              have a2 : ¬ 16 < p.2 := fun z => e6 (decide_eq_true z)
              refine ⟨sm, acc, hD, by omega, fun z j p' hj hc => ?_, fun z => hiff.mpr fun j c hj hc => z j c (by omega) hc⟩
              by_cases ej : j = i
              · subst ej
                rw [g2] at hc
                cases hc
                omega
              · exact hiff.mp z j p' (by omega) hc
          · rintro H3 ⟨sm3, acc2, hD2, hal2, hiff2⟩
            rw [hlen] at hiff2
            have hfi : acc2 = [] ↔ Fine sh := by
              rw [hiff2]
              constructor
              · intro z p hp
                obtain ⟨j, hj⟩ := List.mem_iff_getElem?.mp hp
                exact z j p (List.getElem?_eq_some_iff.mp hj).1 hj
              · intro z j p _ hj
                exact z p (List.mem_of_getElem? hj)
            have sm13 := (sm1.trans sm2).trans sm3
            refine ⟨D2, acc2, rfl, .inl (SqL.of hD2), _, _, rfl, rfl, _, rfl, ite2 (fun e8 => ?_) (fun e8 => ?_)⟩
            · have e9 := of_decide_eq_true e8
              have nf : ¬ Fine sh := fun n => by
                rw [hfi.mpr n, List.length_nil] at e9
                omega
              have hc : chk sh = 3 := by unfold chk; rw [if_neg e1, if_pos hnn, if_neg (fun z => nf (fineB_iff.mp z))]
              rw [hc] at q
              exact q _ sm13
            · have e9 : ¬ ((0 : Int) < (acc2.length : Int)) := fun z => e8 (decide_eq_true z)
              have hf := hfi.mp (List.length_eq_zero_iff.mp (by omega))
              refine ⟨_, rfl, a, sh, rfl, hS.same sm13, hm, _, _, rfl, rfl, _, rfl, ite2 (fun e10 => ?_) (fun e10 => ?_)⟩
              · have hc : chk sh = 4 := by unfold chk; rw [if_neg e1, if_pos hnn, if_pos (fineB_iff.mpr hf), if_pos (of_decide_eq_true e10)]
                rw [hc] at q
                exact q _ sm13
              · have hc : chk sh = 0 := by unfold chk; rw [if_neg e1, if_pos hnn, if_pos (fineB_iff.mpr hf), if_neg (fun z => e10 (decide_eq_true z))]
                rw [hc] at q
                exact q _ sm13
end
/-! ### drawing -/
/-- all but one place stands as it was -/
def But (d : Addr) (H H' : Hp) : Prop := ∀ b, b ≠ d → H' b = H b
theorem But.refl (d : Addr) (H : Hp) : But d H H := fun _ _ => rfl
theorem But.trans {d : Addr} {H H1 H2 : Hp} (a : But d H H1) (b : But d H1 H2) : But d H H2 := fun c h => (b c h).trans (a c h)
theorem But.upd {d : Addr} {H : Hp} {o : HO} : But d H (upd H d o) := fun _ h => upd_ne h
/-- the drawing state -/
def DrAt (H : Hp) (d c : Addr) : Prop := ∃ (ns : List Int) (i : Nat) (r s : Int), c ≠ d ∧ H d = some (.lst [.ref c, .int i, .int r, .int s]) ∧ H c = some (.lst (ns.map V.int)) ∧ i ≤ ns.length ∧ 0 ≤ r ∧ 0 ≤ s ∧ s < 2147483647
theorem DrAt.same {H H' : Hp} {d c : Addr} (h : DrAt H d c) (s : Same H H') : DrAt H' d c := by
  obtain ⟨ns, i, r, sd, n, h1, h2, h3⟩ := h
  exact ⟨ns, i, r, sd, n, s _ _ h1, s _ _ h2, h3⟩
theorem DrAt.lst {H : Hp} {d c : Addr} (h : DrAt H d c) : ∃ xs, H d = some (.lst xs) := by
  obtain ⟨ns, i, r, sd, n, h1, _⟩ := h
  exact ⟨_, h1⟩
theorem DrAt.lstc {H : Hp} {d c : Addr} (h : DrAt H d c) : ∃ xs, H c = some (.lst xs) := by
  obtain ⟨ns, i, r, sd, n, _, h1, _⟩ := h
  exact ⟨_, h1⟩
/-- another list may be changed -/
theorem DrAt.upd {H : Hp} {d c p : Addr} (h : DrAt H d c) (o : HO) (nd : p ≠ d) (nc : p ≠ c) : DrAt (upd H p o) d c := by
  obtain ⟨ns, i, r, sd, n, h1, h2, h3⟩ := h
  exact ⟨ns, i, r, sd, n, by rw [upd_ne nd.symm]; exact h1, by rw [upd_ne nc.symm]; exact h2, h3⟩
/-- what is no list is kept by a draw -/
theorem But.tup {d c b : Addr} {H H' : Hp} {xs : List V} (k : But d H H') (h : DrAt H d c) (hb : H b = some (.tup xs)) : H' b = some (.tup xs) := by
  obtain ⟨ys, hd⟩ := h.lst
  rw [k b (ne_of hb hd (fun z => nomatch z))]
  exact hb
def Bnd (m : Int) : Prop := m < 2 ^ 400
structure TxtD (mg : Str → Option Value) : Prop where
  int : mg "int" = none
  abs : mg "abs" = none
  len : mg "len" = none
  list : mg "list" = none
section
variable {P : Program} {w : World} {K : PySem.W.Frag} {mg : Str → Option Value} {base : Heap}
def spBegin (K : PySem.W.Frag) : Sp := fun vs H Q _ => ∃ (a : Addr) (ns : List Int), vs = [.ref a] ∧ SqL K H a (ns.map V.int) ∧ ns.length ≤ 63 ∧
  ∀ H' d c, Same H H' → H d = none → H c = none → DrAt H' d c → Q (.ref d) H'
theorem scB : FnScope ["script", "seed", "cell"] ["script"] (defScope sBegin) := ⟨rfl, rfl, rfl, by decide +kernel, rfl, by decide +kernel, by decide +kernel⟩
theorem ok_begin {f : Addr} {fd : FuncData} (F : Fun K "_law_begin" "_law_begin" sBegin f fd) (T : TxtD mg) : FnOk P w K mg base CX0 1 f fd ["script"] (spBegin K) := by
  refine F.ok scB (fun vs H Q E h => ?_) (fun cdv A outer s H vs Q E hr h => ?_)
  · obtain ⟨a, ns, rfl, _⟩ := h
    rfl
  · obtain ⟨a, ns, rfl, hS, hlen, q⟩ := h
    refine ⟨_, pss_cons (ps_set (i := 1) scB.nd rfl (.inl rfl) pe_int)
      (pss_cons (ps_for PassesOwn.never rfl (pi_list (pv 0)) (pg_name (i := 2) scB.nd rfl (.inl rfl))
        (pss_one (ps_set (i := 1) scB.nd rfl (.inl rfl)
          (pe_op op_mod (pe_op op_add (pe_op op_add (pe_op op_mul (pv 1) pe_int) (pe_op op_mod (pe_callTy call_int1 (by rfl) T.int (by decide +kernel) (pa_cons (pv 2) pa_nil)) pe_int)) pe_int) pe_int))))
      (pss_one (ps_ret (pe_lst (pa_cons (pe_callTy call_list_of (by rfl) T.list (by decide +kernel) (pa_cons (pv 0) pa_nil)) (pa_cons pe_int (pa_cons pe_int (pa_cons (pv 1) pa_nil)))))))), ?_⟩
    refine ⟨_, rfl, a, rfl, ⟨_, hS⟩, for_list (K := K) (a := a) (xs := ns.map V.int) (fun i σ H' => ∃ (z : Int) (v : Option V), σ = [some (.ref a), some (.int z), v] ∧ H' = H ∧ 0 ≤ z ∧ z < 2147483647)
      ⟨1, none, rfl, rfl, by decide, by decide⟩ (fun i σ H' _ ⟨_, _, _, e, _⟩ => by rw [e]; exact hS) ?_ ?_⟩
    · rintro i x σ H' hi ⟨z, v, rfl, rfl, h0, h1⟩
      obtain ⟨u, rfl⟩ : ∃ u, x = V.int u := by
        rw [List.getElem?_map] at hi
        cases e : ns[i]? with
        | none => rw [e] at hi; cases hi
        | some u => rw [e] at hi; exact ⟨u, (Option.some.inj hi).symm⟩
      refine ⟨_, rfl, _, _, rfl, rfl, .inl ⟨by omega, by omega⟩, _, rfl, .inl ⟨_, rfl, _, _, rfl, rfl, (by show (0 : Int) < 2147483629; decide), _, _, rfl, rfl, _, _, rfl, rfl, _, _, rfl, rfl, (by show (0 : Int) < 2147483647; decide), ?_⟩⟩
      exact ⟨_, _, rfl, rfl, Int.emod_nonneg _ (by decide), Int.emod_lt_of_pos _ (by decide)⟩
    · rintro σ H' ⟨z, v, rfl, rfl, h0, h1⟩
      refine ⟨_, rfl, a, _, rfl, .inl hS, fun c nc => ⟨_, rfl, by show 4 ≤ sizeLine; decide, fun d nd => ?_⟩⟩
      have ndc : d ≠ c := fun e => by
        rw [e, upd_same] at nd
        cases nd
      have nd0 : H' d = none := by
        rw [upd_ne ndc] at nd
        exact nd
      refine q _ d c (fun b o e => ?_) nd0 nc ⟨ns, 0, 0, z, ndc.symm, upd_same, ?_, Nat.zero_le _, by decide, h0, h1⟩
      · rw [upd_ne (ne_of_none e nd0), upd_ne (ne_of_none e nc)]
        exact e
      · rw [upd_ne ndc.symm, upd_same]
def spTake : Sp := fun vs H Q _ => ∃ (d c : Addr) (m : Int), vs = [.ref d, .int m] ∧ DrAt H d c ∧ 0 < m ∧ Bnd m ∧
  ∀ H' v, But d H H' → DrAt H' d c → 0 ≤ v → v < m → Q (.int v) H'
theorem scT : FnScope ["d", "many", "small", "digit"] ["d", "many"] (defScope sTake) := ⟨rfl, rfl, rfl, by decide +kernel, rfl, by decide +kernel, by decide +kernel⟩
theorem at0 {a b c e : V} : atI [a, b, c, e] (0 : Int) = some a := rfl
theorem at1 {a b c e : V} : atI [a, b, c, e] (1 : Int) = some b := rfl
theorem at2 {a b c e : V} : atI [a, b, c, e] (2 : Int) = some c := rfl
theorem at3 {a b c e : V} : atI [a, b, c, e] (3 : Int) = some e := rfl
theorem bnd_nat {m : Int} (h0 : 0 < m) (h : Bnd m) : m.natAbs < 2 ^ 400 := by
  have e : ((2 ^ 400 : Nat) : Int) = 2 ^ 400 := by decide +kernel
  unfold Bnd at h
  generalize (2 ^ 400 : Nat) = B at *
  omega
theorem bndW {r m : Int} (h0 : 0 < m) (h : Bnd m) : CDivW r m := wide_div (b := 400) h0 (bnd_nat h0 h) (by decide) (by decide)
theorem ok_take {f : Addr} {fd : FuncData} (F : Fun K "_law_take" "_law_take" sTake f fd) (T : TxtD mg) : FnOk P w K mg base CX0 1 f fd ["d", "many"] spTake := by
  refine F.ok scT (fun vs H Q E h => ?_) (fun cdv A outer s H vs Q E hr h => ?_)
  · obtain ⟨d, c, m, rfl, _⟩ := h
    rfl
  · obtain ⟨d, c, m, rfl, ⟨ns, i, r, sd, ncd, hd, hc, hi, hr0, hs0, hs1⟩, hm, hb, q⟩ := h
    refine ⟨_, Evl.pss_cut (ps_if (PW.pt (pw_and (pt_cmpR op_eq (pe_ix ix_list (pv 0) pe_int (fun _ _ => rfl)) pe_int (nomark _))
        (pw_and1 (pt_cmpR op_lt (pe_ix ix_list (pv 0) pe_int (fun _ _ => rfl)) (pe_callB call_len_seq (by rfl) T.len PySem.boot_len (pa_cons (pe_ix ix_list (pv 0) pe_int (fun _ _ => rfl)) pa_nil)) (nomark _)))))
        (pss_cons (ps_asg (pe_callB call_abs (by rfl) T.abs (by decide +kernel) (pa_cons (pe_callTy call_int1 (by rfl) T.int (by decide +kernel) (pa_cons (pe_ix ix_list (pe_ix ix_list (pv 0) pe_int (fun _ _ => rfl)) (pe_ix ix_list (pv 0) pe_int (fun _ _ => rfl)) (fun _ _ => rfl)) pa_nil)) pa_nil)) (pg_sub (pv 0) pe_int set_list))
        (pss_cons (ps_asg (pe_op op_add (pe_ix ix_list (pv 0) pe_int (fun _ _ => rfl)) pe_int) (pg_sub (pv 0) pe_int set_list))
        (pss_one (ps_if (pt_cmpR op_lt (pe_ix ix_list (pv 0) pe_int (fun _ _ => rfl)) (pe_op op_pow pe_int pe_int) (nomark _))
          (pss_cons (ps_set (i := 2) scT.nd rfl (.inl rfl) (pe_callTy call_int1 (by rfl) T.int (by decide +kernel) (pa_cons (pe_ix ix_list (pv 0) pe_int (fun _ _ => rfl)) pa_nil)))
          (pss_cons (ps_asg pe_int (pg_sub (pv 0) pe_int set_list))
          (pss_one (ps_ret (pe_op op_mod (pv 2) (pv 1))))))
          pss_nil))))
        pss_nil)
      (pss_cons (ps_if (pt_cmpR op_gt (pe_ix ix_list (pv 0) pe_int (fun _ _ => rfl)) pe_int (nomark _))
        (pss_cons (ps_set (i := 3) scT.nd rfl (.inl rfl) (pe_op op_mod (pe_callTy call_int1 (by rfl) T.int (by decide +kernel) (pa_cons (pe_ix ix_list (pv 0) pe_int (fun _ _ => rfl)) pa_nil)) (pv 1)))
        (pss_cons (ps_asg (pe_op op_fdivW (pe_callTy call_int1 (by rfl) T.int (by decide +kernel) (pa_cons (pe_ix ix_list (pv 0) pe_int (fun _ _ => rfl)) pa_nil)) (pv 1)) (pg_sub (pv 0) pe_int set_list))
        (pss_one (ps_ret (pv 3)))))
        pss_nil)
      (pss_cons (ps_asg (pe_op op_mod (pe_callTy call_int1 (by rfl) T.int (by decide +kernel) (pa_cons (pe_op op_add (pe_op op_mul (pe_ix ix_list (pv 0) pe_int (fun _ _ => rfl)) pe_int) pe_int) pa_nil)) pe_int) (pg_sub (pv 0) pe_int set_list))
      (pss_one (ps_ret (pe_op op_mod (pe_callTy call_int1 (by rfl) T.int (by decide +kernel) (pa_cons (pe_op op_fdiv (pe_ix ix_list (pv 0) pe_int (fun _ _ => rfl)) pe_int) pa_nil)) (pv 1)))))), ?_⟩
    refine ⟨fun σ' H' => ∃ (i r sd : Int) (x2 : Option V) (i' : Nat), σ' = [some (.ref d), some (.int m), x2, none] ∧ H' = upd H d (.lst [.ref c, .int i, .int r, .int sd]) ∧ i = i' ∧ i' ≤ ns.length ∧ 0 ≤ r ∧ 0 ≤ sd ∧ sd < 2147483647, ?_, ?_⟩
    · have same : H = upd H d (.lst [.ref c, .int i, .int r, .int sd]) := by
        funext b
        by_cases e : b = d
        · rw [e, upd_same, hd]
        · rw [upd_ne e]
      refine ⟨_, rfl, d, _, 2, _, rfl, rfl, SqL.of hd, at2, rfl, _, rfl, ite2 (fun e => ?_) (fun e => ?_)⟩
      · refine ⟨_, rfl, d, _, 1, _, rfl, rfl, SqL.of hd, at1, _, rfl, d, _, 0, _, rfl, rfl, SqL.of hd, at0, c, _, rfl, .inl (SqL.of hc), _, _, rfl, rfl, _, rfl, ite2 (fun e2 => ?_) (fun e2 => ?_)⟩
        · have hlt : i < ns.length := by
            have := of_decide_eq_true e2
            rw [List.length_map] at this
            omega
          have hx : (ns.map V.int)[i]? = some (.int ns[i]) := by
            rw [List.getElem?_map, List.getElem?_eq_getElem hlt]
            rfl
          generalize ns[i] = x at hx
          have hcd : ∀ o, (upd H d o) c = some (.lst (ns.map V.int)) := fun o => by rw [upd_ne ncd]; exact hc
          have habs : 0 ≤ (if x < 0 then -x else x) := by split <;> omega
          -- d[2] = abs(int(d[0][d[1]]))
          refine ⟨_, rfl, d, _, 0, _, rfl, rfl, SqL.of hd, at0, _, rfl, d, _, 1, _, rfl, rfl, SqL.of hd, at1, c, _, _, _, rfl, rfl, SqL.of hc, atI_nat hx, .inl ⟨x, rfl, x, rfl, _, rfl, d, _, 2, 2, rfl, rfl, hd, rfl, ?_⟩⟩
          generalize (if x < 0 then -x else x) = y at habs
          -- d[1] = d[1] + 1
          refine ⟨_, rfl, d, _, 1, _, rfl, rfl, SqL.of upd_same, at1, _, _, rfl, rfl, _, rfl, d, _, 1, 1, rfl, rfl, upd_same, rfl, ?_⟩
          rw [upd_upd]
          -- if d[2] < 10 ** 18
          refine ⟨_, rfl, d, _, 2, _, rfl, rfl, SqL.of upd_same, at2, 10, 18, rfl, rfl, ⟨by decide, by decide, by decide⟩, _, _, rfl, rfl, _, rfl, ite2 (fun e3 => ?_) (fun e3 => ?_)⟩
          · refine ⟨_, rfl, d, _, 2, _, rfl, rfl, SqL.of upd_same, at2, .inl ⟨_, rfl, _, rfl, d, _, 2, 2, rfl, rfl, upd_same, rfl, ?_⟩⟩
            rw [upd_upd]
            refine ⟨_, rfl, _, rfl, _, _, rfl, rfl, hm, ?_⟩
            exact q _ _ But.upd ⟨ns, i + 1, 0, sd, ncd, upd_same, hcd _, hlt, by decide, hs0, hs1⟩ (Int.emod_nonneg _ (by omega)) (Int.emod_lt_of_pos _ hm)
          · exact ⟨_, _, _, _, i + 1, rfl, rfl, rfl, hlt, habs, hs0, hs1⟩
        · exact ⟨_, _, _, _, i, rfl, same, rfl, hi, hr0, hs0, hs1⟩
      · exact iteF ⟨_, _, _, _, i, rfl, same, rfl, hi, hr0, hs0, hs1⟩
    · clear hd hi hr0 hs0 hs1
      rintro σ' H' ⟨i, r, sd, x2, i', rfl, rfl, rfl, hi, hr0, hs0, hs1⟩
      have hcd : ∀ o, (upd H d o) c = some (.lst (ns.map V.int)) := fun o => by rw [upd_ne ncd]; exact hc
      refine ⟨_, rfl, d, _, 2, _, rfl, rfl, SqL.of upd_same, at2, _, _, rfl, rfl, _, rfl, ite2 (fun e => ?_) (fun e => ?_)⟩
      · refine ⟨_, rfl, d, _, 2, _, rfl, rfl, SqL.of upd_same, at2, .inl ⟨_, rfl, _, rfl, _, _, rfl, rfl, hm, ?_⟩⟩
        refine ⟨_, rfl, d, _, 2, _, rfl, rfl, SqL.of upd_same, at2, .inl ⟨_, rfl, _, rfl, _, _, rfl, rfl, bndW hm hb, _, rfl, d, _, 2, 2, rfl, rfl, upd_same, rfl, ?_⟩⟩
        rw [upd_upd]
        refine ⟨_, rfl, ?_⟩
        exact q _ _ But.upd ⟨ns, i', _, sd, ncd, upd_same, hcd _, hi, Int.ediv_nonneg hr0 (by omega), hs0, hs1⟩ (Int.emod_nonneg _ (by omega)) (Int.emod_lt_of_pos _ hm)
      · refine ⟨_, rfl, d, _, 3, _, rfl, rfl, SqL.of upd_same, at3, _, _, rfl, rfl, .inl ⟨by omega, by omega⟩, _, _, rfl, rfl, .inl ⟨_, rfl, _, _, rfl, rfl, (by show (0 : Int) < 2147483647; decide), _, rfl, d, _, 3, 3, rfl, rfl, upd_same, rfl, ?_⟩⟩
        rw [upd_upd]
        refine ⟨_, rfl, d, _, 3, _, rfl, rfl, SqL.of upd_same, at3, _, _, rfl, rfl, ⟨by decide, by decide⟩, .inl ⟨_, rfl, _, rfl, _, _, rfl, rfl, hm, ?_⟩⟩
        exact q _ _ But.upd ⟨ns, i', r, _, ncd, upd_same, hcd _, hi, hr0, Int.emod_nonneg _ (by decide), Int.emod_lt_of_pos _ (by decide)⟩ (Int.emod_nonneg _ (by omega)) (Int.emod_lt_of_pos _ hm)
def spInt : Sp := fun vs H Q _ => ∃ (i : Int), vs = [.int i] ∧ Q (.bl true) H
theorem scN : FnScope ["actual"] ["actual"] (defScope sInt) := ⟨rfl, rfl, rfl, by decide +kernel, rfl, by decide +kernel, by decide +kernel⟩
theorem ok_int {f : Addr} {fd : FuncData} (F : Fun K "_law_int" "_law_int" sInt f fd) (mi : mg "isinstance" = none) (mn : mg "int" = none) (mb : mg "bool" = none) : FnOk P w K mg base CX0 1 f fd ["actual"] spInt := by
  refine F.ok scN (fun vs H Q E h => ?_) (fun cdv A outer s H vs Q E hr h => ?_)
  · obtain ⟨i, rfl, _⟩ := h
    rfl
  · obtain ⟨i, rfl, q⟩ := h
    refine ⟨_, pss_one (ps_ret (pe_and (pe_callB call_isi (by rfl) mi (by decide +kernel) (pa_cons (pv 0) (pa_cons (pe_bltn (v := .ty "int") (by rfl) mn (by decide +kernel) rfl) pa_nil)))
      (pe_one (pe_not (pe_callB call_isi (by rfl) mi (by decide +kernel) (pa_cons (pv 0) (pa_cons (pe_bltn (v := .ty "bool") (by rfl) mb (by decide +kernel) rfl) pa_nil))))))), ?_⟩
    refine ⟨_, rfl, _, _, _, _, true, rfl, ClsV.ty "int", TyX.base (TyOf.int i), kit_ty (by decide +kernel), _, rfl, iteT ?_⟩
    exact ⟨_, rfl, _, _, _, _, false, rfl, ClsV.ty "bool", TyX.base (TyOf.int i), kit_ty (by decide +kernel), _, rfl, q⟩
end
section
variable {P : Program} {w : World} {K : PySem.W.Frag} {mg : Str → Option Value} {base : Heap}
/-! ### the law -/
structure Calls (P : Program) (w : World) (K : PySem.W.Frag) (mg : Str → Option Value) (base : Heap) (CX : CXT) (k : Nat) (name : Str) (ps : List Str) (sp : Sp) : Prop where
  ex : ∃ (f : Addr) (fd : FuncData), FnOk P w K mg base CX k f fd ps sp ∧ PySem.W.keepIn K (.ref f) = true ∧ Binds K fd ps [] ∧ mg name = some (.ref f)
structure Txt (mg : Str → Option Value) extends TxtD mg where
  tuple : mg "tuple" = none
  range : mg "range" = none
  isi : mg "isinstance" = none
  bool : mg "bool" = none
  l1 : ∃ u, mg "RANK_LIMIT" = some u ∧ RelV (.int 4) u
  l2 : ∃ u, mg "SIZE_LIMIT" = some u ∧ RelV (.int 16) u
  l3 : ∃ u, mg "COUNT_LIMIT" = some u ∧ RelV (.int 256) u
def spLaw (K : PySem.W.Frag) : Sp := fun vs H Q _ => ∃ (a : Addr) (ns : List Int), vs = [.ref a] ∧ SqL K H a (ns.map V.int) ∧ ns.length ≤ 63 ∧ ∀ H', Q (.bl true) H'
theorem scL : FnScope ["script", "d", "turn", "shape", "wild", "k", "letters", "sizes", "letter", "count"] ["script"] (defScope sLaw) := ⟨rfl, rfl, rfl, by decide +kernel, rfl, by decide +kernel, by decide +kernel⟩
theorem sh3 : SeqAt.shaped (.tuple [.int 4, .int 16, .int 256]) = true := by decide +kernel
theorem eq3 : PyData.eqv (.tuple [.int 4, .int 16, .int 256]) (.tuple [.int 4, .int 16, .int 256]) = true := by decide +kernel
theorem bnd30 {m : Int} (h : m ≤ 30) : Bnd m := by
  unfold Bnd
  have : (30 : Int) < 2 ^ 400 := by decide +kernel
  omega
def alpha : Str := "abcdefghijklmnopqrstuvwxyz"
def four : Str := "ijkm"
def szA : List Int := [1, 2, 3, 4, 16, 8]
def szB : List Int := [0, 1, 16, 17, -3, 2, 4]
theorem ite_int {b : Bool} {x y : Int} {σ : St} {H : Hp} {Q : VK} (h : ∀ m, m = x ∨ m = y → tC (.int m) σ H Q) : if b = true then tC (.int x) σ H Q else tC (.int y) σ H Q := by
  split
  · exact h x (.inl rfl)
  · exact h y (.inr rfl)
theorem ShT.nil {H : Hp} {p : Addr} : ShT K (upd H p (.tup [])) p [] := ⟨[], upd_same, Axes.nil⟩
theorem ok_law {f : Addr} {fd : FuncData} (F : Fun K "law" "law" sLaw f fd) (T : Txt mg)
    (cB : Calls P w K mg base CX0 1 "_law_begin" ["script"] (spBegin K)) (cT : Calls P w K mg base CX0 1 "_law_take" ["d", "many"] spTake) (cNL : Calls P w K mg base CX0 1 "_law_names" ["shape"] (spNamesL K)) (cNT : Calls P w K mg base CX0 1 "_law_names" ["shape"] (spNamesT K))
    (cTo : Calls P w K mg base CX0 3 "_law_told" ["shape"] (spTold K)) (cDu : Calls P w K mg base CX0 2 "_law_due" ["shape"] (spDue K)) (cCO : Calls P w K mg base CX0 1 "count_of" ["shape"] (spCountOf K)) (cCT : Calls P w K mg base CX0 1 "_law_count" ["shape"] (spCountT K))
    (cLO : Calls P w K mg base CX0 1 "letters_of" ["shape"] (spLettersOf K)) (cN : Calls P w K mg base CX0 1 "_law_int" ["actual"] spInt) :
    FnOk P w K mg base CX0 4 f fd ["script"] (spLaw K) := by
  obtain ⟨fB, dB, GB, kB, bB, gB⟩ := cB.ex
  obtain ⟨fT, dT, GT, kT, bT, gT⟩ := cT.ex
  obtain ⟨fNL, dNL, GNL, kNL, bNL, gNL⟩ := cNL.ex
  obtain ⟨fNT, dNT, GNT, kNT, bNT, gNT⟩ := cNT.ex
  obtain ⟨fTo, dTo, GTo, kTo, bTo, gTo⟩ := cTo.ex
  obtain ⟨fDu, dDu, GDu, kDu, bDu, gDu⟩ := cDu.ex
  obtain ⟨fCO, dCO, GCO, kCO, bCO, gCO⟩ := cCO.ex
  obtain ⟨fCT, dCT, GCT, kCT, bCT, gCT⟩ := cCT.ex
  obtain ⟨fLO, dLO, GLO, kLO, bLO, gLO⟩ := cLO.ex
  obtain ⟨fN, dN, GN, kN, bN, gN⟩ := cN.ex
  clear cB cT cNL cNT cTo cDu cCO cCT cLO cN
  obtain ⟨u1, gl1, rl1⟩ := T.l1
  obtain ⟨u2, gl2, rl2⟩ := T.l2
  obtain ⟨u3, gl3, rl3⟩ := T.l3
  refine F.ok scL (fun vs H Q E h => ?_) (fun cdv A outer s H vs Q E hr h => ?_)
  · obtain ⟨a, ns, rfl, _⟩ := h
    rfl
  · obtain ⟨a, ns, rfl, hS, hlen, q⟩ := h
    have hr1 : Room 1 _ := hr.mono (by decide)
    have hr2 : Room 2 _ := hr.mono (by decide)
    refine ⟨_, (pss_cons (ps_set (i := 1) scL.nd rfl (.inl rfl) (pe_call GB hr1 (by rfl) gB kB bB .nil pass0 (pa_cons (pv 0) pa_nil)))
      (pss_cons (ps_if (pt_cmpR (op_neD hr.units) (pe_tup (pa_cons (pe_glob (v := .int 4) (by rfl) gl1 rl1) (pa_cons (pe_glob (v := .int 16) (by rfl) gl2 rl2) (pa_cons (pe_glob (v := .int 256) (by rfl) gl3 rl3) pa_nil)))) (pe_tup (pa_cons (pe_int) (pa_cons (pe_int) (pa_cons (pe_int) pa_nil)))) (nomark _)) (pss_one (ps_ret (pe_bl))) pss_nil)
      (pss_cons (ps_for PassesOwn.never rfl (pi_range1 rfl T.range (pa_cons pe_int pa_nil)) (pg_name (i := 2) scL.nd rfl (.inl rfl)) (pss_cons (ps_set (i := 3) scL.nd rfl (.inl rfl) (pe_lst pa_nil))
      (pss_cons (ps_set (i := 4) scL.nd rfl (.inl rfl) (pe_call GT hr1 (by rfl) gT kT bT .nil pass0 (pa_cons (pv 1) (pa_cons (pe_int) pa_nil))))
      (pss_cons (ps_for PassesOwn.never rfl (pi_range1 rfl T.range (pa_cons (pe_call GT hr1 (by rfl) gT kT bT .nil pass0 (pa_cons (pv 1) (pa_cons (pe_ifExp (pt_cmpR op_eq (pv 4) (pe_int) (nomark _)) pe_int pe_int) pa_nil))) pa_nil)) (pg_name (i := 5) scL.nd rfl (.inl rfl)) (Evl.pss_cut (ps_set (i := 6) scL.nd rfl (.inl rfl) (pe_ifExp (pt_cmpR op_eq (pv 4) (pe_int) (nomark _)) pe_str pe_str))
      (Evl.pss_cut (ps_set (i := 7) scL.nd rfl (.inl rfl) (pe_ifExp (pt_cmpR op_ne (pv 4) (pe_int) (nomark _)) (pe_tup (pa_cons (pe_int) (pa_cons (pe_int) (pa_cons (pe_int) (pa_cons (pe_int) (pa_cons (pe_int) (pa_cons (pe_int) pa_nil))))))) (pe_tup (pa_cons (pe_int) (pa_cons (pe_int) (pa_cons (pe_int) (pa_cons (pe_int) (pa_cons (pe_un un_neg pe_int) (pa_cons (pe_int) (pa_cons (pe_int) pa_nil))))))))))
      (pss_cons (ps_set (i := 8) scL.nd rfl (.inl rfl) (pe_ix ix_str (pv 6) (pe_call GT hr1 (by rfl) gT kT bT .nil pass0 (pa_cons (pv 1) (pa_cons (pe_callB call_len_str (by rfl) T.len PySem.boot_len (pa_cons (pv 6) pa_nil)) pa_nil))) (fun _ _ => rfl)))
      (pss_one (ps_if (PW.pt (pw_or (pt_cmpR op_ne (pv 4) (pe_int) (nomark _)) (pw_or1 (pt_cmpR op_notIn_sign (pv 8) (pe_call GNL hr1 (by rfl) gNL kNL bNL .nil pass0 (pa_cons (pv 3) pa_nil)) rfl)))) (pss_one (ps_expr (pe_bm PySem.F.plainAttrs_list PySem.F.slot_list_append PySem.F.type_list_append mt_append (pv 3) (pa_cons (pe_tup (pa_cons (pv 8) (pa_cons (pe_ix ix_tup (pv 7) (pe_call GT hr1 (by rfl) gT kT bT .nil pass0 (pa_cons (pv 1) (pa_cons (pe_callB call_len_seq (by rfl) T.len PySem.boot_len (pa_cons (pv 7) pa_nil)) pa_nil))) (fun _ _ => rfl)) pa_nil))) pa_nil)))) pss_nil))))))
      (pss_cons (ps_set (i := 3) scL.nd rfl (.inl rfl) (pe_callTy call_tuple_of (by rfl) T.tuple (by decide +kernel) (pa_cons (pv 3) pa_nil)))
      (pss_cons (ps_if (pt_cmpR op_ne (pe_call GTo hr (by rfl) gTo kTo bTo .nil pass0 (pa_cons (pv 3) pa_nil)) (pe_call GDu hr2 (by rfl) gDu kDu bDu .nil pass0 (pa_cons (pv 3) pa_nil)) (nomark _)) (pss_one (ps_ret (pe_bl))) pss_nil)
      (pss_cons (ps_set (i := 9) scL.nd rfl (.inl rfl) (pe_call GCO hr1 (by rfl) gCO kCO bCO .nil pass0 (pa_cons (pv 3) pa_nil)))
      (pss_one (ps_if (PW.pt (pw_or (pt_not (pt_val (pe_call GN hr1 (by rfl) gN kN bN .nil pass0 (pa_cons (pv 9) pa_nil)))) (pw_or (pt_cmpR op_ne (pv 9) (pe_call GCT hr1 (by rfl) gCT kCT bCT .nil pass0 (pa_cons (pv 3) pa_nil)) (nomark _)) (pw_or1 (pt_cmpR op_ne (pe_call GLO hr1 (by rfl) gLO kLO bLO .nil pass0 (pa_cons (pv 3) pa_nil)) (pe_call GNT hr1 (by rfl) gNT kNT bNT .nil pass0 (pa_cons (pv 3) pa_nil)) (nomark _)))))) (pss_one (ps_ret (pe_bl))) pss_nil)))))))))
      (pss_one (ps_ret (pe_and (pe_cmpR op_eq (pe_call GCO hr1 (by rfl) gCO kCO bCO .nil pass0 (pa_cons (pe_tup pa_nil) pa_nil)) (pe_int) (nomark _)) (pe_and (pe_cmpR op_eq (pe_call GLO hr1 (by rfl) gLO kLO bLO .nil pass0 (pa_cons (pe_tup pa_nil) pa_nil)) (pe_str) (nomark _)) (pe_one (pe_cmpR op_eq (pe_call GTo hr (by rfl) gTo kTo bTo .nil pass0 (pa_cons (pe_tup pa_nil) pa_nil)) (pe_str) (nomark _)))))))))), ?_⟩
    refine ⟨_, rfl, a, ns, rfl, hS, hlen, fun H1 d c sm1 nd nc dr => ?_⟩
    refine ⟨by show 3 ≤ sizeLine; decide, fun p1 n1 => ⟨by show 3 ≤ sizeLine; decide, fun p2 n2 => ?_⟩⟩
    have s1 := same_upd (o := .tup [.int 4, .int 16, .int 256]) n1
    have s2 := same_upd (o := .tup [.int 4, .int 16, .int 256]) n2
    refine ⟨_, _, Dp.tup (SqT.of (s2 _ _ upd_same)) (.cons (.int _) (.cons (.int _) (.cons (.int _) .nil))), Dp.tup (SqT.of upd_same) (.cons (.int _) (.cons (.int _) (.cons (.int _) .nil))), sh3, sh3, _, rfl, ?_⟩
    rw [eq3]
    refine iteF ?_
    replace dr := (dr.same s1).same s2
    clear sm1 nd nc s1 s2
    generalize upd (upd H1 p1 _) p2 _ = H2 at *
    refine ⟨4, rfl, by decide, by decide, for_range (lo := 0) (n := 4) (fun i σ H' => ∃ (v2 v3 v4 v5 v6 v7 v8 v9 : Option V), σ = [some (.ref a), some (.ref d), v2, v3, v4, v5, v6, v7, v8, v9] ∧ DrAt H' d c)
      ⟨_, _, _, _, _, _, _, _, rfl, dr⟩ ?_ ?_⟩
    · clear dr
      rintro turn σ H' hturn ⟨v2, v3, v4, v5, v6, v7, v8, v9, rfl, dr⟩
      refine ⟨Nat.zero_le _, fun p np => ?_⟩
      have hpd : p ≠ d := (ne_of_none dr.lst.choose_spec np).symm
      have hpc : p ≠ c := (ne_of_none dr.lstc.choose_spec np).symm
      refine ⟨_, rfl, d, c, 3, rfl, dr.upd _ hpd hpc, by decide, bnd30 (by decide), fun H3 wi k3 dr3 w0 w1 => ?_⟩
      have hp3 : H3 p = some (.lst []) := by rw [k3 p hpd, upd_same]
      refine ⟨_, rfl, _, rfl, rfl, _, rfl, ite_int fun m hm6 => ⟨d, c, m, rfl, dr3, by omega, bnd30 (by omega), fun H4 nn k4 dr4 n0 n1 => ?_⟩⟩
      have hp4 : H4 p = some (.lst []) := by rw [k4 p hpd]; exact hp3
      refine ⟨nn, rfl, by omega, by omega, for_range (lo := 0) (n := nn.toNat) (fun i σ H' => ∃ (ts : List Addr) (sh : Sh) (v5 v6 v7 v8 v9 : Option V), σ = [some (.ref a), some (.ref d), some (.int ((0 : Int) + turn)), some (.ref p), some (.int wi), v5, v6, v7, v8, v9] ∧
          DrAt H' d c ∧ H' p = some (.lst (ts.map V.ref)) ∧ Axes H' ts sh ∧ sh.length ≤ i ∧ Mod sh)
        ⟨[], [], _, _, _, _, _, rfl, dr4, hp4, Axes.nil, Nat.le_refl _, fun _ h => (by cases h)⟩ ?_ ?_⟩
      · clear dr3 dr4 hp3 hp4 k3 k4 np
        rintro i σ H5 hi ⟨ts, sh, v5, v6, v7, v8, v9, rfl, dr5, hp5, hx5, hl, hm⟩
        have hi5 : i < 6 := by omega
        refine ⟨fun σ' H'' => ∃ z : Str, σ' = [some (.ref a), some (.ref d), some (.int ((0 : Int) + turn)), some (.ref p), some (.int wi), some (.int ((0 : Int) + i)), some (.str z), v7, v8, v9] ∧ H'' = H5 ∧ (z = four ∨ z = alpha), ?_, ?_⟩
        · exact ⟨_, rfl, rfl, _, rfl, ite2 (fun _ => ⟨_, rfl, rfl, .inl rfl⟩) (fun _ => ⟨_, rfl, rfl, .inr rfl⟩)⟩
        · rintro σ' H'' ⟨z, rfl, rfl, hz⟩
          refine ⟨fun σ' H3 => ∃ (qq : Addr) (ns7 : List Int), σ' = [some (.ref a), some (.ref d), some (.int ((0 : Int) + turn)), some (.ref p), some (.int wi), some (.int ((0 : Int) + i)), some (.str z), some (.ref qq), v8, v9] ∧ Same H'' H3 ∧ H3 qq = some (.tup (ns7.map V.int)) ∧ (ns7 = szA ∨ ns7 = szB), ?_, ?_⟩
          · refine ⟨_, rfl, rfl, _, rfl, ite2 (fun _ => ⟨by show 6 ≤ sizeLine; decide, fun qq nq => ?_⟩) (fun _ => ⟨3, rfl, by show 7 ≤ sizeLine; decide, fun qq nq => ?_⟩)⟩
            · exact ⟨qq, szA, rfl, same_upd nq, upd_same, .inl rfl⟩
            · exact ⟨qq, szB, rfl, same_upd nq, upd_same, .inr rfl⟩
          · rintro σ' H6 ⟨qq, ns7, rfl, sm6, hq6, hns⟩
            have dr6 := dr5.same sm6
            have hp6 := sm6 _ _ hp5
            have hx6 := hx5.same sm6
            have hn7 : 0 < ns7.length ∧ ns7.length ≤ 7 := by rcases hns with rfl | rfl <;> decide
            have hmod : ∀ x ∈ ns7, -1000 ≤ x ∧ x ≤ 1000 := by rcases hns with rfl | rfl <;> decide
            have hzl : 0 < z.length ∧ z.length ≤ 26 := by rcases hz with rfl | rfl <;> decide +kernel
            refine ⟨_, rfl, _, rfl, _, rfl, z, rfl, small64 (by omega), d, c, _, rfl, dr6, by omega, bnd30 (by omega), fun H7 v k7 dr7 v0 v1 => ?_⟩
            obtain ⟨vn, rfl⟩ : ∃ vn : Nat, v = (vn : Int) := ⟨v.toNat, by omega⟩
            obtain ⟨ch, hch⟩ : ∃ ch, z.cps.toList[vn]? = some ch := by
              have hzz : z.cps.toList.length = z.length := Array.length_toList
              exact ⟨_, List.getElem?_eq_getElem (show vn < z.cps.toList.length by omega)⟩
            refine ⟨z, vn, ch, rfl, rfl, small64 (by omega), atI_nat hch, ?_⟩
            replace hq6 := k7.tup dr6 hq6
            replace hx6 := hx6.keep (fun b xs e => k7.tup dr6 e)
            replace hp6 : H7 p = some (.lst (ts.map V.ref)) := by rw [k7 p hpd]; exact hp6
            clear sm6 dr6 dr5 hp5 hx5 k7
            have dr6 := dr7
            clear dr7
            refine ⟨_, rfl, rfl, _, rfl, ?_⟩
            by_cases hw : wi = 0
            · subst hw
              refine iteF ⟨_, rfl, _, rfl, p, ts, sh, rfl, hp6, hx6, by omega, fun H8 sm8 => ⟨ch, lets sh, rfl, rfl, _, rfl, ite2 (fun _ => ?_) (fun _ => ?_)⟩⟩
              · replace hq6 := sm8 _ _ hq6
                replace hx6 := hx6.same sm8
                replace hp6 := sm8 _ _ hp6
                replace dr6 := dr6.same sm8
                clear sm8
                have t2 : 2 ≤ sizeLine := by decide
                refine ⟨_, rfl, .inl ⟨rfl, _, SqL.of hp6⟩, _, rfl, _, rfl, _, rfl, _, rfl, qq, _, rfl, .inr (SqT.of hq6), d, c, _, rfl, dr6, by rw [List.length_map]; omega, bnd30 (by rw [List.length_map]; omega), fun H7 v7 k7 dr7 v70 v71 => ?_⟩
                rw [List.length_map] at v71
                obtain ⟨vn, rfl⟩ : ∃ vn : Nat, v7 = (vn : Int) := ⟨v7.toNat, by omega⟩
                have hvn : vn < ns7.length := by omega
                have hnv : ns7[vn]? = some ns7[vn] := List.getElem?_eq_getElem hvn
                have hmv := hmod ns7[vn] (List.getElem_mem hvn)
                generalize ns7[vn] = sz at hnv hmv
                have hp7 : H7 p = some (.lst (ts.map V.ref)) := by rw [k7 p hpd]; exact hp6
                have hx7 := hx6.keep (fun b xs e => k7.tup dr6 e)
                refine ⟨qq, _, _, _, rfl, rfl, SqT.of (k7.tup dr6 hq6), atI_nat (by rw [List.getElem?_map, hnv]; rfl), t2, fun t nt => ?_⟩
                have s8 := same_upd (o := .tup [.str (one ch), .int sz]) nt
                have ntp : p ≠ t := ne_of_none hp7 nt
                refine ⟨p, _, _, rfl, rfl, s8 _ _ hp7, ?_, ?_⟩
                · rw [List.length_map, hx7.1]
                  exact small1000 (by omega)
                · refine ⟨ts ++ [t], sh ++ [(ch, sz)], _, _, _, _, _, rfl, (dr7.same s8).upd _ hpd hpc, ?_, ?_, ?_, ?_⟩
                  · rw [upd_same, List.map_append]
                    rfl
                  · refine ((hx7.same s8).snoc upd_same).keep fun b xs e => ?_
                    rw [upd_ne (ne_of e (s8 _ _ hp7) (fun w => nomatch w))]
                    exact e
                  · rw [List.length_append]
                    exact Nat.succ_le_succ hl
                  · intro x hxm
                    rcases List.mem_append.mp hxm with h | h
                    · exact hm x h
                    · rw [List.mem_singleton] at h
                      subst h
                      exact hmv
              · exact ⟨ts, sh, _, _, _, _, _, rfl, dr6.same sm8, sm8 _ _ hp6, hx6.same sm8, by omega, hm⟩
            · rw [decide_eq_false (fun e => hw (V.int.inj e))]
              refine iteT (iteT ?_)
              have t2 : 2 ≤ sizeLine := by decide
              refine ⟨_, rfl, .inl ⟨rfl, _, SqL.of hp6⟩, _, rfl, _, rfl, _, rfl, _, rfl, qq, _, rfl, .inr (SqT.of hq6), d, c, _, rfl, dr6, by rw [List.length_map]; omega, bnd30 (by rw [List.length_map]; omega), fun H7 v7 k7 dr7 v70 v71 => ?_⟩
              rw [List.length_map] at v71
              obtain ⟨vn, rfl⟩ : ∃ vn : Nat, v7 = (vn : Int) := ⟨v7.toNat, by omega⟩
              have hvn : vn < ns7.length := by omega
              have hnv : ns7[vn]? = some ns7[vn] := List.getElem?_eq_getElem hvn
              have hmv := hmod ns7[vn] (List.getElem_mem hvn)
              generalize ns7[vn] = sz at hnv hmv
              have hp7 : H7 p = some (.lst (ts.map V.ref)) := by rw [k7 p hpd]; exact hp6
              have hx7 := hx6.keep (fun b xs e => k7.tup dr6 e)
              refine ⟨qq, _, _, _, rfl, rfl, SqT.of (k7.tup dr6 hq6), atI_nat (by rw [List.getElem?_map, hnv]; rfl), t2, fun t nt => ?_⟩
              have s8 := same_upd (o := .tup [.str (one ch), .int sz]) nt
              have ntp : p ≠ t := ne_of_none hp7 nt
              refine ⟨p, _, _, rfl, rfl, s8 _ _ hp7, ?_, ?_⟩
              · rw [List.length_map, hx7.1]
                exact small1000 (by omega)
              · refine ⟨ts ++ [t], sh ++ [(ch, sz)], _, _, _, _, _, rfl, (dr7.same s8).upd _ hpd hpc, ?_, ?_, ?_, ?_⟩
                · rw [upd_same, List.map_append]
                  rfl
                · refine ((hx7.same s8).snoc upd_same).keep fun b xs e => ?_
                  rw [upd_ne (ne_of e (s8 _ _ hp7) (fun w => nomatch w))]
                  exact e
                · rw [List.length_append]
                  exact Nat.succ_le_succ hl
                · intro x hxm
                  rcases List.mem_append.mp hxm with h | h
                  · exact hm x h
                  · rw [List.mem_singleton] at h
                    subst h
                    exact hmv
      · rintro σ H5 ⟨ts, sh, v5, v6, v7, v8, v9, rfl, dr5, hp5, hx5, hl, hm⟩
        clear dr hp4 hp3 dr3 dr4
        have hl5 : sh.length ≤ 5 := by omega
        refine ⟨_, rfl, p, _, rfl, .inl ⟨SqL.of hp5, fun l nl => ?_⟩⟩
        have hS : ShT K (upd H5 l (.tup (ts.map V.ref))) l sh := ⟨ts, upd_same, hx5.same (same_upd nl)⟩
        have dr6 := dr5.same (same_upd (o := .tup (ts.map V.ref)) nl)
        clear hp5 hx5 dr5 hl
        generalize upd H5 l (.tup (ts.map V.ref)) = H6 at *
        refine ⟨_, rfl, l, sh, rfl, hS, by omega, hm, fun H7 s7 => ⟨_, rfl, l, sh, rfl, hS.same s7, by omega, hm, fun H8 s8 => ?_⟩⟩
        refine ⟨rfl, _, rfl, ?_⟩
        rw [decide_eq_true rfl]
        refine iteF ⟨_, rfl, l, sh, rfl, (hS.same s7).same s8, hm, ?_⟩
        have hS8 := (hS.same s7).same s8
        have dr8 := (dr6.same s7).same s8
        clear hS dr6 s7 s8
        refine ⟨_, rfl, _, rfl, _, rfl, iteF ⟨_, rfl, _, rfl, l, sh, rfl, hS8, hm, rfl, _, rfl, ?_⟩⟩
        rw [decide_eq_true rfl]
        refine iteF ⟨_, rfl, l, sh, rfl, hS8, by omega, fun H9 s9 => ⟨_, rfl, l, sh, rfl, hS8.same s9, by omega, fun H10 s10 => ⟨rfl, _, rfl, ?_⟩⟩⟩
        rw [decide_eq_true rfl]
        refine iteF ?_
        exact ⟨_, _, _, _, _, _, _, _, rfl, (dr8.same s9).same s10⟩
    · rintro σ H5 ⟨v2, v3, v4, v5, v6, v7, v8, v9, rfl, dr5⟩
      clear dr dr5
      refine ⟨Nat.zero_le _, fun p1 n1 => ⟨p1, [], rfl, .nil, fun _ h => (by cases h), rfl, ?_⟩⟩
      refine ⟨_, rfl, iteT ⟨Nat.zero_le _, fun p2 n2 => ⟨p2, [], rfl, .nil, Nat.zero_le _, fun H6 s6 => ⟨rfl, _, rfl, ?_⟩⟩⟩⟩
      refine iteT ⟨Nat.zero_le _, fun p3 n3 => ⟨p3, [], rfl, .nil, Nat.zero_le _, fun _ h => (by cases h), fun H7 s7 => ⟨rfl, ?_⟩⟩⟩
      exact q _
end
/-! ### what the top has written, the head -/
theorem all_mk {l : PySem.W.OpenLaw} {w : World} {K : PySem.W.Frag} {h : Heap} {mg : Str → Option Value} {fa f1 f2 f3 f4 f5 f6 f7 f8 f9 f10 f11 z1 z2 z3 z4 cT : Addr} (X : K.In h) (G : h.Ns mainGlobals mg) (hfa : mg "law" = some (.ref fa))
    {od1 an1 od2 an2 od3 an3 od4 an4 od5 an5 od6 an6 od7 an7 od8 an8 od9 an9 od10 an10 od11 an11 : Option Addr} {sl1 sl2 sl3 sl4 sl5 sl6 sl7 sl8 sl9 sl10 sl11 : Array (Option Value)} {oc1 kV1 dc1 pm1 cd1 ct1 oc2 kV2 dc2 pm2 cd2 ct2 oc3 kV3 dc3 pm3 cd3 ct3 oc4 kV4 dc4 pm4 cd4 ct4 oc5 kV5 dc5 pm5 cd5 ct5 oc6 kV6 dc6 pm6 cd6 ct6 oc7 kV7 dc7 pm7 cd7 ct7 oc8 kV8 dc8 pm8 cd8 ct8 oc9 kV9 dc9 pm9 cd9 ct9 oc10 kV10 dc10 pm10 cd10 ct10 oc11 kV11 dc11 pm11 cd11 ct11 : Value}
    {tk1 tk2 tk3 : Tok}
    (a1 : PySem.W.nsIn K mainGlobals "check_shape" = some (some (.ref f1))) (l1 : K.lookup f1 = some ⟨oc1, od1, .func (PySem.W.fnOf "check_shape" "check_shape" (defArgs sCheck) (defBody sCheck) (defScope sCheck) .none kV1 dc1 pm1 an1 cd1 ct1), sl1⟩) (c1 : PySem.W.codeIn K cd1 "check_shape" = true) (k1 : PySem.W.keepIn K (.ref f1) = true)
    (a2 : PySem.W.nsIn K mainGlobals "count_of" = some (some (.ref f2))) (l2 : K.lookup f2 = some ⟨oc2, od2, .func (PySem.W.fnOf "count_of" "count_of" (defArgs sCountOf) (defBody sCountOf) (defScope sCountOf) .none kV2 dc2 pm2 an2 cd2 ct2), sl2⟩) (c2 : PySem.W.codeIn K cd2 "count_of" = true) (k2 : PySem.W.keepIn K (.ref f2) = true)
    (a3 : PySem.W.nsIn K mainGlobals "letters_of" = some (some (.ref f3))) (l3 : K.lookup f3 = some ⟨oc3, od3, .func (PySem.W.fnOf "letters_of" "letters_of" (defArgs sLettersOf) (defBody sLettersOf) (defScope sLettersOf) .none kV3 dc3 pm3 an3 cd3 ct3), sl3⟩) (c3 : PySem.W.codeIn K cd3 "letters_of" = true) (k3 : PySem.W.keepIn K (.ref f3) = true)
    (a4 : PySem.W.nsIn K mainGlobals "_law_begin" = some (some (.ref f4))) (l4 : K.lookup f4 = some ⟨oc4, od4, .func (PySem.W.fnOf "_law_begin" "_law_begin" (defArgs sBegin) (defBody sBegin) (defScope sBegin) .none kV4 dc4 pm4 an4 cd4 ct4), sl4⟩) (c4 : PySem.W.codeIn K cd4 "_law_begin" = true) (k4 : PySem.W.keepIn K (.ref f4) = true)
    (a5 : PySem.W.nsIn K mainGlobals "_law_take" = some (some (.ref f5))) (l5 : K.lookup f5 = some ⟨oc5, od5, .func (PySem.W.fnOf "_law_take" "_law_take" (defArgs sTake) (defBody sTake) (defScope sTake) .none kV5 dc5 pm5 an5 cd5 ct5), sl5⟩) (c5 : PySem.W.codeIn K cd5 "_law_take" = true) (k5 : PySem.W.keepIn K (.ref f5) = true)
    (a6 : PySem.W.nsIn K mainGlobals "_law_int" = some (some (.ref f6))) (l6 : K.lookup f6 = some ⟨oc6, od6, .func (PySem.W.fnOf "_law_int" "_law_int" (defArgs sInt) (defBody sInt) (defScope sInt) .none kV6 dc6 pm6 an6 cd6 ct6), sl6⟩) (c6 : PySem.W.codeIn K cd6 "_law_int" = true) (k6 : PySem.W.keepIn K (.ref f6) = true)
    (a7 : PySem.W.nsIn K mainGlobals "_law_count" = some (some (.ref f7))) (l7 : K.lookup f7 = some ⟨oc7, od7, .func (PySem.W.fnOf "_law_count" "_law_count" (defArgs sCount) (defBody sCount) (defScope sCount) .none kV7 dc7 pm7 an7 cd7 ct7), sl7⟩) (c7 : PySem.W.codeIn K cd7 "_law_count" = true) (k7 : PySem.W.keepIn K (.ref f7) = true)
    (a8 : PySem.W.nsIn K mainGlobals "_law_names" = some (some (.ref f8))) (l8 : K.lookup f8 = some ⟨oc8, od8, .func (PySem.W.fnOf "_law_names" "_law_names" (defArgs sNames) (defBody sNames) (defScope sNames) .none kV8 dc8 pm8 an8 cd8 ct8), sl8⟩) (c8 : PySem.W.codeIn K cd8 "_law_names" = true) (k8 : PySem.W.keepIn K (.ref f8) = true)
    (a9 : PySem.W.nsIn K mainGlobals "_law_told" = some (some (.ref f9))) (l9 : K.lookup f9 = some ⟨oc9, od9, .func (PySem.W.fnOf "_law_told" "_law_told" (defArgs sTold) (defBody sTold) (defScope sTold) .none kV9 dc9 pm9 an9 cd9 ct9), sl9⟩) (c9 : PySem.W.codeIn K cd9 "_law_told" = true) (k9 : PySem.W.keepIn K (.ref f9) = true)
    (a10 : PySem.W.nsIn K mainGlobals "_law_due" = some (some (.ref f10))) (l10 : K.lookup f10 = some ⟨oc10, od10, .func (PySem.W.fnOf "_law_due" "_law_due" (defArgs sDue) (defBody sDue) (defScope sDue) .none kV10 dc10 pm10 an10 cd10 ct10), sl10⟩) (c10 : PySem.W.codeIn K cd10 "_law_due" = true) (k10 : PySem.W.keepIn K (.ref f10) = true)
    (a11 : PySem.W.nsIn K mainGlobals "law" = some (some (.ref f11))) (l11 : K.lookup f11 = some ⟨oc11, od11, .func (PySem.W.fnOf "law" "law" (defArgs sLaw) (defBody sLaw) (defScope sLaw) .none kV11 dc11 pm11 an11 cd11 ct11), sl11⟩) (c11 : PySem.W.codeIn K cd11 "law" = true) (k11 : PySem.W.keepIn K (.ref f11) = true)
    (aEz1 : PySem.W.nsIn K mainGlobals "RankError" = some (some (.ref z1)))
    (kEz1 : PySem.W.keepIn K (.ref z1) = true)
    (bEz1 : PySem.W.subIn K (.ref z1) (.type "BaseException") = some true)
    (tEz1 : PySem.W.typeIn K (.ref z1) = some (.type "type"))
    (hEz1 : PySem.W.hasDictIn K z1 = true)
    (aEz2 : PySem.W.nsIn K mainGlobals "AxisError" = some (some (.ref z2)))
    (kEz2 : PySem.W.keepIn K (.ref z2) = true)
    (bEz2 : PySem.W.subIn K (.ref z2) (.type "BaseException") = some true)
    (tEz2 : PySem.W.typeIn K (.ref z2) = some (.type "type"))
    (hEz2 : PySem.W.hasDictIn K z2 = true)
    (aEz3 : PySem.W.nsIn K mainGlobals "RangeError" = some (some (.ref z3)))
    (kEz3 : PySem.W.keepIn K (.ref z3) = true)
    (bEz3 : PySem.W.subIn K (.ref z3) (.type "BaseException") = some true)
    (tEz3 : PySem.W.typeIn K (.ref z3) = some (.type "type"))
    (hEz3 : PySem.W.hasDictIn K z3 = true)
    (aEz4 : PySem.W.nsIn K mainGlobals "TooLarge" = some (some (.ref z4)))
    (kEz4 : PySem.W.keepIn K (.ref z4) = true)
    (bEz4 : PySem.W.subIn K (.ref z4) (.type "BaseException") = some true)
    (tEz4 : PySem.W.typeIn K (.ref z4) = some (.type "type"))
    (hEz4 : PySem.W.hasDictIn K z4 = true)
    (aEcT : PySem.W.nsIn K mainGlobals "TensorError" = some (some (.ref cT)))
    (kEcT : PySem.W.keepIn K (.ref cT) = true)
    (bEcT : PySem.W.subIn K (.ref cT) (.type "BaseException") = some true)
    (tEcT : PySem.W.typeIn K (.ref cT) = some (.type "type"))
    (hEcT : PySem.W.hasDictIn K cT = true)
    (xz1 : PySem.W.excIn K z1 valErr "ValueError.__new__" = true)
    (sTz1 : PySem.W.subIn K (.ref z1) (.ref cT) = some true)
    (i1z1 : PySem.W.findIn K (.ref z1) "__getattribute__" = some (some (.builtin "BaseException.__getattribute__")))
    (i2z1 : PySem.W.findIn K (.ref z1) "__getattr__" = some none)
    (i3z1 : PySem.W.findIn K (.ref z1) "__class__" = some (some (.builtin "object.__class__")))
    (i6z1 : PySem.W.mroIn K z1 (.type "object") = some true)
    (sz1z1 : PySem.W.subIn K (.ref z1) (.ref z1) = some true)
    (sz1z2 : PySem.W.subIn K (.ref z1) (.ref z2) = some false)
    (sz1z3 : PySem.W.subIn K (.ref z1) (.ref z3) = some false)
    (sz1z4 : PySem.W.subIn K (.ref z1) (.ref z4) = some false)
    (xz2 : PySem.W.excIn K z2 valErr "ValueError.__new__" = true)
    (sTz2 : PySem.W.subIn K (.ref z2) (.ref cT) = some true)
    (i1z2 : PySem.W.findIn K (.ref z2) "__getattribute__" = some (some (.builtin "BaseException.__getattribute__")))
    (i2z2 : PySem.W.findIn K (.ref z2) "__getattr__" = some none)
    (i3z2 : PySem.W.findIn K (.ref z2) "__class__" = some (some (.builtin "object.__class__")))
    (i6z2 : PySem.W.mroIn K z2 (.type "object") = some true)
    (sz2z1 : PySem.W.subIn K (.ref z2) (.ref z1) = some false)
    (sz2z2 : PySem.W.subIn K (.ref z2) (.ref z2) = some true)
    (sz2z3 : PySem.W.subIn K (.ref z2) (.ref z3) = some false)
    (sz2z4 : PySem.W.subIn K (.ref z2) (.ref z4) = some false)
    (xz3 : PySem.W.excIn K z3 valErr "ValueError.__new__" = true)
    (sTz3 : PySem.W.subIn K (.ref z3) (.ref cT) = some true)
    (i1z3 : PySem.W.findIn K (.ref z3) "__getattribute__" = some (some (.builtin "BaseException.__getattribute__")))
    (i2z3 : PySem.W.findIn K (.ref z3) "__getattr__" = some none)
    (i3z3 : PySem.W.findIn K (.ref z3) "__class__" = some (some (.builtin "object.__class__")))
    (i6z3 : PySem.W.mroIn K z3 (.type "object") = some true)
    (sz3z1 : PySem.W.subIn K (.ref z3) (.ref z1) = some false)
    (sz3z2 : PySem.W.subIn K (.ref z3) (.ref z2) = some false)
    (sz3z3 : PySem.W.subIn K (.ref z3) (.ref z3) = some true)
    (sz3z4 : PySem.W.subIn K (.ref z3) (.ref z4) = some false)
    (xz4 : PySem.W.excIn K z4 valErr "ValueError.__new__" = true)
    (sTz4 : PySem.W.subIn K (.ref z4) (.ref cT) = some true)
    (i1z4 : PySem.W.findIn K (.ref z4) "__getattribute__" = some (some (.builtin "BaseException.__getattribute__")))
    (i2z4 : PySem.W.findIn K (.ref z4) "__getattr__" = some none)
    (i3z4 : PySem.W.findIn K (.ref z4) "__class__" = some (some (.builtin "object.__class__")))
    (i6z4 : PySem.W.mroIn K z4 (.type "object") = some true)
    (sz4z1 : PySem.W.subIn K (.ref z4) (.ref z1) = some false)
    (sz4z2 : PySem.W.subIn K (.ref z4) (.ref z2) = some false)
    (sz4z3 : PySem.W.subIn K (.ref z4) (.ref z3) = some false)
    (sz4z4 : PySem.W.subIn K (.ref z4) (.ref z4) = some true)
    (i4 : PySem.W.specialIn K (.builtin "object.__class__") "__get__" = some (some (.builtin "getset_descriptor.__get__")))
    (i5 : PySem.W.takesIn K (.builtin "object.__class__") = some true)
    (e1 : PySem.W.nsIn K mainGlobals "RANK_LIMIT" = some (some (.int 4 tk1)))
    (e2 : PySem.W.nsIn K mainGlobals "SIZE_LIMIT" = some (some (.int 16 tk2)))
    (e3 : PySem.W.nsIn K mainGlobals "COUNT_LIMIT" = some (some (.int 256 tk3)))
    (z_int : PySem.W.nsIn K mainGlobals "int" = some none)
    (z_abs : PySem.W.nsIn K mainGlobals "abs" = some none)
    (z_len : PySem.W.nsIn K mainGlobals "len" = some none)
    (z_list : PySem.W.nsIn K mainGlobals "list" = some none)
    (z_tuple : PySem.W.nsIn K mainGlobals "tuple" = some none)
    (z_range : PySem.W.nsIn K mainGlobals "range" = some none)
    (z_isinstance : PySem.W.nsIn K mainGlobals "isinstance" = some none)
    (z_bool : PySem.W.nsIn K mainGlobals "bool" = some none)
    (z_set : PySem.W.nsIn K mainGlobals "set" = some none)
    : ∃ fd : FuncData, (∀ (s : Shared) (v : Value), BindsTo s fd ⟨[v], []⟩ [("script", v)]) ∧ ∀ base : Heap, K.In base → base.Ns mainGlobals mg → FnOk l.prog w K mg base CX0 4 fa fd ["script"] (spLaw K) := by
  have e := hfa.symm.trans (PySem.W.mg_of X G a11)
  cases e
  have F1 := fun_mk (st := sCheck) l1 c1 k1
  have m1 := PySem.W.mg_of X G a1
  have b1 := F1.binds (ps := ["shape"]) fun _ _ _ _ _ _ us hl => match us, hl with | [_], _ => rfl
  have F2 := fun_mk (st := sCountOf) l2 c2 k2
  have m2 := PySem.W.mg_of X G a2
  have b2 := F2.binds (ps := ["shape"]) fun _ _ _ _ _ _ us hl => match us, hl with | [_], _ => rfl
  have F3 := fun_mk (st := sLettersOf) l3 c3 k3
  have m3 := PySem.W.mg_of X G a3
  have b3 := F3.binds (ps := ["shape"]) fun _ _ _ _ _ _ us hl => match us, hl with | [_], _ => rfl
  have F4 := fun_mk (st := sBegin) l4 c4 k4
  have m4 := PySem.W.mg_of X G a4
  have b4 := F4.binds (ps := ["script"]) fun _ _ _ _ _ _ us hl => match us, hl with | [_], _ => rfl
  have F5 := fun_mk (st := sTake) l5 c5 k5
  have m5 := PySem.W.mg_of X G a5
  have b5 := F5.binds (ps := ["d", "many"]) fun _ _ _ _ _ _ us hl => match us, hl with | [_, _], _ => rfl
  have F6 := fun_mk (st := sInt) l6 c6 k6
  have m6 := PySem.W.mg_of X G a6
  have b6 := F6.binds (ps := ["actual"]) fun _ _ _ _ _ _ us hl => match us, hl with | [_], _ => rfl
  have F7 := fun_mk (st := sCount) l7 c7 k7
  have m7 := PySem.W.mg_of X G a7
  have b7 := F7.binds (ps := ["shape"]) fun _ _ _ _ _ _ us hl => match us, hl with | [_], _ => rfl
  have F8 := fun_mk (st := sNames) l8 c8 k8
  have m8 := PySem.W.mg_of X G a8
  have b8 := F8.binds (ps := ["shape"]) fun _ _ _ _ _ _ us hl => match us, hl with | [_], _ => rfl
  have F9 := fun_mk (st := sTold) l9 c9 k9
  have m9 := PySem.W.mg_of X G a9
  have b9 := F9.binds (ps := ["shape"]) fun _ _ _ _ _ _ us hl => match us, hl with | [_], _ => rfl
  have F10 := fun_mk (st := sDue) l10 c10 k10
  have m10 := PySem.W.mg_of X G a10
  have b10 := F10.binds (ps := ["shape"]) fun _ _ _ _ _ _ us hl => match us, hl with | [_], _ => rfl
  have F11 := fun_mk (st := sLaw) l11 c11 k11
  have m11 := PySem.W.mg_of X G a11
  have n_int := PySem.W.mg_none_of X G z_int
  have n_abs := PySem.W.mg_none_of X G z_abs
  have n_len := PySem.W.mg_none_of X G z_len
  have n_list := PySem.W.mg_none_of X G z_list
  have n_tuple := PySem.W.mg_none_of X G z_tuple
  have n_range := PySem.W.mg_none_of X G z_range
  have n_isinstance := PySem.W.mg_none_of X G z_isinstance
  have n_bool := PySem.W.mg_none_of X G z_bool
  have n_set := PySem.W.mg_none_of X G z_set
  have TD : TxtD mg := ⟨n_int, n_abs, n_len, n_list⟩
  have L1 : ∃ u, mg "RANK_LIMIT" = some u ∧ RelV (.int 4) u := ⟨_, PySem.W.mg_of X G e1, _, rfl⟩
  have L2' : ∃ u, mg "SIZE_LIMIT" = some u ∧ RelV (.int 16) u := ⟨_, PySem.W.mg_of X G e2, _, rfl⟩
  have L3 : ∃ u, mg "COUNT_LIMIT" = some u ∧ RelV (.int 256) u := ⟨_, PySem.W.mg_of X G e3, _, rfl⟩
  have T : Txt mg := ⟨TD, n_tuple, n_range, n_isinstance, n_bool, L1, L2', L3⟩
  have Rz1 : ErrR K mg "RankError" z1 := ⟨PySem.W.mg_of X G aEz1, xz1, kEz1, bEz1, tEz1⟩
  have Rz2 : ErrR K mg "AxisError" z2 := ⟨PySem.W.mg_of X G aEz2, xz2, kEz2, bEz2, tEz2⟩
  have Rz3 : ErrR K mg "RangeError" z3 := ⟨PySem.W.mg_of X G aEz3, xz3, kEz3, bEz3, tEz3⟩
  have Rz4 : ErrR K mg "TooLarge" z4 := ⟨PySem.W.mg_of X G aEz4, xz4, kEz4, bEz4, tEz4⟩
  let C : Nat → Addr := fun k => match k with | 1 => z1 | 2 => z2 | 3 => z3 | _ => z4
  have RS : ErrS K mg C := ⟨Rz1, Rz2, Rz3, Rz4, n_len, n_set, L1, L2', L3⟩
  have ET : ErrT K mg C cT := ⟨RS, ⟨PySem.W.mg_of X G aEcT, bEcT, hEcT, tEcT⟩, n_isinstance, sTz1, ⟨i1z1, i2z1, bEz1, hEz1, i3z1, i4, i5, i6z1⟩, sTz2, ⟨i1z2, i2z2, bEz2, hEz2, i3z2, i4, i5, i6z2⟩, sTz3, ⟨i1z3, i2z3, bEz3, hEz3, i3z3, i4, i5, i6z3⟩, sTz4, ⟨i1z4, i2z4, bEz4, hEz4, i3z4, i4, i5, i6z4⟩, kit_rr sz1z1 sz1z1 hEz1 tEz1, kit_rr sz1z2 sz1z1 hEz2 tEz2, kit_rr sz1z3 sz1z1 hEz3 tEz3, kit_rr sz1z4 sz1z1 hEz4 tEz4, kit_rr sz2z1 sz2z2 hEz1 tEz1, kit_rr sz2z2 sz2z2 hEz2 tEz2, kit_rr sz2z3 sz2z2 hEz3 tEz3, kit_rr sz2z4 sz2z2 hEz4 tEz4, kit_rr sz3z1 sz3z3 hEz1 tEz1, kit_rr sz3z2 sz3z3 hEz2 tEz2, kit_rr sz3z3 sz3z3 hEz3 tEz3, kit_rr sz3z4 sz3z3 hEz4 tEz4, kit_rr sz4z1 sz4z4 hEz1 tEz1, kit_rr sz4z2 sz4z4 hEz2 tEz2, kit_rr sz4z3 sz4z4 hEz3 tEz3, kit_rr sz4z4 sz4z4 hEz4 tEz4⟩
  refine ⟨PySem.W.fnOf "law" "law" (defArgs sLaw) (defBody sLaw) (defScope sLaw) .none kV11 dc11 pm11 an11 cd11 ct11, fun s v => .of_eq rfl, fun base _ _ => ?_⟩
  have gCO : FnOk l.prog w K mg base CX0 1 _ _ ["shape"] (spCountOf K) := ok_countOf F2
  have gLO : FnOk l.prog w K mg base CX0 1 _ _ ["shape"] (spLettersOf K) := ok_lettersOf F3
  have gCK : FnOk l.prog w K mg base (L2.CX l.prog w) 2 _ _ ["shape"] (spCheck K C) := ok_check F1 RS gLO k3 b3 m3 gCO k2 b2 m2
  have gB : FnOk l.prog w K mg base CX0 1 _ _ ["script"] (spBegin K) := ok_begin F4 TD
  have gT : FnOk l.prog w K mg base CX0 1 _ _ ["d", "many"] spTake := ok_take F5 TD
  have gN : FnOk l.prog w K mg base CX0 1 _ _ ["actual"] spInt := ok_int F6 n_isinstance n_int n_bool
  have gCT : FnOk l.prog w K mg base CX0 1 _ _ ["shape"] (spCountT K) := ok_countT F7
  have gNT : FnOk l.prog w K mg base CX0 1 _ _ ["shape"] (spNamesT K) := ok_namesT F8
  have gNL : FnOk l.prog w K mg base CX0 1 _ _ ["shape"] (spNamesL K) := ok_namesL F8
  have gTo : FnOk l.prog w K mg base CX0 3 _ _ ["shape"] (spTold K) := ok_told F9 ET gCK k1 b1 m1
  have gDu : FnOk l.prog w K mg base CX0 2 _ _ ["shape"] (spDue K) := ok_due F10 n_len n_range gNT k8 b8 m8 gCT k7 b7 m7
  exact ok_law F11 T ⟨_, _, gB, k4, b4, m4⟩ ⟨_, _, gT, k5, b5, m5⟩ ⟨_, _, gNL, k8, b8, m8⟩ ⟨_, _, gNT, k8, b8, m8⟩ ⟨_, _, gTo, k9, b9, m9⟩ ⟨_, _, gDu, k10, b10, m10⟩ ⟨_, _, gCO, k2, b2, m2⟩ ⟨_, _, gCT, k7, b7, m7⟩ ⟨_, _, gLO, k3, b3, m3⟩ ⟨_, _, gN, k6, b6, m6⟩
end My
open PySem PySem.W PyProof.Rows
set_option maxRecDepth 100000 in
set_option maxHeartbeats 0 in
theorem PySem.Challenge.cw_tensorcompiler_k03_shapes_are_checked_holds : PySem.Challenge.rw_tensorcompiler_k03_shapes_are_checked.Holds := by
  w_on; o_law; k_head; (case hw => w_witness2)
  k_fill
  refine L2.walk_of (l := PySem.Challenge.rw_tensorcompiler_k03_shapes_are_checked) (n := 63) (k := 4) (x := "script") (CX := fun _ => L2.CX0) (sp := fun w => My.spLaw _) rfl (by decide) rfl ⟨rfl, by decide, by decide⟩ (fun w h Y => PySem.W.kIn_of Y) ?F (fun _ _ a ns hl _ hS => ⟨a, ns, rfl, hS, hl, fun _ => rfl⟩) (fun _ _ _ _ _ h => h)
  case F =>
    intro w mg fa h KX G hmg
    refine' My.all_mk KX G hmg ?a1 ?l1 ?c1 ?k1 ?a2 ?l2 ?c2 ?k2 ?a3 ?l3 ?c3 ?k3 ?a4 ?l4 ?c4 ?k4 ?a5 ?l5 ?c5 ?k5 ?a6 ?l6 ?c6 ?k6 ?a7 ?l7 ?c7 ?k7 ?a8 ?l8 ?c8 ?k8 ?a9 ?l9 ?c9 ?k9 ?a10 ?l10 ?c10 ?k10 ?a11 ?l11 ?c11 ?k11 ?aEz1 ?kEz1 ?bEz1 ?tEz1 ?hEz1 ?aEz2 ?kEz2 ?bEz2 ?tEz2 ?hEz2 ?aEz3 ?kEz3 ?bEz3 ?tEz3 ?hEz3 ?aEz4 ?kEz4 ?bEz4 ?tEz4 ?hEz4 ?aEcT ?kEcT ?bEcT ?tEcT ?hEcT ?xz1 ?sTz1 ?i1z1 ?i2z1 ?i3z1 ?i6z1 ?sz1z1 ?sz1z2 ?sz1z3 ?sz1z4 ?xz2 ?sTz2 ?i1z2 ?i2z2 ?i3z2 ?i6z2 ?sz2z1 ?sz2z2 ?sz2z3 ?sz2z4 ?xz3 ?sTz3 ?i1z3 ?i2z3 ?i3z3 ?i6z3 ?sz3z1 ?sz3z2 ?sz3z3 ?sz3z4 ?xz4 ?sTz4 ?i1z4 ?i2z4 ?i3z4 ?i6z4 ?sz4z1 ?sz4z2 ?sz4z3 ?sz4z4 ?i4 ?i5 ?e1 ?e2 ?e3 ?z_int ?z_abs ?z_len ?z_list ?z_tuple ?z_range ?z_isinstance ?z_bool ?z_set
    (case a1 => k_is); (case l1 => k_is); (case c1 => k_is); (case k1 => k_is); (case a2 => k_is); (case l2 => k_is); (case c2 => k_is); (case k2 => k_is); (case a3 => k_is); (case l3 => k_is); (case c3 => k_is); (case k3 => k_is); (case a4 => k_is); (case l4 => k_is); (case c4 => k_is); (case k4 => k_is); (case a5 => k_is); (case l5 => k_is); (case c5 => k_is); (case k5 => k_is); (case a6 => k_is); (case l6 => k_is); (case c6 => k_is); (case k6 => k_is); (case a7 => k_is); (case l7 => k_is); (case c7 => k_is); (case k7 => k_is); (case a8 => k_is); (case l8 => k_is); (case c8 => k_is); (case k8 => k_is); (case a9 => k_is); (case l9 => k_is); (case c9 => k_is); (case k9 => k_is); (case a10 => k_is); (case l10 => k_is); (case c10 => k_is); (case k10 => k_is); (case a11 => k_is); (case l11 => k_is); (case c11 => k_is); (case k11 => k_is); (case aEz1 => k_is); (case kEz1 => k_is); (case bEz1 => k_is); (case tEz1 => k_is); (case hEz1 => k_is); (case aEz2 => k_is); (case kEz2 => k_is); (case bEz2 => k_is); (case tEz2 => k_is); (case hEz2 => k_is); (case aEz3 => k_is); (case kEz3 => k_is); (case bEz3 => k_is); (case tEz3 => k_is); (case hEz3 => k_is); (case aEz4 => k_is); (case kEz4 => k_is); (case bEz4 => k_is); (case tEz4 => k_is); (case hEz4 => k_is); (case aEcT => k_is); (case kEcT => k_is); (case bEcT => k_is); (case tEcT => k_is); (case hEcT => k_is); (case xz1 => k_exc); (case sTz1 => k_is); (case i1z1 => k_is); (case i2z1 => k_is); (case i3z1 => k_is); (case i6z1 => k_is); (case sz1z1 => first | rfl | k_is); (case sz1z2 => first | rfl | k_is); (case sz1z3 => first | rfl | k_is); (case sz1z4 => first | rfl | k_is); (case xz2 => k_exc); (case sTz2 => k_is); (case i1z2 => k_is); (case i2z2 => k_is); (case i3z2 => k_is); (case i6z2 => k_is); (case sz2z1 => first | rfl | k_is); (case sz2z2 => first | rfl | k_is); (case sz2z3 => first | rfl | k_is); (case sz2z4 => first | rfl | k_is); (case xz3 => k_exc); (case sTz3 => k_is); (case i1z3 => k_is); (case i2z3 => k_is); (case i3z3 => k_is); (case i6z3 => k_is); (case sz3z1 => first | rfl | k_is); (case sz3z2 => first | rfl | k_is); (case sz3z3 => first | rfl | k_is); (case sz3z4 => first | rfl | k_is); (case xz4 => k_exc); (case sTz4 => k_is); (case i1z4 => k_is); (case i2z4 => k_is); (case i3z4 => k_is); (case i6z4 => k_is); (case sz4z1 => first | rfl | k_is); (case sz4z2 => first | rfl | k_is); (case sz4z3 => first | rfl | k_is); (case sz4z4 => first | rfl | k_is); (case i4 => k_is); (case i5 => k_is); (case e1 => k_is); (case e2 => k_is); (case e3 => k_is); (case z_int => k_is); (case z_abs => k_is); (case z_len => k_is); (case z_list => k_is); (case z_tuple => k_is); (case z_range => k_is); (case z_isinstance => k_is); (case z_bool => k_is); (case z_set => k_is)
