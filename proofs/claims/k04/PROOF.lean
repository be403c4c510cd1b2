import PyProof.Rows.All
import Wide.All
import OpenK.AllK
import Wide.FinOn
import HandS.ForMost
import HandS.Wide
import HandS.Evl
import HandS.Exc
import HandS.ExcOwn
import HandS.TryOnly
import HandS.WordsExc
import HandS.ExcIs
import HandS.IsInst
import HandS.RaiseMore
import HandS.FStr
import HandS.Zip
import HandS.TupAny
import KE.KDictPairs
import PyProof.Rows.SetFrom
import PyProof.StrWalks
import PySem.Challenge.RW_tensorcompiler_k04_broadcast
set_option Elab.async false
set_option linter.all false
set_option maxRecDepth 100000
set_option maxHeartbeats 4000000
namespace My
open PySem L2
/-! ### the text -/
def topS (i : Nat) : Stmt := PySem.Challenge.pw_tensorcompiler_k04_broadcast.main.body.getD i (.Pass ⟨0, 0, 0, 0⟩)
abbrev sCheck : Stmt := topS 10
abbrev sCountOf : Stmt := topS 11
abbrev sLettersOf : Stmt := topS 12
abbrev sMerged : Stmt := topS 13
abbrev sBroad : Stmt := topS 14
abbrev sBegin : Stmt := topS 16
abbrev sTake : Stmt := topS 17
abbrev sCount : Stmt := topS 18
abbrev sSize : Stmt := topS 19
abbrev sCast : Stmt := topS 20
abbrev sTold : Stmt := topS 21
abbrev sDue : Stmt := topS 22
abbrev sShape : Stmt := topS 23
abbrev sLaw : Stmt := topS 24
/-! ### len(set(text)) -/
def one (c : Nat) : Str := ⟨#[c]⟩
/-- the signs met so far, each once -/
def met : List Nat → List Nat → List Nat
  | σ, [] => σ
  | σ, c :: r => met (if c ∈ σ then σ else σ ++ [c]) r
theorem met_take (l : List Nat) : ∀ (σ : List Nat) (i : Nat) (c : Nat), l[i]? = some c → met σ (l.take (i + 1)) = if c ∈ met σ (l.take i) then met σ (l.take i) else met σ (l.take i) ++ [c] := by
  induction l with
  | nil => intro σ i c h; simp at h
  | cons a l ih =>
    intro σ i c h
    cases i with
    | zero =>
      simp only [List.getElem?_cons_zero, Option.some.injEq] at h
      subst h
      rfl
    | succ i =>
      simp only [List.getElem?_cons_succ] at h
      exact ih _ i c h
theorem met_len : ∀ (l σ : List Nat), σ.length ≤ (met σ l).length ∧ (met σ l).length ≤ σ.length + l.length
  | [], σ => ⟨Nat.le_refl _, Nat.le_refl _⟩
  | c :: r, σ => by
    have ih := met_len r (if c ∈ σ then σ else σ ++ [c])
    show σ.length ≤ (met (if c ∈ σ then σ else σ ++ [c]) r).length ∧ (met (if c ∈ σ then σ else σ ++ [c]) r).length ≤ σ.length + (r.length + 1)
    by_cases g : c ∈ σ
    · rw [if_pos g] at ih ⊢
      omega
    · rw [if_neg g] at ih ⊢
      rw [List.length_append, List.length_singleton] at ih
      omega
/-- as many as there are signs: none twice -/
theorem met_all : ∀ (l σ : List Nat), σ.Nodup → ((met σ l).length = σ.length + l.length ↔ (σ ++ l).Nodup)
  | [], σ, h => by
    rw [List.append_nil]
    exact ⟨fun _ => h, fun _ => rfl⟩
  | c :: r, σ, h => by
    show (met (if c ∈ σ then σ else σ ++ [c]) r).length = σ.length + (r.length + 1) ↔ _
    by_cases g : c ∈ σ
    · rw [if_pos g]
      have := (met_len r σ).2
      constructor
      · intro e; omega
      · intro n
        exact absurd rfl ((List.nodup_append.mp n).2.2 c g c List.mem_cons_self)
    · rw [if_neg g]
      have hn : (σ ++ [c]).Nodup := by
        refine List.nodup_append.mpr ⟨h, by simp, fun x hx y hy e => ?_⟩
        rw [List.mem_singleton] at hy
        rw [e, hy] at hx
        exact g hx
      have ih := met_all r (σ ++ [c]) hn
      rw [List.length_append, List.length_singleton] at ih
      rw [show σ.length + (r.length + 1) = σ.length + 1 + r.length by omega, ih, List.append_assoc]
      rfl
section SetS
open PySem.Spec
variable {prog : Program} {ww : World} {AA : Around}
theorem set_loop {I S : Addr} {x : Str} {St : Nat → Heap → Prop} {R : Result → Shared → Prop} (Wk : Walks prog ww AA.in1 I [I] [I] x.cps.size (SignAt x) St) (hS : S ≠ I) (hb : x.cps.size + 1 < scanBound) :
    ∀ (k i : Nat) (s : Shared), x.cps.size - i = k → i ≤ x.cps.size → St i s.heap → s.heap.SetOf (strKind prog ww) S (fun z => decide (∃ c ∈ met [] (x.cps.toList.take i), z = one c)) (met [] (x.cps.toList.take i)).length →
      (∀ h' tk, (∀ b o, b ≠ S → b ≠ I → s.heap.get? b = some o → h'.get? b = some o) → h'.SetOf (strKind prog ww) S (fun z => decide (∃ c ∈ met [] x.cps.toList, z = one c)) (met [] x.cps.toList).length → R (.ok (.ret .none)) { s with heap := h', toks := tk }) →
      codeAny (model prog ww) AA (.builtin "set.update.loop" ⟨[.ref S, .ref I], []⟩) R s := by
  intro k
  induction k with
  | zero =>
    intro i s hk hi st hset hR
    have e : i = x.cps.size := by omega
    subst e
    refine codeAny_builtin PyProof.Rows.F.entry_set_update_loop ?_
    rw [Around.under_plainId PyProof.Rows.F.plain_set_update_loop _]
    refine wpAny_bind (Wk.done s _ _ st fun h' tk hm => wpAny_pure (hR h' tk (fun b o _ hI g => hm b o (fun z => hI (List.mem_singleton.mp z)) g) ?_))
    obtain ⟨o, es, ep, t, ho, r⟩ := hset
    rw [show x.cps.size = x.cps.toList.length from Array.length_toList.symm, List.take_length] at r
    exact ⟨o, es, ep, t, hm S o (fun z => hS (List.mem_singleton.mp z)) ho, r⟩
  | succ k ih =>
    intro i s hk hi st hset hR
    have hlt : i < x.cps.size := by omega
    refine codeAny_builtin PyProof.Rows.F.entry_set_update_loop ?_
    rw [Around.under_plainId PyProof.Rows.F.plain_set_update_loop _]
    refine wpAny_bind (Wk.item i s _ _ hlt st fun v h1 tk hv st1 hm => ?_)
    obtain ⟨c, u, hc, rfl⟩ := hv
    have hc2 : x.cps.toList[i]? = some c := by rw [Array.getElem?_toList]; exact hc
    have hset1 : h1.SetOf (strKind prog ww) S (fun z => decide (∃ c ∈ met [] (x.cps.toList.take i), z = one c)) (met [] (x.cps.toList.take i)).length := by
      obtain ⟨o, es, ep, t, ho, r⟩ := hset
      exact ⟨o, es, ep, t, hm S o (fun z => hS (List.mem_singleton.mp z)) ho, r⟩
    refine wpAny_bind (m := holding [Value.str (one c) u] (setAdd S (.str (one c) u))) (wpAny_holding ?_)
    unfold setAdd
    refine wpAny_holding (wpAny_bind ((strKind prog ww).pyHash (k := one c) (strKind_is _ _ _ _) ?_))
    have room : (met [] (x.cps.toList.take i)).length + 1 < scanBound := by
      have l0 := (met_len (x.cps.toList.take i) []).2
      have l1 : (x.cps.toList.take i).length ≤ x.cps.size := by
        rw [List.length_take, Array.length_toList]
        exact Nat.min_le_right _ _
      have l2 : ([] : List Nat).length = 0 := rfl
      omega
    refine wpAny_setAddHashed_of (knd := strKind prog ww) (strKind_is _ _ _ _) rfl hset1 room fun h2 sb hset2 => wpAny_pure ⟨plainId_quiet PyProof.Rows.F.plain_set_update_loop _, ?_⟩
    have inj : ∀ a b, one a = one b → a = b := fun a b e => by
      have := congrArg (fun z : Str => z.cps.toList) e
      exact (List.cons.inj this).1
    have key : ∀ l : List Nat, (decide (∃ a ∈ l, one c = one a)) = decide (c ∈ l) := fun l => by
      by_cases g : c ∈ l
      · rw [decide_eq_true g]; exact decide_eq_true ⟨c, g, rfl⟩
      · rw [decide_eq_false g]; exact decide_eq_false (fun ⟨a, ha, e⟩ => g (by rw [inj _ _ e]; exact ha))
    refine ih (i + 1) _ (by omega) hlt (Wk.frame _ _ _ st1 fun b hb o e => ?_) ?_ fun h3 tk3 hm3 hs3 => ?_
    · rw [sb.2 b (fun z => hS (by rw [← z]; exact List.mem_singleton.mp hb))]
      exact e
    · rw [met_take _ _ _ _ hc2]
      have hh := hset2
      simp only [key] at hh
      by_cases g : c ∈ met [] (x.cps.toList.take i)
      · rw [if_pos g]
        rw [decide_eq_true g, if_pos rfl] at hh
        have ef : (fun z => decide (∃ a ∈ met [] (x.cps.toList.take i), z = one a) || decide (z = one c)) = fun z => decide (∃ a ∈ met [] (x.cps.toList.take i), z = one a) := by
          funext z
          by_cases q : z = one c
          · rw [decide_eq_true q, decide_eq_true (show ∃ a ∈ met [] (x.cps.toList.take i), z = one a from ⟨c, g, q⟩)]; rfl
          · rw [decide_eq_false q, Bool.or_false]
        rw [ef] at hh
        exact hh
      · rw [if_neg g]
        rw [decide_eq_false g, if_neg Bool.false_ne_true] at hh
        have ef : (fun z => decide (∃ a ∈ met [] (x.cps.toList.take i), z = one a) || decide (z = one c)) = fun z => decide (∃ a ∈ met [] (x.cps.toList.take i) ++ [c], z = one a) := by
          funext z
          by_cases q : z = one c
          · rw [decide_eq_true q, Bool.or_true]; exact (decide_eq_true ⟨c, List.mem_append_right _ (List.mem_singleton.mpr rfl), q⟩).symm
          · rw [decide_eq_false q, Bool.or_false]
            by_cases p : ∃ a ∈ met [] (x.cps.toList.take i), z = one a
            · obtain ⟨a, ha, e⟩ := p
              rw [decide_eq_true (show ∃ a ∈ met [] (x.cps.toList.take i), z = one a from ⟨a, ha, e⟩)]
              exact (decide_eq_true ⟨a, List.mem_append_left _ ha, e⟩).symm
            · rw [decide_eq_false p]
              refine (decide_eq_false fun ⟨a, ha, e⟩ => ?_).symm
              rcases List.mem_append.mp ha with y | y
              · exact p ⟨a, y, e⟩
              · rw [List.mem_singleton] at y; exact q (by rw [e, y])
        rw [ef] at hh
        rw [List.length_append, List.length_singleton]
        exact hh
    · refine hR h3 tk3 (fun b o nS nI e => hm3 b o nS nI ?_) hs3
      rw [sb.2 b nS]
      exact hm b o (fun z => nI (List.mem_singleton.mp z)) e

theorem sub_str_set : isSubtype (.type "str") (.type "set") = pure false := by rw [isSubtype_type]; kernel_rfl
theorem sub_str_frz : isSubtype (.type "str") (.type "frozenset") = pure false := by rw [isSubtype_type]; kernel_rfl
variable {EE : Value → Shared → Prop} {ss : Shared}
set_option maxHeartbeats 8000000 in
theorem call_set_str {x : Str} {t : Tok} {Q : Value → Shared → Prop} (hh : AA.handled = none) (hb : x.cps.size + 1 < scanBound)
    (h : ∀ (h' : Heap) (tk : Nat), h'.SetOf (strKind prog ww) ss.heap.objs.size (fun z => decide (∃ c ∈ met [] x.cps.toList, z = one c)) (met [] x.cps.toList).length →
      (∀ b o, b < ss.heap.objs.size → ss.heap.get? b = some o → h'.get? b = some o) → Q (.ref ss.heap.objs.size) { ss with heap := h', toks := tk }) :
    wpAny (model prog ww) AA (call (.type "set") [.str x t]) Q EE ss := by
  obtain ⟨c, tl, hmro⟩ := PySem.F.called_set.mro
  have hmade := PySem.F.called_set.made
  have hsub := PySem.F.called_set.sub
  refine wpAny_call (codeAny_of_tree ?_)
  show wpAny _ _ (callAny (.type "set") _) _ _ _
  refine wpAny_pure ⟨Code.quiet_builtin _ (by decide +kernel), codeAny_builtin PySem.F.entry_type_call ?_⟩
  rw [Around.under_plain (weight_type_call_type "set" [.str x t] []) rfl]
  have h1 := PySem.F.called_set.notType
  have h2 := PySem.F.called_set.canCreate
  have hct := PySem.F.typeCall_set_1 (.str x t)
  repeat (any_goals (first | assumption | wp_step))
  refine codeAny_mono (code_set_new_1 (.str x t) (E := EE) (Q₁ := fun obj s1 => ∃ led : Bool, obj = .ref ss.heap.objs.size ∧ s1 = { ss with heap := ss.heap.push { cls := .type "set", dict := none, data := .set #[] 0 (.fresh 0 0 led) } }) fun led => ⟨led, rfl, rfl⟩) fun r s1 hr => ?_
  match r, hr with
  | .error e, hr => exact hr
  | .ok .next, hr => exact hr.elim
  | .ok .brk, hr => exact hr.elim
  | .ok .cont, hr => exact hr.elim
  | .ok (.ret obj), hr =>
    obtain ⟨led, rfl, rfl⟩ := hr
    have hS : (ss.heap.push ({ cls := .type "set", dict := none, data := .set #[] 0 (.fresh 0 0 led) } : Obj)).get? ss.heap.objs.size = some ({ cls := .type "set", dict := none, data := .set #[] 0 (.fresh 0 0 led) } : Obj) := Heap.get?_push_size _ rfl
    have hT : Shared.TypeIs { ss with heap := ss.heap.push ({ cls := .type "set", dict := none, data := .set #[] 0 (.fresh 0 0 led) } : Obj) } (.ref ss.heap.objs.size) "set" := ⟨_, hS, rfl⟩
    have hli := PySem.F.called_set.init.lookup
    have hbi := PySem.F.called_set.init.bind (.ref ss.heap.objs.size)
    repeat (any_goals (first | assumption | wp_step))
    refine codeAny_mono (codeAny_call_builtin (R := wants (fun r s2 => r = .none ∧ ∃ h' tk, s2 = { ss with heap := h', toks := tk } ∧ h'.SetOf (strKind prog ww) ss.heap.objs.size (fun z => decide (∃ c ∈ met [] x.cps.toList, z = one c)) (met [] x.cps.toList).length ∧ (∀ b o, b < ss.heap.objs.size → ss.heap.get? b = some o → h'.get? b = some o)) EE)
      PySem.F.called_set.init.plain PySem.F.entry_set_init (check_set_init_1 hT ?_)) fun r2 s2 hr2 => ?_
    · have hs1 := sub_str_set
      have hs2 := sub_str_frz
      have hne : (Value.type "str" == Value.type "dict") = false := by decide
      unfold Builtin.«set.__init__» noKeywords Builtin.Frozenset.updateFrom
      generalize hPI : pyIter = PI
      wp_walk
      subst hPI
      refine wpAny_pyIter_str fun o St Wk st0 => ?_
      refine wpAny_bind (wpAny_runValue ?_)
      have hne2 : ss.heap.objs.size ≠ (ss.heap.push ({ cls := .type "set", dict := none, data := .set #[] 0 (.fresh 0 0 led) } : Obj)).objs.size := by
        rw [Heap.size_push]
        exact Nat.ne_of_lt (Nat.lt_succ_self _)
      refine set_loop (Wk _ (by simp [hh])) hne2 hb (x.cps.size - 0) 0 _ (by omega) (Nat.zero_le _) st0 ?_ fun h3 tk3 hk hset => ?_
      · have hget : ((ss.heap.push ({ cls := .type "set", dict := none, data := .set #[] 0 (.fresh 0 0 led) } : Obj)).push o).get? ss.heap.objs.size = some ({ cls := .type "set", dict := none, data := .set #[] 0 (.fresh 0 0 led) } : Obj) := Heap.get?_push_of_some _ hS
        have f := ((PyProof.Rows.setObjOf_fresh (knd := strKind prog ww) led).setOf (h := (ss.heap.push ({ cls := .type "set", dict := none, data := .set #[] 0 (.fresh 0 0 led) } : Obj)).push o) (a := ss.heap.objs.size) hget (by unfold scanBound; omega))
        have ef : (fun z : Str => decide (∃ c ∈ met [] (x.cps.toList.take 0), z = one c)) = fun _ => false := by
          funext z
          exact decide_eq_false fun ⟨c, hc, _⟩ => by cases hc
        rw [ef]
        exact f
      · refine wpAny_pure ?_
        refine wpAny_pure ⟨rfl, h3, tk3, rfl, hset, fun b o2 hb2 e => ?_⟩
        refine hk b o2 (Nat.ne_of_lt hb2) ?_ (Heap.get?_push_of_some _ (Heap.get?_push_of_some _ e))
        rw [Heap.size_push]
        exact Nat.ne_of_lt (Nat.lt_succ_of_lt hb2)
    · match r2, hr2 with
      | .error e, hr2 => exact hr2
      | .ok .next, hr2 => exact hr2.elim
      | .ok .brk, hr2 => exact hr2.elim
      | .ok .cont, hr2 => exact hr2.elim
      | .ok (.ret v), hr2 =>
        obtain ⟨rfl, h3, tk3, rfl, hset, hk⟩ := hr2
        repeat (any_goals (first | assumption | wp_step))
        exact h _ _ hset hk
end SetS
/-- of a text -/
def tLenSetS (ta : TE) : TE := fun σ H Q => ta σ H fun x H1 => ∃ z : Str, x = .str z ∧ z.cps.size ≤ 1000 ∧ Q (.int ((met [] z.cps.toList).length : Nat)) H1
open PySem.Spec PyProof.Rows in
theorem pe_lenSetS {X : Cx} {a : Expr} {ta : TE} {p p2 q pos : Pos} (hg : Gl X "len") (hm : X.mg "len" = none) (hg2 : Gl X "set") (hm2 : X.mg "set" = none) (ha : PE X a ta) (hc : X.calm = true := by rfl)
    (na : starEach [a] X.env = (false, eval a X.env) :: starEach [] X.env := by rfl) : PE X (.Call (.Name "len" p) [.Call (.Name "set" p2) [a] [] q] [] pos) (tLenSetS ta) := by
  refine ⟨fun pins s σ H Q I h => Call_ (ld_blt I hg hm boot_len ?_)⟩
  refine PyProof.Rows.callWith_builtin1 (PyProof.Rows.args_cons (Call_ (ld_blt I hg2 hm2 boot_set ?_)) rfl) rfl rfl
  refine PyProof.Rows.callWith_type1 (PyProof.Rows.args_cons (thn (ha.run pins s σ H _ I h) fun v s1 ⟨x, H1, I1, r1, q1⟩ => PyProof.Rows.args_nil ?_) na) na rfl
  obtain ⟨z, rfl, hz, q1⟩ := q1
  obtain ⟨t, rfl⟩ := r1
  refine call_set_str (I1.ok.hd hc) (by unfold scanBound; omega) fun h' tk hset hk => PyProof.Rows.args_nil ?_
  have hl := (met_len z.cps.toList []).2
  have l1 : z.cps.toList.length ≤ 1000 := by
    rw [Array.length_toList]
    exact hz
  have l2 : ([] : List Nat).length = 0 := rfl
  obtain ⟨o, es, ep, tb, ho, hex, hd, _, _, _, hf, hn⟩ := hset
  exact call_len_set ho hex hd hf (by rw [hn]; omega) ⟨.int ((met [] z.cps.toList).length : Nat), H1, (I1.kept fun b o e => hk b o (Heap.lt_size e) e : Inv X pins σ H1 { s1 with heap := h', toks := tk }).tok _, ⟨_, by rw [hn]⟩, q1⟩
/-! ### tuples that have no dict of their own; dict(tuple of pairs) -/
def NoD (K : PySem.W.Frag) (H : Hp) (a : Addr) : Prop := ∃ o : Obj, o.dict = none ∧ ((∃ u, H a = some (.frz o u)) ∨ K.lookup a = some o)
theorem NoD.same {K : PySem.W.Frag} {H H' : Hp} {a : Addr} (h : NoD K H a) (s : Same H H') : NoD K H' a := by
  obtain ⟨o, hd, h⟩ := h
  exact ⟨o, hd, h.imp (fun ⟨u, e⟩ => ⟨u, s _ _ e⟩) id⟩
theorem sqT_same {K : PySem.W.Frag} {H H' : Hp} {a : Addr} {xs : List V} (h : SqT K H a xs) (s : Same H H') : SqT K H' a xs := by
  rcases h with (h | ⟨o, h⟩) | h
  · exact .inl (.inl (s _ _ h))
  · exact .inl (.inr ⟨o, s _ _ h⟩)
  · exact .inr h
theorem sqL_same {K : PySem.W.Frag} {H H' : Hp} {a : Addr} {xs : List V} (h : SqL K H a xs) (s : Same H H') : SqL K H' a xs := by
  rcases h with (h | ⟨o, h⟩) | h
  · exact .inl (.inl (s _ _ h))
  · exact .inl (.inr ⟨o, s _ _ h⟩)
  · exact .inr h
section
variable {X : Cx}
theorem NoD.obj {pins : List (Addr × Obj)} {σ : St} {H : Hp} {s : Shared} {a : Addr} (I : Inv X pins σ H s) (h : NoD X.K H a) : ∃ o, s.heap.get? a = some o ∧ o.dict = none := by
  obtain ⟨o, hd, h⟩ := h
  rcases h with ⟨u, h⟩ | h
  · exact ⟨o, (I.hok a _ h).1, hd⟩
  · exact ⟨o, I.kIn a o h, hd⟩
/-- (a, b, ..), with no dict -/
def tTupF (t : TA) : TE := fun σ H Q => t σ H fun xs H1 => xs.length ≤ sizeLine ∧ ∀ p (o : Obj), H1 p = none → o.dict = none → Q (.ref p) (upd H1 p (.frz o (.tup xs)))
theorem pe_tupF {es : List Expr} {t : TA} {pos : Pos} {x1} (h : PA X es t) : PE X (.Tuple es x1 pos) (tTupF t) := by
  refine ⟨fun pins s σ H Q I hq => ?_⟩
  refine wpAny_Tuple_spliced (thn (h.run pos pins s σ H _ I hq) fun us s1 ⟨xs, H1, I1, r, z, q⟩ => ⟨by rw [← r.length]; exact z, ?_⟩)
  have hf : H1 s1.heap.objs.size = none := I1.hok.fresh (Nat.le_refl _)
  refine ⟨.ref s1.heap.objs.size, upd H1 s1.heap.objs.size (.frz { cls := .type "tuple", data := .seq us.toArray } (.tup xs)), I1.laid (t' := s1.toks) (fun b u e => Heap.get?_push_of_some _ e) (Nat.le_refl _) ?_, rfl, q _ { cls := .type "tuple", data := .seq us.toArray } hf rfl⟩
  exact ⟨Heap.get?_push_size _ rfl, z, us, r, ⟨_, Heap.get?_push_size _ rfl, rfl, _, rfl⟩⟩
/-- tuple(list) -/
theorem call_tuple_ofF : CallR X (.type "tuple") (fun xs H Q => ∃ p ys, xs = [.ref p] ∧ SqL X.K H p ys ∧ ∀ l (o : Obj), H l = none → o.dict = none → Q (.ref l) (upd H l (.frz o (.tup ys)))) := by
  intro pins s σ H xs us Q I r h
  obtain ⟨p, ys, rfl, hq, q⟩ := h
  obtain ⟨u, rfl, rx⟩ := vals1 r
  cases rx
  obtain ⟨its, r', pl, hz⟩ := I.list hq
  have hlen := r'.length
  have hn := line63
  refine call_tuple_list pl.isList (fun h' kp => ?_) (by simp only [List.size_toArray] <;> omega)
  have I1 : Inv X pins σ H { s with heap := h' } := I.kept (t' := s.toks) kp
  have I2 : Inv X pins σ (upd H h'.objs.size (.frz { cls := .type "tuple", data := .seq its.toArray } (.tup ys))) { s with heap := h'.push { cls := .type "tuple", data := .seq its.toArray } } :=
    I1.laid (t' := s.toks) (fun b o e => Heap.get?_push_of_some _ e) (Nat.le_refl _) (show ObjOk X.prog X.w _ _ _ (.frz _ (.tup ys)) from ⟨Heap.get?_push_size _ rfl, hz, its, r', PyProof.Rows.IsTup.new _ _⟩)
  exact ⟨.ref h'.objs.size, _, I2, rfl, q _ _ (I1.hok.fresh (Nat.le_refl _)) rfl⟩
/-- t + u -/
def rCatF (K : PySem.W.Frag) : R2 := fun x y H Q => ∃ a b xs ys, x = .ref a ∧ y = .ref b ∧ SqT K H a xs ∧ SqT K H b ys ∧ xs.length + ys.length ≤ sizeLine ∧
  (xs = [] → Q (.ref b) H) ∧ (xs ≠ [] → ys = [] → Q (.ref a) H) ∧ (xs ≠ [] → ys ≠ [] → ∀ p (o : Obj), H p = none → o.dict = none → Q (.ref p) (upd H p (.frz o (.tup (xs ++ ys)))))
theorem op_catF : OpR X (binaryOp .Add) (rCatF X.K) := by
  intro pins s σ H x y v u Q I rx ry h
  obtain ⟨a, b, xs, ys, rfl, rfl, ha, hb, hz, q0, q1, q2⟩ := h
  by_cases hx : xs = []
  · subst hx
    cases rx
    cases ry
    obtain ⟨its, r1, p1, _⟩ := I.tuple ha
    obtain ⟨its2, r2, p2, _⟩ := I.tuple hb
    cases r1
    exact cat_tup0 p1 p2 ⟨.ref b, H, I, rfl, q0 rfl⟩
  · cases rx
    cases ry
    obtain ⟨its, r1, p1, _⟩ := I.tuple ha
    obtain ⟨its2, r2, p2, _⟩ := I.tuple hb
    refine HT.cat_tup p1 p2 (fun z => hx (r1.nil_iff.mp z)) (fun z => ⟨.ref a, H, I, rfl, q1 hx (r2.nil_iff.mp z)⟩) (fun z => ?_) (by rw [← r1.length, ← r2.length]; exact hz)
    refine ⟨.ref s.heap.objs.size, _, I.laid (t' := s.toks) (o := .frz { cls := .type "tuple", data := .seq (its ++ its2).toArray } (.tup (xs ++ ys))) (fun b ob q => Heap.get?_push_of_some _ q) (Nat.le_refl _) ?_, rfl, q2 hx (fun w => z (r2.nil_iff.mpr w)) _ { cls := .type "tuple", data := .seq (its ++ its2).toArray } (I.hok.fresh (Nat.le_refl _)) rfl⟩
    exact ⟨Heap.get?_push_size _ rfl, by rw [List.length_append]; exact hz, _, r1.append r2, PyProof.Rows.IsTup.new _ _⟩
theorem pairs_two {pins : List (Addr × Obj)} {σ : St} {H : Hp} {s : Shared} (I : Inv X pins σ H s) : ∀ {ps : List Addr} {kvs : List (Key × V)}, Paired (fun p kv => SqT X.K H p [kV kv.1, kv.2]) ps kvs →
    ∃ (prs : List (Key × Value)) (vps : List (Value × Value)), KV kvs prs ∧ prs.length = ps.length ∧ vps.length = ps.length ∧ ∀ (j : Nat) (k v : Value), vps[j]? = some (k, v) → ∃ (b : Addr) (q : Key), ps[j]? = some b ∧ PyProof.Rows.IsTup s.heap b #[k, v] ∧ prs[j]? = some (q, v) ∧ keyIs q k = true
  | _, _, .nil => ⟨[], [], .nil, rfl, rfl, fun j k v e => by simp at e⟩
  | _, _, .cons (a := p) (b := kv) h t => by
    obtain ⟨prs, vps, r, hl, hl2, hp⟩ := pairs_two I t
    obtain ⟨its, rv, ht, _⟩ := I.tuple h
    obtain ⟨u, y, ei, ru, ry⟩ := vals2 rv
    subst ei
    refine ⟨(kv.1, y) :: prs, (u, y) :: vps, .cons ⟨rfl, ry⟩ r, by rw [List.length_cons, List.length_cons, hl], by rw [List.length_cons, List.length_cons, hl2], fun j k v e => ?_⟩
    cases j with
    | zero =>
      have e' : (u, y) = (k, v) := Option.some.inj e
      cases e'
      exact ⟨p, kv.1, rfl, ht, rfl, kV_is (P := X.prog) (w := X.w) ru⟩
    | succ j =>
      obtain ⟨b, q, e1, e2, e3, e4⟩ := hp j k v (by simpa using e)
      exact ⟨b, q, by simpa using e1, e2, by simpa using e3, e4⟩
/-- dict(t) of a tuple of pairs (key, value) -/
theorem call_dictT (hcalm : X.calm = true) : CallR X (.type "dict") (fun xs H Q => ∃ (a : Addr) (ps : List Addr) (kvs : List (Key × V)), xs = [.ref a] ∧ SqT X.K H a (ps.map V.ref) ∧ NoD X.K H a ∧ Paired (fun p kv => SqT X.K H p [kV kv.1, kv.2]) ps kvs ∧
    ∀ p, H p = none → Q (.ref p) (upd H p (.dK (mergeK [] kvs)))) := by
  intro pins s σ H xs us Q I r q
  obtain ⟨a, ps, kvs, ex, hq, hN, hp, q⟩ := q
  subst ex
  obtain ⟨u, eu, rx⟩ := vals1 r
  subst eu
  cases rx
  obtain ⟨its, rv, pl, hz⟩ := I.tuple hq
  have ei := refs_at rv
  subst ei
  rw [List.length_map] at hz
  obtain ⟨prs, vps, rel, hl, hl2, hpr⟩ := pairs_two I hp
  obtain ⟨o, ho, hc, n, hdat⟩ := pl
  obtain ⟨o', ho', hd⟩ := hN.obj I
  rw [ho] at ho'
  cases ho'
  have hit : PairItems s.heap (ps.map Value.ref).toArray (fun j => ps.getD j 0) vps := by
    refine ⟨by simp [hl2], fun j k v e => ?_⟩
    obtain ⟨b, q', e1, e2, _, _⟩ := hpr j k v e
    have e5 : ps.getD j 0 = b := by rw [List.getD_eq_getElem?_getD, e1]; rfl
    dsimp only
    rw [e5]
    exact ⟨by simp [e1], .inl e2⟩
  refine PySem.call_dict_pairs (knd := mixKind X.prog X.w) (kvs := prs) (PairArg.tuple a (ps.map Value.ref).toArray (fun j => ps.getD j 0) vps) (I.ok.hd hcalm) ⟨⟨o, n, ho, hc, hd, hdat⟩, hit⟩ ⟨hl.trans hl2.symm, fun i key v e => ?_⟩ (by rw [hl2]; exact hz) fun h' tk hd' k => ?_
  · obtain ⟨b, q', e1, e2, e3, e4⟩ := hpr i key v e
    exact ⟨q', e3, e4⟩
  · have hm : (s.heap.objs.size == sysModules) = false := beq_eq_false_iff_ne.mpr (Nat.ne_of_gt I.big)
    have hlen : (mergeK [] kvs).length ≤ sizeLine := by
      refine Nat.le_trans (length_mergeK kvs []) ?_
      rw [List.length_nil, Nat.zero_add, rel.length, hl]
      exact hz
    exact ⟨.ref s.heap.objs.size, upd H s.heap.objs.size (.dK (mergeK [] kvs)), I.laid (t' := tk) (fun b o e => k b o (List.not_mem_nil) e) (Nat.le_refl _) (show ObjOk X.prog X.w _ _ _ (.dK (mergeK [] kvs)) from ⟨hlen, hm, merged [] prs, KV.merge rel .nil, hd'⟩), rfl, q _ (I.hok.fresh (Nat.le_refl _))⟩
end
/-- what is no list stays -/
def NL (H H' : Hp) : Prop := ∀ b o, H b = some o → (∃ xs, o = .lst xs) ∨ H' b = some o
theorem NL.refl (H : Hp) : NL H H := fun _ _ h => .inr h
theorem NL.trans {H H1 H2 : Hp} (a : NL H H1) (b : NL H1 H2) : NL H H2 := fun c o h => (a c o h).elim .inl fun h => b c o h
theorem Same.nl {H H' : Hp} (s : Same H H') : NL H H' := fun b o h => .inr (s b o h)
theorem nl_upd {H : Hp} {p : Addr} {xs : List V} {o : HO} (h : H p = some (.lst xs)) : NL H (upd H p o) := fun b u e => by
  by_cases hb : b = p
  · subst hb
    rw [h] at e
    exact .inl ⟨xs, (Option.some.inj e).symm⟩
  · exact .inr (by rw [upd_ne hb]; exact e)
theorem nl_new {H : Hp} {p : Addr} {o : HO} (h : H p = none) : NL H (upd H p o) := fun b u e => .inr (by rw [upd_ne (ne_of_none e h)]; exact e)
theorem sqT_nl {K : PySem.W.Frag} {H H' : Hp} {a : Addr} {xs : List V} (h : SqT K H a xs) (s : NL H H') : SqT K H' a xs := by
  rcases h with (h | ⟨o, h⟩) | h
  · rcases s _ _ h with ⟨_, e⟩ | e
    · cases e
    · exact .inl (.inl e)
  · rcases s _ _ h with ⟨_, e⟩ | e
    · cases e
    · exact .inl (.inr ⟨o, e⟩)
  · exact .inr h
theorem NoD.keep {K : PySem.W.Frag} {H H' : Hp} {a : Addr} (h : NoD K H a) (s : NL H H') : NoD K H' a := by
  obtain ⟨o, hd, h⟩ := h
  rcases h with ⟨u, h⟩ | h
  · rcases s _ _ h with ⟨_, e⟩ | e
    · cases e
    · exact ⟨o, hd, .inl ⟨u, e⟩⟩
  · exact ⟨o, hd, .inr h⟩
/-! ### shapes: tuples (or lists) of pairs of a letter and a size -/
abbrev Sh := List (Nat × Int)
def sizes (sh : Sh) : List Int := sh.map (·.2)
/-- the axes stand at the places ts -/
def Axes (K : PySem.W.Frag) (H : Hp) (ts : List Addr) (sh : Sh) : Prop := ts.length = sh.length ∧ ∀ (i : Nat) (t : Addr) (p : Nat × Int), ts[i]? = some t → sh[i]? = some p → SqT K H t [.str (one p.1), .int p.2]
theorem Axes.same {K : PySem.W.Frag} {H H' : Hp} {ts : List Addr} {sh : Sh} (h : Axes K H ts sh) (s : Same H H') : Axes K H' ts sh := ⟨h.1, fun i t p a b => sqT_same (h.2 i t p a b) s⟩
theorem Axes.keep {K : PySem.W.Frag} {H H' : Hp} {ts : List Addr} {sh : Sh} (h : Axes K H ts sh) (s : NL H H') : Axes K H' ts sh := ⟨h.1, fun i t p a b => sqT_nl (h.2 i t p a b) s⟩
theorem Axes.nil {K : PySem.W.Frag} {H : Hp} : Axes K H [] [] := ⟨rfl, fun _ _ _ h _ => by simp at h⟩
theorem Axes.snoc {K : PySem.W.Frag} {H : Hp} {ts : List Addr} {sh : Sh} {t : Addr} {p : Nat × Int} (h : Axes K H ts sh) (ht : SqT K H t [.str (one p.1), .int p.2]) : Axes K H (ts ++ [t]) (sh ++ [p]) := by
  refine ⟨by simp [h.1], fun i u q a b => ?_⟩
  by_cases hi : i < ts.length
  · rw [List.getElem?_append_left hi] at a
    rw [List.getElem?_append_left (by rw [← h.1]; exact hi)] at b
    exact h.2 i u q a b
  · rw [List.getElem?_append_right (by omega)] at a
    rw [List.getElem?_append_right (by rw [← h.1]; omega)] at b
    rw [h.1] at a
    cases z : i - sh.length with
    | zero =>
      rw [z] at a b
      simp only [List.getElem?_cons_zero, Option.some.injEq] at a b
      subst a b
      exact ht
    | succ j =>
      rw [z] at a
      simp at a
/-- the i-th axis -/
theorem Axes.at {K : PySem.W.Frag} {H : Hp} {ts : List Addr} {sh : Sh} (h : Axes K H ts sh) {i : Nat} {x : V} (hx : (ts.map V.ref)[i]? = some x) : ∃ (t : Addr) (p : Nat × Int), x = .ref t ∧ ts[i]? = some t ∧ sh[i]? = some p ∧ SqT K H t [.str (one p.1), .int p.2] := by
  rw [List.getElem?_map] at hx
  cases e : ts[i]? with
  | none => rw [e] at hx; cases hx
  | some t =>
    rw [e] at hx
    have hi : i < sh.length := by
      have := (List.getElem?_eq_some_iff.mp e).1
      rw [← h.1]; exact this
    exact ⟨t, sh[i], (Option.some.inj hx).symm, rfl, List.getElem?_eq_getElem hi, h.2 i t _ e (List.getElem?_eq_getElem hi)⟩
/-- a tuple that is a shape -/
def ShT (K : PySem.W.Frag) (H : Hp) (a : Addr) (sh : Sh) : Prop := ∃ ts : List Addr, SqT K H a (ts.map V.ref) ∧ Axes K H ts sh
theorem ShT.same {K : PySem.W.Frag} {H H' : Hp} {a : Addr} {sh : Sh} (h : ShT K H a sh) (s : Same H H') : ShT K H' a sh := by
  obtain ⟨ts, h1, h2⟩ := h
  exact ⟨ts, sqT_same h1 s, h2.same s⟩
theorem ShT.keep {K : PySem.W.Frag} {H H' : Hp} {a : Addr} {sh : Sh} (h : ShT K H a sh) (s : NL H H') : ShT K H' a sh := by
  obtain ⟨ts, h1, h2⟩ := h
  exact ⟨ts, sqT_nl h1 s, h2.keep s⟩
def Fine (sh : Sh) : Prop := ∀ p ∈ sh, 1 ≤ p.2 ∧ p.2 ≤ 16
theorem Fine.sizes {sh : Sh} (h : Fine sh) : ∀ s ∈ sizes sh, 1 ≤ s := by
  intro s hs
  obtain ⟨p, hp, rfl⟩ := List.mem_map.mp hs
  exact (h p hp).1
theorem same_upd {H : Hp} {p : Addr} {o : HO} (h : H p = none) : Same H (upd H p o) := fun b x e => by
  rw [upd_ne (ne_of_none e h)]
  exact e
theorem map_int_at {ns : List Int} {i : Nat} {x : V} (h : (ns.map V.int)[i]? = some x) : ∃ n, x = .int n ∧ ns[i]? = some n := by
  rw [List.getElem?_map] at h
  cases e : ns[i]? with
  | none => rw [e] at h; cases h
  | some n => rw [e] at h; exact ⟨n, (Option.some.inj h).symm, rfl⟩
theorem drop_at {α : Type} {l : List α} {i : Nat} {x : α} (h : l[i]? = some x) : l.drop i = x :: l.drop (i + 1) := by
  obtain ⟨hi, e⟩ := List.getElem?_eq_some_iff.mp h
  rw [List.drop_eq_getElem_cons hi, e]
/-! ### own errors -/
abbrev valErr : List Value := [.type "ValueError", .type "Exception", .type "BaseException", .type "object"]
/-- what the written part says of an error class that is raised -/
structure ErrR (K : PySem.W.Frag) (mg : Str → Option Value) (n : Str) (C : Addr) : Prop where
  g : mg n = some (.ref C)
  x : PySem.W.excIn K C valErr "ValueError.__new__" = true
  k : PySem.W.keepIn K (.ref C) = true
  b : PySem.W.subIn K (.ref C) (.type "BaseException") = some true
  t : PySem.W.typeIn K (.ref C) = some (.type "type")
/-- of one that an except clause names -/
structure ErrN (K : PySem.W.Frag) (mg : Str → Option Value) (n : Str) (C : Addr) : Prop where
  g : mg n = some (.ref C)
  b : PySem.W.subIn K (.ref C) (.type "BaseException") = some true
  h : PySem.W.hasDictIn K C = true
  t : PySem.W.typeIn K (.ref C) = some (.type "type")
theorem ErrN.ex {K : PySem.W.Frag} {mg : Str → Option Value} {n : Str} {C : Addr} (e : ErrN K mg n C) {cls : Value} {r : Bool} (s : PySem.W.subIn K cls (.ref C) = some r) : PySem.W.exmOne K cls (.ref C) = some r := PySem.W.exm_ref e.b e.h e.t s
theorem pss_if {X : Cx} {sts : List Stmt} {t : TS} {P : Prop} (h : P → PSs X sts t) : PSs X sts (fun D σ H => P ∧ t D σ H) := ⟨fun pins s σ H D I hh => (h hh.1).run pins s σ H D I hh.2⟩
theorem kit_rr {K : PySem.W.Frag} {Z C : Addr} {r : Bool} (s : PySem.W.subIn K (.ref Z) (.ref C) = some r) (z : PySem.W.subIn K (.ref Z) (.ref Z) = some true) (h : PySem.W.hasDictIn K C = true) (t : PySem.W.typeIn K (.ref C) = some (.type "type")) : PySem.W.kitOne K (.ref Z) (.ref C) = some r := by
  have hc : (PySem.W.clsIn K C).isSome = true := by
    unfold PySem.W.hasDictIn at h
    cases e : PySem.W.clsIn K C with
    | none => rw [e] at h; cases h
    | some _ => rfl
  have e2 : ((PySem.W.clsIn K C).isSome && PySem.W.typeIn K (.ref C) == some (.type "type")) = true := by rw [hc, t] <;> rfl
  show (if (Value.ref Z == Value.ref C) = true then some true else (if ((PySem.W.clsIn K C).isSome && PySem.W.typeIn K (.ref C) == some (.type "type")) = true then PySem.W.subIn K (.ref Z) (.ref C) else none)) = some r
  by_cases g : (Value.ref Z == Value.ref C) = true
  · rw [if_pos g]
    have e : Value.ref Z = Value.ref C := beq_iff_eq.mp g
    rw [← e, z] at s
    exact s
  · rw [if_neg g, if_pos e2]
    exact s
theorem kit_rt {K : PySem.W.Frag} {Z : Addr} {T : String} {r : Bool} (s : PySem.W.subIn K (.ref Z) (.type T) = some r) (m : PySem.W.kitMeta T = true) : PySem.W.kitOne K (.ref Z) (.type T) = some r := by
  have g : (Value.ref Z == Value.type T) = false := rfl
  show (if (Value.ref Z == Value.type T) = true then some true else (if PySem.W.kitMeta T = true then PySem.W.subIn K (.ref Z) (.type T) else none)) = some r
  rw [g, if_neg Bool.false_ne_true, if_pos m]
  exact s
/-! ### check_shape and what it calls -/
def prod : List Int → Int
  | [] => 1
  | s :: ss => s * prod ss
theorem prod_snoc : ∀ {ss : List Int} {s : Int}, prod (ss ++ [s]) = prod ss * s
  | [], s => by show s * 1 = 1 * s; omega
  | a :: ss, s => by
    show a * prod (ss ++ [s]) = a * prod ss * s
    rw [prod_snoc, Int.mul_assoc]
theorem take_snoc {α : Type} {l : List α} {i : Nat} {x : α} (h : l[i]? = some x) : l.take (i + 1) = l.take i ++ [x] := by
  rw [List.take_add_one, h]
  rfl
def codes (sh : Sh) : List Nat := sh.map (·.1)
def lets (sh : Sh) : Str := ⟨(codes sh).toArray⟩
theorem joinL_nil : ∀ l : List (List Nat), TL.joinL [] l = l.flatten
  | [] => rfl
  | [p] => by show p = p ++ []; rw [List.append_nil]
  | p :: q :: r => by
    show p ++ ([] ++ TL.joinL [] (q :: r)) = p ++ (q :: r).flatten
    rw [joinL_nil (q :: r)]
    rfl
theorem join_ones (l : List Nat) : Txt.join "" (l.map one) = ⟨l.toArray⟩ := by
  have e : TL.tl (Txt.join "" (l.map one)) = l := by
    rw [TL.join_eq, TL.tl_join]
    show TL.joinL [] ((l.map one).map TL.tl) = l
    rw [joinL_nil]
    induction l with
    | nil => rfl
    | cons a l ih =>
      show [a] ++ ((l.map one).map TL.tl).flatten = a :: l
      rw [ih]
      rfl
  have g : Txt.join "" (l.map one) = ⟨(TL.tl (Txt.join "" (l.map one))).toArray⟩ := by rw [TL.mk_tl]
  rw [g, e]
/-- sizes that may be multiplied -/
def Mod (sh : Sh) : Prop := ∀ p ∈ sh, -1000 ≤ p.2 ∧ p.2 ≤ 1000
theorem Fine.mod {sh : Sh} (h : Fine sh) : Mod sh := fun p hp => ⟨by have := (h p hp).1; omega, by have := (h p hp).2; omega⟩
def fineB (sh : Sh) : Bool := sh.all fun p => decide (1 ≤ p.2) && decide (p.2 ≤ 16)
theorem fineB_iff {sh : Sh} : fineB sh = true ↔ Fine sh := by
  unfold fineB Fine
  rw [List.all_eq_true]
  constructor
  · intro h p hp
    have := h p hp
    rw [Bool.and_eq_true] at this
    exact ⟨of_decide_eq_true this.1, of_decide_eq_true this.2⟩
  · intro h p hp
    rw [Bool.and_eq_true]
    exact ⟨decide_eq_true (h p hp).1, decide_eq_true (h p hp).2⟩
def chk (sh : Sh) : Nat := if 4 < sh.length then 1 else if (codes sh).Nodup then (if fineB sh = true then (if 256 < prod (sizes sh) then 4 else 0) else 3) else 2
section
variable {P : Program} {w : World} {K : PySem.W.Frag} {mg : Str → Option Value} {base : Heap}
theorem sz_at {sh : Sh} {i : Nat} {p : Nat × Int} (h : sh[i]? = some p) : (sizes sh)[i]? = some p.2 := by rw [sizes, List.getElem?_map, h]; rfl
def spCountOf (K : PySem.W.Frag) : Sp := fun vs H Q _ => ∃ (a : Addr) (sh : Sh), vs = [.ref a] ∧ ShT K H a sh ∧ Mod sh ∧ Q (.int (prod (sizes sh))) H
theorem scCO : FnScope ["shape", "count", "_", "size"] ["shape"] (defScope sCountOf) := ⟨rfl, rfl, rfl, by decide +kernel, rfl, by decide +kernel, by decide +kernel⟩
theorem ok_countOf {f : Addr} {fd : FuncData} (F : Fun K "count_of" "count_of" sCountOf f fd) : FnOk P w K mg base CX0 1 f fd ["shape"] (spCountOf K) := by
  refine F.ok scCO (fun vs H Q E h => ?_) (fun cdv A outer s H vs Q E hr h => ?_)
  · obtain ⟨a, sh, rfl, _⟩ := h
    rfl
  · obtain ⟨a, sh, rfl, ⟨ts, ha, hx⟩, hf, q⟩ := h
    refine ⟨_, pss_cons (ps_set (i := 1) scCO.nd rfl (.inl rfl) pe_int)
      (pss_cons (ps_for PassesOwn.never rfl (pi_tup (pv 0)) (pg_tup rfl (pgs_cons (pg_name (i := 2) scCO.nd rfl (.inl rfl)) (pgs_cons (pg_name (i := 3) scCO.nd rfl (.inl rfl)) pgs_nil)))
        (pss_one (ps_set (i := 1) scCO.nd rfl (.inl rfl) (pe_op op_mul (pv 1) (pv 3)))))
      (pss_one (ps_ret (pv 1)))), ?_⟩
    refine ⟨_, rfl, a, rfl, ⟨_, ha⟩, for_tup (K := K) (a := a) (xs := ts.map V.ref) (fun i σ H' => ∃ (v2 v3 : Option V), σ = [some (.ref a), some (.int (prod ((sizes sh).take i))), v2, v3] ∧ H' = H)
      ⟨none, none, rfl, rfl⟩ (fun i σ H' _ ⟨_, _, _, e⟩ => by rw [e]; exact ha) ?_ ?_⟩
    · rintro i x σ H' hi ⟨v2, v3, rfl, rfl⟩
      obtain ⟨t, p, rfl, g1, g2, g3⟩ := hx.at hi
      have hp := hf p (List.mem_of_getElem? g2)
      refine ⟨t, _, rfl, g3, rfl, _, _, rfl, _, _, rfl, rfl, ?_⟩
      refine ⟨_, rfl, _, rfl, _, _, rfl, rfl, .inr ⟨by omega, by omega⟩, some (.str (one p.1)), some (.int p.2), ?_, rfl⟩
      rw [take_snoc (sz_at g2), prod_snoc]
      rfl
    · rintro σ H' ⟨v2, v3, rfl, rfl⟩
      refine ⟨_, rfl, ?_⟩
      rw [show (ts.map V.ref).length = (sizes sh).length by rw [List.length_map, hx.1, sizes, List.length_map], List.take_length]
      exact q
def spLettersOf (K : PySem.W.Frag) : Sp := fun vs H Q _ => ∃ (a : Addr) (sh : Sh), vs = [.ref a] ∧ ShT K H a sh ∧ sh.length ≤ 16 ∧ ∀ H', Same H H' → Q (.str (lets sh)) H'
abbrev nLO : List Str := ["shape", "letter", "_"]
theorem scLO : FnScope nLO ["shape"] (defScope sLettersOf) := ⟨rfl, rfl, rfl, by decide +kernel, rfl, by decide +kernel, by decide +kernel⟩
theorem ones_len : ∀ l : List Nat, ((l.map one).map (·.length)).sum = l.length
  | [] => rfl
  | a :: l => by
    show 1 + ((l.map one).map (·.length)).sum = l.length + 1
    rw [ones_len l]
    omega
theorem ok_lettersOf {f : Addr} {fd : FuncData} (F : Fun K "letters_of" "letters_of" sLettersOf f fd) : FnOk P w K mg base CX0 1 f fd ["shape"] (spLettersOf K) := by
  refine F.ok scLO (fun vs H Q E h => ?_) (fun cdv A outer s H vs Q E hr h => ?_)
  · obtain ⟨a, sh, rfl, _⟩ := h
    rfl
  · obtain ⟨a, sh, rfl, ⟨ts, ha, hx⟩, hl, q⟩ := h
    refine ⟨_, pss_one (ps_ret (pe_join pe_str (pe_lc (own := [("letter", 1), ("_", 2)]) (g := gTup K 2 (gCons (gName 1) (gCons (gName 2) gNil))) (tt := tYes) rfl scLO.nd (pi_tup (pv 0)) (blkOk_by (N := nLO) (sc := defScope sLettersOf) (by decide +kernel))
      (fun _ _ _ _ _ => pg_tup (n := 2) rfl (pgs_cons (pg_name (i := 1) scLO.nd rfl (.inl rfl) (hf := Or.inr rfl)) (pgs_cons (pg_name (i := 2) scLO.nd rfl (.inl rfl) (hf := Or.inr rfl)) pgs_nil))) (fun _ _ _ _ _ => pts_nil) (fun _ _ _ _ _ => pv 1)))), ?_⟩
    refine ⟨⟨_, rfl⟩, _, rfl, a, rfl, ⟨_, ha⟩, fun D nD => lc_tup (K := K) (a := a) (xs := ts.map V.ref) (fun i H' => Same H H' ∧ H' D = some (.lst (((codes sh).take i).map fun c => V.str (one c))))
      ⟨same_upd nD, upd_same⟩ (fun i H' _ h => sqT_same ha h.1) ?_ ?_⟩
    · rintro i x H' hi ⟨sm, hD⟩
      obtain ⟨t, p, rfl, g1, g2, g3⟩ := hx.at hi
      refine ⟨t, _, rfl, sqT_same g3 sm, rfl, _, _, rfl, _, _, rfl, rfl, rfl, ?_⟩
      unfold tYes
      dsimp only
      rw [if_pos rfl]
      refine ⟨_, rfl, _, hD, ?_, ?_, ?_⟩
      · rw [List.length_map, List.length_take, codes, List.length_map]
        exact Nat.lt_of_le_of_lt (Nat.min_le_right _ _) (small1000 (by omega))
      · exact fun b o e => by rw [upd_ne (ne_of_none e nD)]; exact sm _ _ e
      · rw [upd_same, take_snoc (show (codes sh)[i]? = some p.1 by rw [codes, List.getElem?_map, g2]; rfl), List.map_append]
        rfl
    · rintro H' ⟨sm, hD⟩
      rw [show (ts.map V.ref).length = (codes sh).length by rw [List.length_map, hx.1, codes, List.length_map], List.take_length] at hD
      refine ⟨"", D, (codes sh).map one, rfl, rfl, .inl (SqL.of (by rw [List.map_map]; exact hD)), ?_, ?_⟩
      · rw [ones_len, List.length_map, codes, List.length_map]
        have : (("" : Str)).length = 0 := rfl
        rw [this]
        omega
      · rw [join_ones]
        exact q _ sm
/-- the classes of the errors: 1 rank, 2 axis, 3 range, 4 large -/
structure ErrS (K : PySem.W.Frag) (mg : Str → Option Value) (C : Nat → Addr) : Prop where
  r1 : ErrR K mg "RankError" (C 1)
  r2 : ErrR K mg "AxisError" (C 2)
  r3 : ErrR K mg "RangeError" (C 3)
  r4 : ErrR K mg "TooLarge" (C 4)
  len : mg "len" = none
  set : mg "set" = none
  l1 : ∃ u, mg "RANK_LIMIT" = some u ∧ RelV (.int 4) u
  l2 : ∃ u, mg "SIZE_LIMIT" = some u ∧ RelV (.int 16) u
  l3 : ∃ u, mg "COUNT_LIMIT" = some u ∧ RelV (.int 256) u
/-- what a check of this shape does -/
def CkEnd (C : Nat → Addr) (n : Nat) (Q : VK) (E : XK) (v : V) (H : Hp) : Prop := (n = 0 → Q v H) ∧ ∀ k, n = k + 1 → E (.ref (C (k + 1))) none H
def spCheck (K : PySem.W.Frag) (C : Nat → Addr) : Sp := fun vs H Q E => ∃ (a : Addr) (sh : Sh), vs = [.ref a] ∧ ShT K H a sh ∧ sh.length ≤ 16 ∧ Mod sh ∧ ∀ H', Same H H' → CkEnd C (chk sh) Q E .non H'
theorem scCK : FnScope ["shape", "letter", "size"] ["shape"] (defScope sCheck) := ⟨rfl, rfl, rfl, by decide +kernel, rfl, by decide +kernel, by decide +kernel⟩
theorem txt_len (a b : Str) : (a ++ b).length = a.length + b.length := PySem.Str.length_append a b
theorem int_txt : ∀ n : Nat, n ≤ 16 → ((toString (n : Int) : String) : Str).length ≤ 2 := by decide +kernel
theorem ok_check {f fL fC : Addr} {C : Nat → Addr} {fd fdL fdC : FuncData} (F : Fun K "check_shape" "check_shape" sCheck f fd) (R : ErrS K mg C)
    (GL : FnOk P w K mg base CX0 1 fL fdL ["shape"] (spLettersOf K)) (kL : PySem.W.keepIn K (.ref fL) = true) (bL : Binds K fdL ["shape"] []) (gL : mg "letters_of" = some (.ref fL))
    (GC : FnOk P w K mg base CX0 1 fC fdC ["shape"] (spCountOf K)) (kC : PySem.W.keepIn K (.ref fC) = true) (bC : Binds K fdC ["shape"] []) (gC : mg "count_of" = some (.ref fC)) :
    FnOk P w K mg base (L2.CX P w) 2 f fd ["shape"] (spCheck K C) := by
  obtain ⟨u1, gl1, rl1⟩ := R.l1
  obtain ⟨u2, gl2, rl2⟩ := R.l2
  obtain ⟨u3, gl3, rl3⟩ := R.l3
  refine F.okX scCK (fun vs H Q E h => ?_) (fun cdv A outer s H vs Q E hr h => ?_)
  · obtain ⟨a, sh, rfl, _⟩ := h
    rfl
  · obtain ⟨a, sh, rfl, hS, hl, hm, q⟩ := h
    obtain ⟨ts, ha, hx⟩ := id hS
    refine ⟨_, pss_cons (ps_if (pt_cmpR op_gt (pe_callB call_len_seq (by rfl) R.len PySem.boot_len (pa_cons (pv 0) pa_nil)) (pe_glob (v := .int 4) (by rfl) gl1 rl1) (nomark _))
        (pss_one (ps_raise rfl (takes_of rfl rfl rfl rfl) (SkE.pmk_own1 PySem.F.excBase_ValueError R.r1.x R.r1.g R.r1.k (raises_own R.r1.b R.r1.t) rfl (pe_joined (.cons pe_str (.cons (pe_fmt (pe_callB call_len_seq (by rfl) R.len PySem.boot_len (pa_cons (pv 0) pa_nil))) (.cons pe_str .nil))))))) pss_nil)
      (pss_cons (ps_if (pt_cmpR op_lt (pe_lenSetS (by rfl) R.len (by rfl) R.set (pe_call GL hr (by rfl) gL kL bL .nil pass0 (pa_cons (pv 0) pa_nil))) (pe_callB call_len_seq (by rfl) R.len PySem.boot_len (pa_cons (pv 0) pa_nil)) (nomark _))
        (pss_one (ps_raise rfl (takes_of rfl rfl rfl rfl) (pmk_own PySem.F.excBase_ValueError R.r2.x R.r2.g R.r2.k (raises_own R.r2.b R.r2.t) rfl))) pss_nil)
      (pss_cons (ps_for (passes_of rfl) rfl (pi_tup (pv 0)) (pg_tup rfl (pgs_cons (pg_name (i := 1) scCK.nd rfl (.inl rfl)) (pgs_cons (pg_name (i := 2) scCK.nd rfl (.inl rfl)) pgs_nil)))
        (pss_one (ps_if (PW.pt (pw_or (pt_cmpR op_lt (pv 2) pe_int (nomark _)) (pw_or1 (pt_cmpR op_gt (pv 2) (pe_glob (v := .int 16) (by rfl) gl2 rl2) (nomark _)))))
          (pss_one (ps_raise rfl (takes_of rfl rfl rfl rfl) (SkE.pmk_own1 PySem.F.excBase_ValueError R.r3.x R.r3.g R.r3.k (raises_own R.r3.b R.r3.t) rfl (pe_joined (.cons pe_str (.cons (pe_fmt (pv 1)) (.cons pe_str (.cons (pe_fmt (pe_glob (v := .int 16) (by rfl) gl2 rl2)) .nil)))))))) pss_nil)))
      (pss_one (ps_if (pt_cmpR op_gt (pe_call GC hr (by rfl) gC kC bC .nil pass0 (pa_cons (pv 0) pa_nil)) (pe_glob (v := .int 256) (by rfl) gl3 rl3) (nomark _))
        (pss_one (ps_raise rfl (takes_of rfl rfl rfl rfl) (pmk_own PySem.F.excBase_ValueError R.r4.x R.r4.g R.r4.k (raises_own R.r4.b R.r4.t) rfl))) pss_nil)))), ?_⟩
    have hlen : (ts.map V.ref).length = sh.length := by rw [List.length_map, hx.1]
    unfold chk at q
    refine ⟨_, rfl, a, _, rfl, .inr (ha), _, _, rfl, rfl, _, rfl, ite2 (fun e => ?_) (fun e => ?_)⟩
    · have e' := of_decide_eq_true e
      rw [hlen] at e'
      rw [if_pos (by omega)] at q
      have k1 := int_txt sh.length hl
      have b0 : ∀ x : Str, x.length ≤ 100 → x.length ≤ sizeLine := fun x h => Nat.le_trans h (by decide)
      refine ⟨_, rfl, by decide +kernel, _, rfl, a, _, rfl, .inr (ha), .inr ⟨_, rfl, ?_, _, rfl, ?_, _, rfl, ?_, ?_⟩⟩
      · rw [hlen]
        have : sh.length < 2 ^ 60 := by omega
        exact Nat.lt_of_le_of_lt (Nat.log2_le_self _) (by omega)
      · rw [hlen]
        refine b0 _ ?_
        rw [txt_len]
        have : (Str.empty ++ ("a shape has " : Str)).length = 12 := by decide +kernel
        omega
      · rw [hlen]
        refine b0 _ ?_
        rw [txt_len, txt_len]
        have : (Str.empty ++ ("a shape has " : Str)).length = 12 := by decide +kernel
        have : (" axes" : Str).length = 5 := by decide +kernel
        omega
      · exact (q _ (Same.refl H)).2 0 rfl
    · have e' : ¬ 4 < sh.length := by
        have e0 : ¬ ((4 : Int) < ((ts.map V.ref).length : Int)) := fun z => e (decide_eq_true z)
        rw [hlen] at e0
        omega
      rw [if_neg e'] at q
      refine ⟨_, rfl, a, sh, rfl, hS, hl, fun H1 sm1 => ⟨_, rfl, ?_, ?_⟩⟩
      · show (codes sh).toArray.size ≤ 1000
        rw [List.size_toArray, codes, List.length_map]
        omega
      have ha1 := sqT_same ha sm1
      have hmet := met_all (codes sh) [] List.nodup_nil
      have hml := (met_len (codes sh) []).2
      have hcl : (codes sh).length = sh.length := by rw [codes, List.length_map]
      rw [List.length_nil, Nat.zero_add, List.nil_append, hcl] at hmet
      rw [List.length_nil, Nat.zero_add, hcl] at hml
      refine ⟨_, rfl, a, _, rfl, .inr (ha1), _, _, rfl, rfl, _, rfl, ite2 (fun e2 => ?_) (fun e2 => ?_)⟩
      · have e3 := of_decide_eq_true e2
        rw [hlen] at e3
        have : ¬ (codes sh).Nodup := fun n => by
          have := hmet.mpr n
          have e4 : (lets sh).cps.toList = codes sh := rfl
          rw [e4] at e3
          omega
        rw [if_neg this] at q
        exact (q _ sm1).2 1 rfl
      · have e3 : ¬ (((met [] (lets sh).cps.toList).length : Int) < ((ts.map V.ref).length : Int)) := fun z => e2 (decide_eq_true z)
        rw [hlen] at e3
        have e4 : (lets sh).cps.toList = codes sh := rfl
        rw [e4] at e3
        rw [if_pos (hmet.mp (by omega))] at q
        refine ⟨_, rfl, a, rfl, ⟨_, ha1⟩, for_tup (K := K) (a := a) (xs := ts.map V.ref) (fun i σ H' => ∃ (v1 v2 : Option V), σ = [some (.ref a), v1, v2] ∧ H' = H1 ∧ ∀ j p, j < i → sh[j]? = some p → 1 ≤ p.2 ∧ p.2 ≤ 16)
          ⟨none, none, rfl, rfl, fun j p h => absurd h (Nat.not_lt_zero _)⟩ (fun i σ H' _ ⟨_, _, _, e, _⟩ => by rw [e]; exact ha1) ?_ ?_⟩
        · rintro i x σ H' hi ⟨v1, v2, rfl, rfl, hok⟩
          obtain ⟨t, p, rfl, g1, g2, g3⟩ := (hx.same sm1).at hi
          have hp := hm p (List.mem_of_getElem? g2)
          refine ⟨t, _, rfl, g3, rfl, _, _, rfl, _, _, rfl, rfl, ?_⟩
          have bad : ¬ (1 ≤ p.2 ∧ p.2 ≤ 16) → fineB sh = false := fun nb => Bool.eq_false_iff.mpr fun z => nb (fineB_iff.mp z p (List.mem_of_getElem? g2))
          have raise : ¬ (1 ≤ p.2 ∧ p.2 ≤ 16) → E (.ref (C 3)) none H' := fun nb => by
            have q1 := q _ sm1
            rw [bad nb, if_neg Bool.false_ne_true] at q1
            exact q1.2 2 rfl
          have b0 : ∀ x : Str, x.length ≤ 100 → x.length ≤ sizeLine := fun x h => Nat.le_trans h (by decide)
          have m1 : (Str.empty ++ ("the size of the axis " : Str)).length = 21 := by decide +kernel
          have m2 : (one p.1).length = 1 := rfl
          have m3 : (" is not from 1 to " : Str).length = 18 := by decide +kernel
          have m4 := int_txt 16 (by decide)
          have n1 := b0 (Str.empty ++ ("the size of the axis " : Str)) (by omega)
          have n2 := b0 (Str.empty ++ ("the size of the axis " : Str) ++ one p.1) (by rw [txt_len]; omega)
          have n3 := b0 (Str.empty ++ ("the size of the axis " : Str) ++ one p.1 ++ (" is not from 1 to " : Str)) (by rw [txt_len, txt_len]; omega)
          have n4 := b0 (Str.empty ++ ("the size of the axis " : Str) ++ one p.1 ++ (" is not from 1 to " : Str) ++ ((toString ((16 : Nat) : Int) : String) : Str)) (by rw [txt_len, txt_len, txt_len]; omega)
          refine ⟨_, rfl, _, _, rfl, rfl, _, rfl, ite2 (fun e5 => iteT ?_) (fun e5 => ?_)⟩
          · exact ⟨_, rfl, n1, _, rfl, .inl ⟨_, rfl, b0 _ (by omega), _, rfl, n2, _, rfl, n3, .inr ⟨_, rfl, by decide +kernel, _, rfl, n4, raise (fun z => absurd (of_decide_eq_true e5) (by omega))⟩⟩⟩
          · refine ⟨_, rfl, _, _, rfl, rfl, _, rfl, ite2 (fun e6 => ?_) (fun e6 => ?_)⟩
            · exact ⟨_, rfl, n1, _, rfl, .inl ⟨_, rfl, b0 _ (by omega), _, rfl, n2, _, rfl, n3, .inr ⟨_, rfl, by decide +kernel, _, rfl, n4, raise (fun z => absurd (of_decide_eq_true e6) (by omega))⟩⟩⟩
            · refine ⟨_, _, rfl, rfl, fun j p' hj hp' => ?_⟩
              by_cases ej : j = i
              · subst ej
                rw [g2] at hp'
                cases hp'
                have a1 : ¬ p.2 < 1 := fun z => e5 (decide_eq_true z)
                have a2 : ¬ 16 < p.2 := fun z => e6 (decide_eq_true z)
                omega
              · exact hok j p' (by omega) hp'
        · rintro σ H' ⟨v1, v2, rfl, rfl, hok⟩
          have hfine : Fine sh := fun p hp => by
            obtain ⟨j, hj⟩ := List.mem_iff_getElem?.mp hp
            exact hok j p (by rw [hlen]; exact (List.getElem?_eq_some_iff.mp hj).1) hj
          rw [if_pos (fineB_iff.mpr hfine)] at q
          refine ⟨_, rfl, a, sh, rfl, hS.same sm1, hm, _, _, rfl, rfl, _, rfl, ite2 (fun e7 => ?_) (fun e7 => ?_)⟩
          · rw [if_pos (of_decide_eq_true e7)] at q
            exact (q _ sm1).2 3 rfl
          · rw [if_neg (fun z => e7 (decide_eq_true z))] at q
            exact (q _ sm1).1 rfl
end
/-- the suite of an except clause, by what is known when it is reached -/
def tSu (X : Cx) (sts : List Stmt) : Addr → Value → Option Addr → TS := fun a cls d D σ H => ∀ (oe : Obj) (pn : List (Addr × Obj)), Zc cls d oe → (∃ vs, oe.data = .fields vs) → ∃ t, PSs (X.suite a ((a, oe) :: pn)) sts t ∧ t D σ H
theorem su_ok {X : Cx} {sts : List Stmt} {a : Addr} {cls : Value} {d : Option Addr} {oe : Obj} {pn : List (Addr × Obj)} (hz : Zc cls d oe) (hf : ∃ vs, oe.data = .fields vs) : PSs (X.suite a ((a, oe) :: pn)) sts (tSu X sts a cls d) :=
  ⟨fun pins s σ H D I h => by
    obtain ⟨t, p, q⟩ := h oe pn hz hf
    exact p.run pins s σ H D I q⟩
/-! ### drawing -/
/-- all but one place stands as it was -/
def But (d : Addr) (H H' : Hp) : Prop := ∀ b, b ≠ d → H' b = H b
theorem But.refl (d : Addr) (H : Hp) : But d H H := fun _ _ => rfl
theorem But.trans {d : Addr} {H H1 H2 : Hp} (a : But d H H1) (b : But d H1 H2) : But d H H2 := fun c h => (b c h).trans (a c h)
theorem But.upd {d : Addr} {H : Hp} {o : HO} : But d H (upd H d o) := fun _ h => upd_ne h
/-- the drawing state -/
def DrAt (H : Hp) (d c : Addr) : Prop := ∃ (ns : List Int) (i : Nat) (r s : Int), c ≠ d ∧ H d = some (.lst [.ref c, .int i, .int r, .int s]) ∧ H c = some (.lst (ns.map V.int)) ∧ i ≤ ns.length ∧ 0 ≤ r ∧ 0 ≤ s ∧ s < 2147483647
theorem DrAt.same {H H' : Hp} {d c : Addr} (h : DrAt H d c) (s : Same H H') : DrAt H' d c := by
  obtain ⟨ns, i, r, sd, n, h1, h2, h3⟩ := h
  exact ⟨ns, i, r, sd, n, s _ _ h1, s _ _ h2, h3⟩
theorem DrAt.lst {H : Hp} {d c : Addr} (h : DrAt H d c) : ∃ xs, H d = some (.lst xs) := by
  obtain ⟨ns, i, r, sd, n, h1, _⟩ := h
  exact ⟨_, h1⟩
theorem DrAt.lstc {H : Hp} {d c : Addr} (h : DrAt H d c) : ∃ xs, H c = some (.lst xs) := by
  obtain ⟨ns, i, r, sd, n, _, h1, _⟩ := h
  exact ⟨_, h1⟩
/-- another list may be changed -/
theorem DrAt.upd {H : Hp} {d c p : Addr} (h : DrAt H d c) (o : HO) (nd : p ≠ d) (nc : p ≠ c) : DrAt (upd H p o) d c := by
  obtain ⟨ns, i, r, sd, n, h1, h2, h3⟩ := h
  exact ⟨ns, i, r, sd, n, by rw [upd_ne nd.symm]; exact h1, by rw [upd_ne nc.symm]; exact h2, h3⟩
/-- what is no list is kept by a draw -/
theorem But.tup {d c b : Addr} {H H' : Hp} {xs : List V} (k : But d H H') (h : DrAt H d c) (hb : H b = some (.tup xs)) : H' b = some (.tup xs) := by
  obtain ⟨ys, hd⟩ := h.lst
  rw [k b (ne_of hb hd (fun z => nomatch z))]
  exact hb
def Bnd (m : Int) : Prop := m < 2 ^ 400
structure TxtD (mg : Str → Option Value) : Prop where
  int : mg "int" = none
  abs : mg "abs" = none
  len : mg "len" = none
  list : mg "list" = none
section
variable {P : Program} {w : World} {K : PySem.W.Frag} {mg : Str → Option Value} {base : Heap}
def spBegin (K : PySem.W.Frag) : Sp := fun vs H Q _ => ∃ (a : Addr) (ns : List Int), vs = [.ref a] ∧ SqL K H a (ns.map V.int) ∧ ns.length ≤ 63 ∧
  ∀ H' d c, Same H H' → H d = none → H c = none → DrAt H' d c → Q (.ref d) H'
theorem scB : FnScope ["script", "seed", "cell"] ["script"] (defScope sBegin) := ⟨rfl, rfl, rfl, by decide +kernel, rfl, by decide +kernel, by decide +kernel⟩
theorem ok_begin {f : Addr} {fd : FuncData} (F : Fun K "_law_begin" "_law_begin" sBegin f fd) (T : TxtD mg) : FnOk P w K mg base CX0 1 f fd ["script"] (spBegin K) := by
  refine F.ok scB (fun vs H Q E h => ?_) (fun cdv A outer s H vs Q E hr h => ?_)
  · obtain ⟨a, ns, rfl, _⟩ := h
    rfl
  · obtain ⟨a, ns, rfl, hS, hlen, q⟩ := h
    refine ⟨_, pss_cons (ps_set (i := 1) scB.nd rfl (.inl rfl) pe_int)
      (pss_cons (ps_for PassesOwn.never rfl (pi_list (pv 0)) (pg_name (i := 2) scB.nd rfl (.inl rfl))
        (pss_one (ps_set (i := 1) scB.nd rfl (.inl rfl)
          (pe_op op_mod (pe_op op_add (pe_op op_add (pe_op op_mul (pv 1) pe_int) (pe_op op_mod (pe_callTy call_int1 (by rfl) T.int (by decide +kernel) (pa_cons (pv 2) pa_nil)) pe_int)) pe_int) pe_int))))
      (pss_one (ps_ret (pe_lst (pa_cons (pe_callTy call_list_of (by rfl) T.list (by decide +kernel) (pa_cons (pv 0) pa_nil)) (pa_cons pe_int (pa_cons pe_int (pa_cons (pv 1) pa_nil)))))))), ?_⟩
    refine ⟨_, rfl, a, rfl, ⟨_, hS⟩, for_list (K := K) (a := a) (xs := ns.map V.int) (fun i σ H' => ∃ (z : Int) (v : Option V), σ = [some (.ref a), some (.int z), v] ∧ H' = H ∧ 0 ≤ z ∧ z < 2147483647)
      ⟨1, none, rfl, rfl, by decide, by decide⟩ (fun i σ H' _ ⟨_, _, _, e, _⟩ => by rw [e]; exact hS) ?_ ?_⟩
    · rintro i x σ H' hi ⟨z, v, rfl, rfl, h0, h1⟩
      obtain ⟨u, rfl⟩ : ∃ u, x = V.int u := by
        rw [List.getElem?_map] at hi
        cases e : ns[i]? with
        | none => rw [e] at hi; cases hi
        | some u => rw [e] at hi; exact ⟨u, (Option.some.inj hi).symm⟩
      refine ⟨_, rfl, _, _, rfl, rfl, .inl ⟨by omega, by omega⟩, _, rfl, .inl ⟨_, rfl, _, _, rfl, rfl, (by show (0 : Int) < 2147483629; decide), _, _, rfl, rfl, _, _, rfl, rfl, _, _, rfl, rfl, (by show (0 : Int) < 2147483647; decide), ?_⟩⟩
      exact ⟨_, _, rfl, rfl, Int.emod_nonneg _ (by decide), Int.emod_lt_of_pos _ (by decide)⟩
    · rintro σ H' ⟨z, v, rfl, rfl, h0, h1⟩
      refine ⟨_, rfl, a, _, rfl, .inl hS, fun c nc => ⟨_, rfl, by show 4 ≤ sizeLine; decide, fun d nd => ?_⟩⟩
      have ndc : d ≠ c := fun e => by
        rw [e, upd_same] at nd
        cases nd
      have nd0 : H' d = none := by
        rw [upd_ne ndc] at nd
        exact nd
      refine q _ d c (fun b o e => ?_) nd0 nc ⟨ns, 0, 0, z, ndc.symm, upd_same, ?_, Nat.zero_le _, by decide, h0, h1⟩
      · rw [upd_ne (ne_of_none e nd0), upd_ne (ne_of_none e nc)]
        exact e
      · rw [upd_ne ndc.symm, upd_same]
def spTake : Sp := fun vs H Q _ => ∃ (d c : Addr) (m : Int), vs = [.ref d, .int m] ∧ DrAt H d c ∧ 0 < m ∧ Bnd m ∧
  ∀ H' v, But d H H' → DrAt H' d c → 0 ≤ v → v < m → Q (.int v) H'
theorem scT : FnScope ["d", "many", "small", "digit"] ["d", "many"] (defScope sTake) := ⟨rfl, rfl, rfl, by decide +kernel, rfl, by decide +kernel, by decide +kernel⟩
theorem at0 {a b c e : V} : atI [a, b, c, e] (0 : Int) = some a := rfl
theorem at1 {a b c e : V} : atI [a, b, c, e] (1 : Int) = some b := rfl
theorem at2 {a b c e : V} : atI [a, b, c, e] (2 : Int) = some c := rfl
theorem at3 {a b c e : V} : atI [a, b, c, e] (3 : Int) = some e := rfl
theorem bnd_nat {m : Int} (h0 : 0 < m) (h : Bnd m) : m.natAbs < 2 ^ 400 := by
  have e : ((2 ^ 400 : Nat) : Int) = 2 ^ 400 := by decide +kernel
  unfold Bnd at h
  generalize (2 ^ 400 : Nat) = B at *
  omega
theorem bndW {r m : Int} (h0 : 0 < m) (h : Bnd m) : CDivW r m := wide_div (b := 400) h0 (bnd_nat h0 h) (by decide) (by decide)
theorem ok_take {f : Addr} {fd : FuncData} (F : Fun K "_law_take" "_law_take" sTake f fd) (T : TxtD mg) : FnOk P w K mg base CX0 1 f fd ["d", "many"] spTake := by
  refine F.ok scT (fun vs H Q E h => ?_) (fun cdv A outer s H vs Q E hr h => ?_)
  · obtain ⟨d, c, m, rfl, _⟩ := h
    rfl
  · obtain ⟨d, c, m, rfl, ⟨ns, i, r, sd, ncd, hd, hc, hi, hr0, hs0, hs1⟩, hm, hb, q⟩ := h
    refine ⟨_, Evl.pss_cut (ps_if (PW.pt (pw_and (pt_cmpR op_eq (pe_ix ix_list (pv 0) pe_int (fun _ _ => rfl)) pe_int (nomark _))
        (pw_and1 (pt_cmpR op_lt (pe_ix ix_list (pv 0) pe_int (fun _ _ => rfl)) (pe_callB call_len_seq (by rfl) T.len PySem.boot_len (pa_cons (pe_ix ix_list (pv 0) pe_int (fun _ _ => rfl)) pa_nil)) (nomark _)))))
        (pss_cons (ps_asg (pe_callB call_abs (by rfl) T.abs (by decide +kernel) (pa_cons (pe_callTy call_int1 (by rfl) T.int (by decide +kernel) (pa_cons (pe_ix ix_list (pe_ix ix_list (pv 0) pe_int (fun _ _ => rfl)) (pe_ix ix_list (pv 0) pe_int (fun _ _ => rfl)) (fun _ _ => rfl)) pa_nil)) pa_nil)) (pg_sub (pv 0) pe_int set_list))
        (pss_cons (ps_asg (pe_op op_add (pe_ix ix_list (pv 0) pe_int (fun _ _ => rfl)) pe_int) (pg_sub (pv 0) pe_int set_list))
        (pss_one (ps_if (pt_cmpR op_lt (pe_ix ix_list (pv 0) pe_int (fun _ _ => rfl)) (pe_op op_pow pe_int pe_int) (nomark _))
          (pss_cons (ps_set (i := 2) scT.nd rfl (.inl rfl) (pe_callTy call_int1 (by rfl) T.int (by decide +kernel) (pa_cons (pe_ix ix_list (pv 0) pe_int (fun _ _ => rfl)) pa_nil)))
          (pss_cons (ps_asg pe_int (pg_sub (pv 0) pe_int set_list))
          (pss_one (ps_ret (pe_op op_mod (pv 2) (pv 1))))))
          pss_nil))))
        pss_nil)
      (pss_cons (ps_if (pt_cmpR op_gt (pe_ix ix_list (pv 0) pe_int (fun _ _ => rfl)) pe_int (nomark _))
        (pss_cons (ps_set (i := 3) scT.nd rfl (.inl rfl) (pe_op op_mod (pe_callTy call_int1 (by rfl) T.int (by decide +kernel) (pa_cons (pe_ix ix_list (pv 0) pe_int (fun _ _ => rfl)) pa_nil)) (pv 1)))
        (pss_cons (ps_asg (pe_op op_fdivW (pe_callTy call_int1 (by rfl) T.int (by decide +kernel) (pa_cons (pe_ix ix_list (pv 0) pe_int (fun _ _ => rfl)) pa_nil)) (pv 1)) (pg_sub (pv 0) pe_int set_list))
        (pss_one (ps_ret (pv 3)))))
        pss_nil)
      (pss_cons (ps_asg (pe_op op_mod (pe_callTy call_int1 (by rfl) T.int (by decide +kernel) (pa_cons (pe_op op_add (pe_op op_mul (pe_ix ix_list (pv 0) pe_int (fun _ _ => rfl)) pe_int) pe_int) pa_nil)) pe_int) (pg_sub (pv 0) pe_int set_list))
      (pss_one (ps_ret (pe_op op_mod (pe_callTy call_int1 (by rfl) T.int (by decide +kernel) (pa_cons (pe_op op_fdiv (pe_ix ix_list (pv 0) pe_int (fun _ _ => rfl)) pe_int) pa_nil)) (pv 1)))))), ?_⟩
    refine ⟨fun σ' H' => ∃ (i r sd : Int) (x2 : Option V) (i' : Nat), σ' = [some (.ref d), some (.int m), x2, none] ∧ H' = upd H d (.lst [.ref c, .int i, .int r, .int sd]) ∧ i = i' ∧ i' ≤ ns.length ∧ 0 ≤ r ∧ 0 ≤ sd ∧ sd < 2147483647, ?_, ?_⟩
    · have same : H = upd H d (.lst [.ref c, .int i, .int r, .int sd]) := by
        funext b
        by_cases e : b = d
        · rw [e, upd_same, hd]
        · rw [upd_ne e]
      refine ⟨_, rfl, d, _, 2, _, rfl, rfl, SqL.of hd, at2, rfl, _, rfl, ite2 (fun e => ?_) (fun e => ?_)⟩
      · refine ⟨_, rfl, d, _, 1, _, rfl, rfl, SqL.of hd, at1, _, rfl, d, _, 0, _, rfl, rfl, SqL.of hd, at0, c, _, rfl, .inl (SqL.of hc), _, _, rfl, rfl, _, rfl, ite2 (fun e2 => ?_) (fun e2 => ?_)⟩
        · have hlt : i < ns.length := by
            have := of_decide_eq_true e2
            rw [List.length_map] at this
            omega
          have hx : (ns.map V.int)[i]? = some (.int ns[i]) := by
            rw [List.getElem?_map, List.getElem?_eq_getElem hlt]
            rfl
          generalize ns[i] = x at hx
          have hcd : ∀ o, (upd H d o) c = some (.lst (ns.map V.int)) := fun o => by rw [upd_ne ncd]; exact hc
          have habs : 0 ≤ (if x < 0 then -x else x) := by split <;> omega
          -- d[2] = abs(int(d[0][d[1]]))
          refine ⟨_, rfl, d, _, 0, _, rfl, rfl, SqL.of hd, at0, _, rfl, d, _, 1, _, rfl, rfl, SqL.of hd, at1, c, _, _, _, rfl, rfl, SqL.of hc, atI_nat hx, .inl ⟨x, rfl, x, rfl, _, rfl, d, _, 2, 2, rfl, rfl, hd, rfl, ?_⟩⟩
          generalize (if x < 0 then -x else x) = y at habs
          -- d[1] = d[1] + 1
          refine ⟨_, rfl, d, _, 1, _, rfl, rfl, SqL.of upd_same, at1, _, _, rfl, rfl, _, rfl, d, _, 1, 1, rfl, rfl, upd_same, rfl, ?_⟩
          rw [upd_upd]
          -- if d[2] < 10 ** 18
          refine ⟨_, rfl, d, _, 2, _, rfl, rfl, SqL.of upd_same, at2, 10, 18, rfl, rfl, ⟨by decide, by decide, by decide⟩, _, _, rfl, rfl, _, rfl, ite2 (fun e3 => ?_) (fun e3 => ?_)⟩
          · refine ⟨_, rfl, d, _, 2, _, rfl, rfl, SqL.of upd_same, at2, .inl ⟨_, rfl, _, rfl, d, _, 2, 2, rfl, rfl, upd_same, rfl, ?_⟩⟩
            rw [upd_upd]
            refine ⟨_, rfl, _, rfl, _, _, rfl, rfl, hm, ?_⟩
            exact q _ _ But.upd ⟨ns, i + 1, 0, sd, ncd, upd_same, hcd _, hlt, by decide, hs0, hs1⟩ (Int.emod_nonneg _ (by omega)) (Int.emod_lt_of_pos _ hm)
          · exact ⟨_, _, _, _, i + 1, rfl, rfl, rfl, hlt, habs, hs0, hs1⟩
        · exact ⟨_, _, _, _, i, rfl, same, rfl, hi, hr0, hs0, hs1⟩
      · exact iteF ⟨_, _, _, _, i, rfl, same, rfl, hi, hr0, hs0, hs1⟩
    · clear hd hi hr0 hs0 hs1
      rintro σ' H' ⟨i, r, sd, x2, i', rfl, rfl, rfl, hi, hr0, hs0, hs1⟩
      have hcd : ∀ o, (upd H d o) c = some (.lst (ns.map V.int)) := fun o => by rw [upd_ne ncd]; exact hc
      refine ⟨_, rfl, d, _, 2, _, rfl, rfl, SqL.of upd_same, at2, _, _, rfl, rfl, _, rfl, ite2 (fun e => ?_) (fun e => ?_)⟩
      · refine ⟨_, rfl, d, _, 2, _, rfl, rfl, SqL.of upd_same, at2, .inl ⟨_, rfl, _, rfl, _, _, rfl, rfl, hm, ?_⟩⟩
        refine ⟨_, rfl, d, _, 2, _, rfl, rfl, SqL.of upd_same, at2, .inl ⟨_, rfl, _, rfl, _, _, rfl, rfl, bndW hm hb, _, rfl, d, _, 2, 2, rfl, rfl, upd_same, rfl, ?_⟩⟩
        rw [upd_upd]
        refine ⟨_, rfl, ?_⟩
        exact q _ _ But.upd ⟨ns, i', _, sd, ncd, upd_same, hcd _, hi, Int.ediv_nonneg hr0 (by omega), hs0, hs1⟩ (Int.emod_nonneg _ (by omega)) (Int.emod_lt_of_pos _ hm)
      · refine ⟨_, rfl, d, _, 3, _, rfl, rfl, SqL.of upd_same, at3, _, _, rfl, rfl, .inl ⟨by omega, by omega⟩, _, _, rfl, rfl, .inl ⟨_, rfl, _, _, rfl, rfl, (by show (0 : Int) < 2147483647; decide), _, rfl, d, _, 3, 3, rfl, rfl, upd_same, rfl, ?_⟩⟩
        rw [upd_upd]
        refine ⟨_, rfl, d, _, 3, _, rfl, rfl, SqL.of upd_same, at3, _, _, rfl, rfl, ⟨by decide, by decide⟩, .inl ⟨_, rfl, _, rfl, _, _, rfl, rfl, hm, ?_⟩⟩
        exact q _ _ But.upd ⟨ns, i', r, _, ncd, upd_same, hcd _, hi, hr0, Int.emod_nonneg _ (by decide), Int.emod_lt_of_pos _ (by decide)⟩ (Int.emod_nonneg _ (by omega)) (Int.emod_lt_of_pos _ hm)
end

/-! ### two shapes together -/
theorem But.nl {d c : Addr} {H H' : Hp} (k : But d H H') (h : DrAt H d c) : NL H H' := fun b o e => by
  by_cases hb : b = d
  · subst hb
    obtain ⟨xs, hx⟩ := h.lst
    rw [hx] at e
    exact .inl ⟨xs, (Option.some.inj e).symm⟩
  · exact .inr (by rw [k b hb]; exact e)
def look (sh : Sh) (l : Nat) : Option Int := (sh.find? fun p => decide (p.1 = l)).map (·.2)
theorem look_none {sh : Sh} {l : Nat} : look sh l = none ↔ l ∉ codes sh := by
  unfold look codes
  rw [Option.map_eq_none_iff, List.find?_eq_none]
  constructor
  · intro h hm
    obtain ⟨p, hp, rfl⟩ := List.mem_map.mp hm
    exact h p hp (decide_eq_true rfl)
  · intro h p hp hd
    exact h (List.mem_map.mpr ⟨p, hp, of_decide_eq_true hd⟩)
theorem look_mem {sh : Sh} {l : Nat} {z : Int} (h : look sh l = some z) : (l, z) ∈ sh := by
  unfold look at h
  obtain ⟨p, hp, rfl⟩ := Option.map_eq_some_iff.mp h
  have h1 := List.mem_of_find?_eq_some hp
  have h2 : p.1 = l := of_decide_eq_true (List.find?_some (p := fun p : Nat × Int => decide (p.1 = l)) hp)
  subst h2
  exact h1
theorem look_of {sh : Sh} (hn : (codes sh).Nodup) {p : Nat × Int} (h : p ∈ sh) : look sh p.1 = some p.2 := by
  induction sh with
  | nil => cases h
  | cons q sh ih =>
    unfold look
    rw [List.find?_cons]
    unfold codes at hn
    rw [List.map_cons, List.nodup_cons] at hn
    rcases List.mem_cons.mp h with rfl | h'
    · rw [decide_eq_true rfl]
      rfl
    · have : q.1 ≠ p.1 := fun e => hn.1 (List.mem_map.mpr ⟨p, h', e.symm⟩)
      rw [decide_eq_false this]
      exact ih hn.2 h'
/-- the axes of the second that the first has not; none where a size differs -/
def castStep (sh1 : Sh) (acc : Option Sh) (p : Nat × Int) : Option Sh := acc.bind fun ad => match look sh1 p.1 with | none => some (ad ++ [p]) | some z => if z = p.2 then some ad else none
def cast (sh1 sh2 : Sh) : Option Sh := sh2.foldl (castStep sh1) (some [])
theorem cast_nil (sh1 : Sh) : cast sh1 [] = some [] := rfl
theorem cast_snoc (sh1 sh2 : Sh) (p : Nat × Int) : cast sh1 (sh2 ++ [p]) = castStep sh1 (cast sh1 sh2) p := by unfold cast; rw [List.foldl_append]; rfl
theorem cast_stop (sh1 : Sh) : ∀ l : Sh, l.foldl (castStep sh1) none = none
  | [] => rfl
  | p :: l => cast_stop sh1 l
theorem cast_app {sh1 a b : Sh} (h : cast sh1 a = none) : cast sh1 (a ++ b) = none := by
  unfold cast at *
  rw [List.foldl_append, h]
  exact cast_stop sh1 b
theorem cast_take {sh1 sh2 : Sh} {i : Nat} (h : cast sh1 (sh2.take i) = none) : cast sh1 sh2 = none := by
  have := cast_app (b := sh2.drop i) h
  rwa [List.take_append_drop] at this
/-- what is added -/
theorem cast_ind {sh1 : Sh} {P : Sh → Prop} (h0 : P []) (hs : ∀ ad p, P ad → p.1 ∉ codes sh1 → P (ad ++ [p])) : ∀ (n : Nat) (sh2 : Sh), sh2.length = n → ∀ ad, cast sh1 sh2 = some ad → P ad := by
  intro n
  induction n with
  | zero =>
    intro sh2 hl ad h
    rw [List.length_eq_zero_iff.mp hl] at h
    cases h
    exact h0
  | succ n ih =>
    intro sh2 hl ad h
    obtain ⟨r, p, rfl⟩ : ∃ r p, sh2 = r ++ [p] := ⟨sh2.dropLast, sh2.getLast (by intro z; rw [z] at hl; cases hl), (List.dropLast_concat_getLast _).symm⟩
    rw [cast_snoc] at h
    have hl' : r.length = n := by simpa using hl
    cases e : cast sh1 r with
    | none => rw [e] at h; cases h
    | some ad' =>
      rw [e] at h
      have hp := ih r hl' ad' e
      unfold castStep at h
      rw [Option.bind_some] at h
      cases e2 : look sh1 p.1 with
      | none =>
        rw [e2] at h
        cases h
        exact hs _ _ hp (look_none.mp e2)
      | some z =>
        rw [e2] at h
        dsimp only at h
        by_cases e3 : z = p.2
        · rw [if_pos e3] at h
          cases h
          exact hp
        · rw [if_neg e3] at h
          cases h
theorem cast_sub {sh1 : Sh} : ∀ (n : Nat) (sh2 : Sh), sh2.length = n → ∀ ad, cast sh1 sh2 = some ad → ad.Sublist sh2 ∧ ∀ p ∈ ad, p.1 ∉ codes sh1 := by
  intro n
  induction n with
  | zero =>
    intro sh2 hl ad h
    rw [List.length_eq_zero_iff.mp hl] at h ⊢
    cases h
    exact ⟨List.Sublist.refl _, fun _ h => (by cases h)⟩
  | succ n ih =>
    intro sh2 hl ad h
    obtain ⟨r, p, rfl⟩ : ∃ r p, sh2 = r ++ [p] := ⟨sh2.dropLast, sh2.getLast (by intro z; rw [z] at hl; cases hl), (List.dropLast_concat_getLast _).symm⟩
    rw [cast_snoc] at h
    have hl' : r.length = n := by simpa using hl
    cases e : cast sh1 r with
    | none => rw [e] at h; cases h
    | some ad' =>
      rw [e] at h
      obtain ⟨hp, hq⟩ := ih r hl' ad' e
      unfold castStep at h
      rw [Option.bind_some] at h
      cases e2 : look sh1 p.1 with
      | none =>
        rw [e2] at h
        cases h
        refine ⟨List.Sublist.append hp (List.Sublist.refl _), fun q hm => ?_⟩
        rcases List.mem_append.mp hm with hm | hm
        · exact hq q hm
        · rw [List.mem_singleton] at hm
          subst hm
          exact look_none.mp e2
      | some z =>
        rw [e2] at h
        dsimp only at h
        by_cases e3 : z = p.2
        · rw [if_pos e3] at h
          cases h
          exact ⟨hp.trans (List.sublist_append_left _ _), hq⟩
        · rw [if_neg e3] at h
          cases h
theorem cast_len {sh1 sh2 ad : Sh} (h : cast sh1 sh2 = some ad) : ad.length ≤ sh2.length := (cast_sub _ sh2 rfl ad h).1.length_le
theorem cast_mod {sh1 sh2 ad : Sh} (h : cast sh1 sh2 = some ad) (m1 : Mod sh1) (m2 : Mod sh2) : Mod (sh1 ++ ad) := fun p hp => by
  rcases List.mem_append.mp hp with hp | hp
  · exact m1 p hp
  · exact m2 p ((cast_sub _ sh2 rfl ad h).1.mem hp)
theorem cast_fine {sh1 sh2 ad : Sh} (h : cast sh1 sh2 = some ad) (m1 : Fine sh1) (m2 : Fine sh2) : Fine (sh1 ++ ad) := fun p hp => by
  rcases List.mem_append.mp hp with hp | hp
  · exact m1 p hp
  · exact m2 p ((cast_sub _ sh2 rfl ad h).1.mem hp)
theorem cast_nodup {sh1 sh2 ad : Sh} (h : cast sh1 sh2 = some ad) (m1 : (codes sh1).Nodup) (m2 : (codes sh2).Nodup) : (codes (sh1 ++ ad)).Nodup := by
  obtain ⟨hs, hq⟩ := cast_sub _ sh2 rfl ad h
  unfold codes at *
  rw [List.map_append, List.nodup_append]
  refine ⟨m1, (hs.map _).nodup m2, fun a ha b hb e => ?_⟩
  obtain ⟨p, hp, rfl⟩ := List.mem_map.mp hb
  subst e
  exact hq p hp ha
/-- the first's letters as a dict -/
def kvsOf (sh : Sh) : List (Key × V) := sh.map fun p => (.inr (one p.1), .int p.2)
theorem one_inj {a b : Nat} (h : one a = one b) : a = b := by
  have : (one a).cps.toList = (one b).cps.toList := by rw [h]
  exact (List.cons.inj this).1
theorem valV_kvs (sh : Sh) (l : Nat) : valV (kvsOf sh) (.inr (one l)) = (look sh l).map V.int := by
  induction sh with
  | nil => rfl
  | cons p sh ih =>
    unfold valV kvsOf look at *
    rw [List.map_cons, List.find?_cons, List.find?_cons]
    by_cases e : p.1 = l
    · have e2 : decide ((Sum.inr (one p.1) : Key) = .inr (one l)) = true := decide_eq_true (by rw [e])
      rw [e2, decide_eq_true e]
      rfl
    · have e2 : decide ((Sum.inr (one p.1) : Key) = .inr (one l)) = false := decide_eq_false fun z => e (one_inj (Sum.inr.inj z))
      rw [e2, decide_eq_false e]
      exact ih
theorem mergeK_new : ∀ (more acc : List (Key × V)), ((acc ++ more).map (·.1)).Nodup → mergeK acc more = acc ++ more
  | [], acc, _ => (List.append_nil _).symm
  | p :: r, acc, h => by
    have hv : valV acc p.1 = none := by
      unfold valV
      rw [Option.map_eq_none_iff, List.find?_eq_none]
      intro q hq hd
      have e := of_decide_eq_true hd
      rw [List.map_append, List.nodup_append] at h
      exact h.2.2 q.1 (List.mem_map.mpr ⟨q, hq, rfl⟩) p.1 (List.mem_map.mpr ⟨p, List.mem_cons_self, rfl⟩) e
    show mergeK (putK acc p.1 p.2) r = acc ++ p :: r
    rw [putK_new p.2 hv, mergeK_new r _ (by rw [List.append_assoc]; exact h), List.append_assoc]
    rfl
theorem mergeK_kvs {sh : Sh} (h : (codes sh).Nodup) : mergeK [] (kvsOf sh) = kvsOf sh := by
  refine mergeK_new _ [] ?_
  rw [List.nil_append]
  unfold kvsOf codes at *
  rw [List.map_map]
  refine List.pairwise_map.mpr ((List.pairwise_map.mp h).imp fun n e => n ?_)
  exact one_inj (Sum.inr.inj e)
theorem paired_kvs {K : PySem.W.Frag} {H : Hp} : ∀ {ts : List Addr} {sh : Sh}, Axes K H ts sh → Paired (fun p (kv : Key × V) => SqT K H p [kV kv.1, kv.2]) ts (kvsOf sh)
  | [], [], _ => .nil
  | [], p :: sh, h => nomatch h.1
  | t :: ts, [], h => nomatch h.1
  | t :: ts, p :: sh, h => .cons (h.2 0 t p rfl rfl) (paired_kvs ⟨Nat.succ.inj h.1, fun i t' p' a b => h.2 (i + 1) t' p' (by simpa using a) (by simpa using b)⟩)
theorem Axes.append {K : PySem.W.Frag} {H : Hp} {ts ts' : List Addr} {sh sh' : Sh} (h : Axes K H ts sh) (h' : Axes K H ts' sh') : Axes K H (ts ++ ts') (sh ++ sh') := by
  refine ⟨by rw [List.length_append, List.length_append, h.1, h'.1], fun i u q a b => ?_⟩
  by_cases hi : i < ts.length
  · rw [List.getElem?_append_left hi] at a
    rw [List.getElem?_append_left (by rw [← h.1]; exact hi)] at b
    exact h.2 i u q a b
  · rw [List.getElem?_append_right (by omega)] at a
    rw [List.getElem?_append_right (by rw [← h.1]; omega)] at b
    rw [h.1] at a
    exact h'.2 _ u q a b
section
variable {P : Program} {w : World} {K : PySem.W.Frag} {mg : Str → Option Value} {base : Heap}
def spMerged (K : PySem.W.Frag) (C : Nat → Addr) : Sp := fun vs H Q E => ∃ (a b : Addr) (sh1 sh2 : Sh), vs = [.ref a, .ref b] ∧ ShT K H a sh1 ∧ NoD K H a ∧ ShT K H b sh2 ∧ sh1.length ≤ 16 ∧ sh2.length ≤ 16 ∧ (codes sh1).Nodup ∧
  (cast sh1 sh2 = none → ∀ H', Same H H' → E (.ref (C 2)) none H') ∧ ∀ ad, cast sh1 sh2 = some ad → ∀ H' p, Same H H' → ShT K H' p (sh1 ++ ad) → NoD K H' p → Q (.ref p) H'
theorem scME : FnScope ["first", "second", "sizes", "added", "letter", "size"] ["first", "second"] (defScope sMerged) := ⟨rfl, rfl, rfl, by decide +kernel, rfl, by decide +kernel, by decide +kernel⟩
theorem ok_merged {f : Addr} {C : Nat → Addr} {fd : FuncData} (F : Fun K "merged" "merged" sMerged f fd) (R : ErrR K mg "AxisError" (C 2)) (md : mg "dict" = none) (mt : mg "tuple" = none) :
    FnOk P w K mg base (L2.CX P w) 1 f fd ["first", "second"] (spMerged K C) := by
  refine F.okX scME (fun vs H Q E h => ?_) (fun cdv A outer s H vs Q E hr h => ?_)
  · obtain ⟨a, b, sh1, sh2, rfl, _⟩ := h
    rfl
  · obtain ⟨a, b, sh1, sh2, rfl, ⟨ts, ha, hx⟩, nd, ⟨ts2, hb, hx2⟩, l1, l2, hn, qE, qQ⟩ := h
    refine ⟨_, (pss_cons (ps_set (i := 2) scME.nd rfl (.inl rfl) (pe_callTy (call_dictT (by rfl)) (by rfl) md (by decide +kernel) (pa_cons (pv 0) pa_nil)))
      (pss_cons (ps_set (i := 3) scME.nd rfl (.inl rfl) (pe_lst pa_nil))
      (pss_cons (ps_for (passes_of rfl) rfl (pi_tup (pv 1)) (pg_tup rfl (pgs_cons (pg_name (i := 4) scME.nd rfl (.inl rfl)) (pgs_cons (pg_name (i := 5) scME.nd rfl (.inl rfl)) pgs_nil))) (pss_one (ps_if (pt_cmp (pc_dnotin (Nat.lt_of_le_of_lt (Nat.add_le_add_left (by decide) _) hr.units) (pv 4) (pv 2))) (pss_one (ps_expr (pe_bm PySem.F.plainAttrs_list PySem.F.slot_list_append PySem.F.type_list_append mt_append (pv 3) (pa_cons (pe_tup (pa_cons (pv 4) (pa_cons (pv 5) pa_nil))) pa_nil)))) (pss_one (ps_if (pt_cmpR op_ne (pe_dget (Nat.lt_of_le_of_lt (Nat.add_le_add_left (by decide) _) hr.units) (pv 2) (pv 4) (fun _ _ => rfl)) (pv 5) (nomark _)) (pss_one (ps_raise rfl (takes_of rfl rfl rfl rfl) (SkE.pmk_own1 PySem.F.excBase_ValueError R.x R.g R.k (raises_own R.b R.t) rfl (pe_joined (.cons pe_str (.cons (pe_fmt (pv 4)) (.cons pe_str .nil))))))) pss_nil)))))
      (pss_one (ps_ret (pe_op op_catF (pv 0) (pe_callTy call_tuple_ofF (by rfl) mt (by decide +kernel) (pa_cons (pv 3) pa_nil)))))))), ?_⟩
    have hlen : (ts2.map V.ref).length = sh2.length := by rw [List.length_map, hx2.1]
    refine ⟨_, rfl, a, ts, kvsOf sh1, rfl, ha, nd, paired_kvs hx, fun dd ndd => ?_⟩
    rw [mergeK_kvs hn]
    refine ⟨Nat.zero_le _, fun p np => ?_⟩
    have s1 : Same H (upd (upd H dd (.dK (kvsOf sh1))) p (.lst [])) := (same_upd ndd).trans (same_upd np)
    have hd : (upd (upd H dd (.dK (kvsOf sh1))) p (.lst [])) dd = some (.dK (kvsOf sh1)) := by rw [upd_ne (ne_of_none upd_same np), upd_same]
    have hp : (upd (upd H dd (.dK (kvsOf sh1))) p (.lst [])) p = some (.lst []) := upd_same
    have hfp : H p = none := Same.free (same_upd ndd) np
    clear np
    generalize upd (upd H dd (.dK (kvsOf sh1))) p (.lst []) = H1 at *
    refine ⟨_, rfl, b, rfl, ⟨_, sqT_same hb s1⟩, for_tup (K := K) (a := b) (xs := ts2.map V.ref) (fun i σ H' => ∃ (ad : Sh) (ats : List Addr) (v4 v5 : Option V), σ = [some (.ref a), some (.ref b), some (.ref dd), some (.ref p), v4, v5] ∧ cast sh1 (sh2.take i) = some ad ∧
        Same H H' ∧ H' dd = some (.dK (kvsOf sh1)) ∧ H' p = some (.lst (ats.map V.ref)) ∧ Axes K H' ats ad)
      ⟨[], [], none, none, rfl, rfl, s1, hd, hp, Axes.nil⟩ (fun i σ H' _ ⟨_, _, _, _, _, _, e, _⟩ => sqT_same hb e) ?_ ?_⟩
    · clear hd hp s1
      rintro i x σ H' hi ⟨ad, ats, v4, v5, rfl, hc, s1, hd, hp, hax⟩
      obtain ⟨t, q, rfl, g1, g2, g3⟩ := (hx2.same s1).at hi
      have hc' := cast_snoc sh1 (sh2.take i) q
      rw [← take_snoc g2, hc] at hc'
      refine ⟨t, _, rfl, g3, rfl, _, _, rfl, _, _, rfl, rfl, ?_⟩
      refine ⟨_, rfl, _, rfl, dd, _, rfl, DGet.k (k := .inr (one q.1)) hd, ?_⟩
      rw [valV_kvs]
      have hil : i < sh2.length := (List.getElem?_eq_some_iff.mp g2).1
      have hal : ad.length ≤ 16 := by
        have := cast_len hc
        rw [List.length_take] at this
        omega
      cases e : look sh1 q.1 with
      | none =>
        refine ⟨_, rfl, iteT ?_⟩
        have t2 : 2 ≤ sizeLine := by decide
        refine ⟨_, rfl, .inl ⟨rfl, _, SqL.of hp⟩, _, rfl, _, rfl, t2, fun u nu => ?_⟩
        have s8 := same_upd (o := .tup [.str (one q.1), .int q.2]) nu
        refine ⟨p, _, _, rfl, rfl, s8 _ _ hp, ?_, ?_⟩
        · rw [List.length_map, hax.1]
          exact small1000 (by omega)
        · have hne : ∀ x : Addr, H x ≠ none → x ≠ p := fun x h e => h (by rw [e]; exact hfp)
          refine ⟨ad ++ [q], ats ++ [u], _, _, rfl, ?_, fun x o e => ?_, ?_, ?_, ?_⟩
          · rw [hc', castStep, Option.bind_some, e]
          · rw [upd_ne (hne x (by rw [e]; exact fun z => nomatch z))]
            exact s8 _ _ (s1 _ _ e)
          · rw [upd_ne (ne_of hd hp (fun z => nomatch z))]
            exact s8 _ _ hd
          · rw [upd_same, List.map_append]
            rfl
          · exact ((hax.same s8).snoc (SqT.of upd_same)).keep (nl_upd (s8 _ _ hp))
      | some z =>
        refine ⟨_, rfl, iteF ?_⟩
        refine ⟨_, rfl, _, rfl, dd, .int z, rfl, ?_, _, rfl, rfl, _, rfl, ?_⟩
        · have := DGet.k (k := .inr (one q.1)) hd
          rw [valV_kvs, e] at this
          exact this
        rw [dec_int]
        by_cases ez : z = q.2
        · rw [show (z == q.2) = true from beq_iff_eq.mpr ez]
          refine iteF ⟨ad, ats, _, _, rfl, ?_, s1, hd, hp, hax⟩
          rw [hc', castStep, Option.bind_some, e]
          dsimp only
          rw [if_pos ez]
        · rw [show (z == q.2) = false from beq_eq_false_iff_ne.mpr ez]
          refine iteT ?_
          have b0 : ∀ x : Str, x.length ≤ 100 → x.length ≤ sizeLine := fun x h => Nat.le_trans h (by decide)
          have m1 : (Str.empty ++ ("the axis " : Str)).length = 9 := by decide +kernel
          have m2 : (one q.1).length = 1 := rfl
          have m3 : (" has two sizes" : Str).length = 14 := by decide +kernel
          have n1 := b0 (Str.empty ++ ("the axis " : Str)) (by omega)
          have n2 := b0 (Str.empty ++ ("the axis " : Str) ++ one q.1) (by rw [txt_len]; omega)
          have n3 := b0 (Str.empty ++ ("the axis " : Str) ++ one q.1 ++ (" has two sizes" : Str)) (by rw [txt_len, txt_len]; omega)
          refine ⟨_, rfl, n1, _, rfl, .inl ⟨_, rfl, b0 _ (by omega), _, rfl, n2, _, rfl, n3, qE (cast_take (i := i + 1) ?_) _ s1⟩⟩
          rw [hc', castStep, Option.bind_some, e]
          dsimp only
          rw [if_neg ez]
    · rintro σ H' ⟨ad, ats, v4, v5, rfl, hc, s2, hd2, hp2, hax⟩
      rw [hlen, List.take_length] at hc
      have hal := cast_len hc
      have haln : (ats.map V.ref).length = ad.length := by rw [List.length_map, hax.1]
      have htln : (ts.map V.ref).length = sh1.length := by rw [List.length_map, hx.1]
      refine ⟨_, rfl, _, rfl, p, _, rfl, SqL.of hp2, fun l o nl ho => ?_⟩
      have s3 := s2.trans (same_upd (o := .frz o (.tup (ats.map V.ref))) nl)
      have hl : SqT K (upd H' l (.frz o (.tup (ats.map V.ref)))) l (ats.map V.ref) := .inl (.inr ⟨o, upd_same⟩)
      have hNl : NoD K (upd H' l (.frz o (.tup (ats.map V.ref)))) l := ⟨o, ho, .inl ⟨_, upd_same⟩⟩
      have hax3 := hax.same (same_upd (o := .frz o (.tup (ats.map V.ref))) nl)
      have hx3 := hx.same s3
      generalize upd H' l (.frz o (.tup (ats.map V.ref))) = H3 at *
      refine ⟨a, l, _, _, rfl, rfl, sqT_same ha s3, hl, ?_, fun e => ?_, fun e e2 => ?_, fun e e2 l2 o2 nl2 ho2 => ?_⟩
      · rw [haln, htln]
        exact Nat.le_trans (show _ ≤ 100 by omega) (by decide)
      · have : sh1 = [] := List.length_eq_zero_iff.mp (by rw [← htln, e]; rfl)
        subst this
        exact qQ ad hc _ l s3 ⟨ats, hl, hax3⟩ hNl
      · have : ad = [] := List.length_eq_zero_iff.mp (by rw [← haln, e2]; rfl)
        subst this
        refine qQ [] hc _ a s3 ?_ (nd.same s3)
        rw [List.append_nil]
        exact ⟨ts, sqT_same ha s3, hx3⟩
      · have s4 := same_upd (o := .frz o2 (.tup (ts.map V.ref ++ ats.map V.ref))) nl2
        refine qQ ad hc _ l2 (s3.trans s4) ⟨ts ++ ats, ?_, (hx3.same s4).append (hax3.same s4)⟩ ⟨o2, ho2, .inl ⟨_, upd_same⟩⟩
        rw [List.map_append]
        exact .inl (.inr ⟨o2, upd_same⟩)
end
section
variable {P : Program} {w : World} {K : PySem.W.Frag} {mg : Str → Option Value} {base : Heap}
/-- what comes of two shapes: 0 and the shape, or an error's number -/
def rc (sh1 sh2 : Sh) : Nat × Sh := match cast sh1 sh2 with | none => (2, []) | some ad => (chk (sh1 ++ ad), sh1 ++ ad)
theorem rc_none {sh1 sh2 : Sh} (h : cast sh1 sh2 = none) : rc sh1 sh2 = (2, []) := by unfold rc; rw [h]
theorem rc_some {sh1 sh2 ad : Sh} (h : cast sh1 sh2 = some ad) : rc sh1 sh2 = (chk (sh1 ++ ad), sh1 ++ ad) := by unfold rc; rw [h]
/-- broadcast -/
def spBroad (K : PySem.W.Frag) (C : Nat → Addr) : Sp := fun vs H Q E => ∃ (a b : Addr) (sh1 sh2 : Sh), vs = [.ref a, .ref b] ∧ ShT K H a sh1 ∧ NoD K H a ∧ ShT K H b sh2 ∧ sh1.length ≤ 8 ∧ sh2.length ≤ 8 ∧ (codes sh1).Nodup ∧ Mod sh1 ∧ Mod sh2 ∧
  ∀ H', Same H H' → ((rc sh1 sh2).1 = 0 → ∀ p, ShT K H' p (rc sh1 sh2).2 → NoD K H' p → Q (.ref p) H') ∧ ∀ k, (rc sh1 sh2).1 = k + 1 → E (.ref (C (k + 1))) none H'
theorem scBR : FnScope ["first", "second", "shape"] ["first", "second"] (defScope sBroad) := ⟨rfl, rfl, rfl, by decide +kernel, rfl, by decide +kernel, by decide +kernel⟩
theorem ok_broad {f fM fK : Addr} {C : Nat → Addr} {fd fdM fdK : FuncData} (F : Fun K "broadcast" "broadcast" sBroad f fd)
    (GM : FnOk P w K mg base (L2.CX P w) 1 fM fdM ["first", "second"] (spMerged K C)) (kM : PySem.W.keepIn K (.ref fM) = true) (bM : Binds K fdM ["first", "second"] []) (gM : mg "merged" = some (.ref fM))
    (GK : FnOk P w K mg base (L2.CX P w) 2 fK fdK ["shape"] (spCheck K C)) (kK : PySem.W.keepIn K (.ref fK) = true) (bK : Binds K fdK ["shape"] []) (gK : mg "check_shape" = some (.ref fK)) :
    FnOk P w K mg base (L2.CX P w) 3 f fd ["first", "second"] (spBroad K C) := by
  refine F.okX scBR (fun vs H Q E h => ?_) (fun cdv A outer s H vs Q E hr h => ?_)
  · obtain ⟨a, b, sh1, sh2, rfl, _⟩ := h
    rfl
  · obtain ⟨a, b, sh1, sh2, rfl, hS1, nd, hS2, l1, l2, hn, m1, m2, q⟩ := h
    have hr1 : Room 1 _ := hr.mono (by decide)
    refine ⟨_, pss_cons (ps_set (i := 2) scBR.nd rfl (.inl rfl) (pe_callS GM hr1 (by rfl) gM kM bM (fun σ => passAt (takes_of rfl rfl rfl rfl) σ) (pa_cons (pv 0) (pa_cons (pv 1) pa_nil))))
      (pss_cons (ps_expr (pe_callS GK hr (by rfl) gK kK bK (fun σ => passAt (takes_of rfl rfl rfl rfl) σ) (pa_cons (pv 2) pa_nil)))
      (pss_one (ps_ret (pv 2)))), ?_⟩
    refine ⟨_, rfl, _, rfl, a, b, sh1, sh2, rfl, hS1, nd, hS2, by omega, by omega, hn, fun e H' s' => ?_, fun ad e H' p s' hS hN => ?_⟩
    · exact (q _ s').2 1 (by rw [rc_none e])
    · have hl := cast_len e
      refine ⟨_, rfl, p, _, rfl, hS, by rw [List.length_append]; omega, cast_mod e m1 m2, fun H2 s2 => ⟨fun e0 => ?_, fun k ek => ?_⟩⟩
      · refine ⟨_, rfl, ?_⟩
        refine (q _ (s'.trans s2)).1 ?_ p ?_ (hN.same s2)
        · rw [rc_some e]
          exact e0
        · rw [rc_some e]
          exact hS.same s2
      · refine (q _ (s'.trans s2)).2 k ?_
        rw [rc_some e]
        exact ek
/-! ### the law's defs -/
theorem scLC : FnScope ["shape", "count", "axis"] ["shape"] (defScope sCount) := ⟨rfl, rfl, rfl, by decide +kernel, rfl, by decide +kernel, by decide +kernel⟩
theorem scLS : FnScope ["shape", "letter", "axis"] ["shape", "letter"] (defScope sSize) := ⟨rfl, rfl, rfl, by decide +kernel, rfl, by decide +kernel, by decide +kernel⟩
def ShL (K : PySem.W.Frag) (H : Hp) (a : Addr) (sh : Sh) : Prop := ∃ ts : List Addr, SqL K H a (ts.map V.ref) ∧ Axes K H ts sh
theorem look_app (a b : Sh) (l : Nat) : look (a ++ b) l = (look a l).or (look b l) := by
  unfold look
  rw [List.find?_append]
  cases a.find? fun p => decide (p.1 = l) <;> rfl
theorem look_hit {sh : Sh} {i l : Nat} {q : Nat × Int} (h0 : look (sh.take i) l = none) (hq : sh[i]? = some q) : look (sh.take (i + 1)) l = if q.1 = l then some q.2 else none := by
  rw [take_snoc hq, look_app, h0, Option.none_or]
  unfold look
  rw [List.find?_cons]
  by_cases e : q.1 = l
  · rw [decide_eq_true e, if_pos e]
    rfl
  · rw [decide_eq_false e, if_neg e]
    rfl
theorem look_all {sh : Sh} {i l : Nat} {z : Int} (h : look (sh.take i) l = some z) : look sh l = some z := by
  have := look_app (sh.take i) (sh.drop i) l
  rw [List.take_append_drop, h] at this
  exact this

def spCountT (K : PySem.W.Frag) : Sp := fun vs H Q _ => ∃ (a : Addr) (sh : Sh), vs = [.ref a] ∧ ShT K H a sh ∧ Mod sh ∧ Q (.int (prod (sizes sh))) H
theorem ok_countT {f : Addr} {fd : FuncData} (F : Fun K "_law_count" "_law_count" sCount f fd) : FnOk P w K mg base CX0 1 f fd ["shape"] (spCountT K) := by
  refine F.ok scLC (fun vs H Q E h => ?_) (fun cdv A outer s H vs Q E hr h => ?_)
  · obtain ⟨a, sh, rfl, _⟩ := h
    rfl
  · obtain ⟨a, sh, rfl, ⟨ts, ha, hx⟩, hf, q⟩ := h
    refine ⟨_, pss_cons (ps_set (i := 1) scLC.nd rfl (.inl rfl) pe_int)
      (pss_cons (ps_for PassesOwn.never rfl (pi_tup (pv 0)) (pg_name (i := 2) scLC.nd rfl (.inl rfl))
        (pss_one (ps_set (i := 1) scLC.nd rfl (.inl rfl) (pe_op op_mul (pv 1) (pe_ix ix_tup (pv 2) pe_int (fun _ _ => rfl))))))
      (pss_one (ps_ret (pv 1)))), ?_⟩
    refine ⟨_, rfl, a, rfl, ⟨_, ha⟩, for_tup (K := K) (a := a) (xs := ts.map V.ref) (fun i σ H' => ∃ (v : Option V), σ = [some (.ref a), some (.int (prod ((sizes sh).take i))), v] ∧ H' = H)
      ⟨none, rfl, rfl⟩ (fun i σ H' _ ⟨_, _, e⟩ => by rw [e]; exact ha) ?_ ?_⟩
    · rintro i x σ H' hi ⟨v, rfl, rfl⟩
      obtain ⟨t, p, rfl, g1, g2, g3⟩ := hx.at hi
      have hp := hf p (List.mem_of_getElem? g2)
      refine ⟨_, rfl, _, rfl, t, _, 1, _, rfl, rfl, g3, rfl, _, _, rfl, rfl, .inr ⟨by omega, by omega⟩, ?_⟩
      refine ⟨some (.ref t), ?_, rfl⟩
      rw [take_snoc (sz_at g2), prod_snoc]
      rfl
    · rintro σ H' ⟨v, rfl, rfl⟩
      refine ⟨_, rfl, ?_⟩
      rw [show (ts.map V.ref).length = (sizes sh).length by rw [List.length_map, hx.1, sizes, List.length_map], List.take_length]
      exact q
def spSizeT (K : PySem.W.Frag) : Sp := fun vs H Q _ => ∃ (a : Addr) (sh : Sh) (l : Nat), vs = [.ref a, .str (one l)] ∧ ShT K H a sh ∧ Q (.int ((look sh l).getD 0)) H
theorem ok_sizeT {f : Addr} {fd : FuncData} (F : Fun K "_law_size" "_law_size" sSize f fd) : FnOk P w K mg base CX0 1 f fd ["shape", "letter"] (spSizeT K) := by
  refine F.ok scLS (fun vs H Q E h => ?_) (fun cdv A outer s H vs Q E hr h => ?_)
  · obtain ⟨a, sh, l, rfl, _⟩ := h
    rfl
  · obtain ⟨a, sh, l, rfl, ⟨ts, ha, hx⟩, q⟩ := h
    refine ⟨_, pss_cons (ps_for PassesOwn.never rfl (pi_tup (pv 0)) (pg_name (i := 2) scLS.nd rfl (.inl rfl))
        (pss_one (ps_if (pt_cmpR op_eq (pe_ix ix_tup (pv 2) pe_int (fun _ _ => rfl)) (pv 1) (nomark _)) (pss_one (ps_ret (pe_ix ix_tup (pv 2) pe_int (fun _ _ => rfl)))) pss_nil)))
      (pss_one (ps_ret pe_int)), ?_⟩
    refine ⟨_, rfl, a, rfl, ⟨_, ha⟩, for_tup (K := K) (a := a) (xs := ts.map V.ref) (fun i σ H' => ∃ (v : Option V), σ = [some (.ref a), some (.str (one l)), v] ∧ H' = H ∧ look (sh.take i) l = none)
      ⟨none, rfl, rfl, rfl⟩ (fun i σ H' _ ⟨_, _, e, _⟩ => by rw [e]; exact ha) ?_ ?_⟩
    · rintro i x σ H' hi ⟨v, rfl, rfl, h0⟩
      obtain ⟨t, p, rfl, g1, g2, g3⟩ := hx.at hi
      have h1 := look_hit h0 g2
      refine ⟨_, rfl, t, _, 0, _, rfl, rfl, g3, rfl, _, rfl, rfl, _, rfl, ?_⟩
      by_cases e : p.1 = l
      · rw [decide_eq_true (show V.str (one p.1) = V.str (one l) by rw [e])]
        refine iteT ⟨_, rfl, t, _, 1, _, rfl, rfl, g3, rfl, ?_⟩
        rw [if_pos e] at h1
        rw [look_all h1] at q
        exact q
      · rw [decide_eq_false (fun z => e (one_inj (V.str.inj z)))]
        refine iteF ⟨_, rfl, rfl, ?_⟩
        rw [h1, if_neg e]
    · rintro σ H' ⟨v, rfl, rfl, h0⟩
      rw [show (ts.map V.ref).length = sh.length by rw [List.length_map, hx.1], List.take_length] at h0
      rw [h0] at q
      exact q

def spCountL (K : PySem.W.Frag) : Sp := fun vs H Q _ => ∃ (a : Addr) (sh : Sh), vs = [.ref a] ∧ ShL K H a sh ∧ Mod sh ∧ Q (.int (prod (sizes sh))) H
theorem ok_countL {f : Addr} {fd : FuncData} (F : Fun K "_law_count" "_law_count" sCount f fd) : FnOk P w K mg base CX0 1 f fd ["shape"] (spCountL K) := by
  refine F.ok scLC (fun vs H Q E h => ?_) (fun cdv A outer s H vs Q E hr h => ?_)
  · obtain ⟨a, sh, rfl, _⟩ := h
    rfl
  · obtain ⟨a, sh, rfl, ⟨ts, ha, hx⟩, hf, q⟩ := h
    refine ⟨_, pss_cons (ps_set (i := 1) scLC.nd rfl (.inl rfl) pe_int)
      (pss_cons (ps_for PassesOwn.never rfl (pi_list (pv 0)) (pg_name (i := 2) scLC.nd rfl (.inl rfl))
        (pss_one (ps_set (i := 1) scLC.nd rfl (.inl rfl) (pe_op op_mul (pv 1) (pe_ix ix_tup (pv 2) pe_int (fun _ _ => rfl))))))
      (pss_one (ps_ret (pv 1)))), ?_⟩
    refine ⟨_, rfl, a, rfl, ⟨_, ha⟩, for_list (K := K) (a := a) (xs := ts.map V.ref) (fun i σ H' => ∃ (v : Option V), σ = [some (.ref a), some (.int (prod ((sizes sh).take i))), v] ∧ H' = H)
      ⟨none, rfl, rfl⟩ (fun i σ H' _ ⟨_, _, e⟩ => by rw [e]; exact ha) ?_ ?_⟩
    · rintro i x σ H' hi ⟨v, rfl, rfl⟩
      obtain ⟨t, p, rfl, g1, g2, g3⟩ := hx.at hi
      have hp := hf p (List.mem_of_getElem? g2)
      refine ⟨_, rfl, _, rfl, t, _, 1, _, rfl, rfl, g3, rfl, _, _, rfl, rfl, .inr ⟨by omega, by omega⟩, ?_⟩
      refine ⟨some (.ref t), ?_, rfl⟩
      rw [take_snoc (sz_at g2), prod_snoc]
      rfl
    · rintro σ H' ⟨v, rfl, rfl⟩
      refine ⟨_, rfl, ?_⟩
      rw [show (ts.map V.ref).length = (sizes sh).length by rw [List.length_map, hx.1, sizes, List.length_map], List.take_length]
      exact q
def spSizeL (K : PySem.W.Frag) : Sp := fun vs H Q _ => ∃ (a : Addr) (sh : Sh) (l : Nat), vs = [.ref a, .str (one l)] ∧ ShL K H a sh ∧ Q (.int ((look sh l).getD 0)) H
theorem ok_sizeL {f : Addr} {fd : FuncData} (F : Fun K "_law_size" "_law_size" sSize f fd) : FnOk P w K mg base CX0 1 f fd ["shape", "letter"] (spSizeL K) := by
  refine F.ok scLS (fun vs H Q E h => ?_) (fun cdv A outer s H vs Q E hr h => ?_)
  · obtain ⟨a, sh, l, rfl, _⟩ := h
    rfl
  · obtain ⟨a, sh, l, rfl, ⟨ts, ha, hx⟩, q⟩ := h
    refine ⟨_, pss_cons (ps_for PassesOwn.never rfl (pi_list (pv 0)) (pg_name (i := 2) scLS.nd rfl (.inl rfl))
        (pss_one (ps_if (pt_cmpR op_eq (pe_ix ix_tup (pv 2) pe_int (fun _ _ => rfl)) (pv 1) (nomark _)) (pss_one (ps_ret (pe_ix ix_tup (pv 2) pe_int (fun _ _ => rfl)))) pss_nil)))
      (pss_one (ps_ret pe_int)), ?_⟩
    refine ⟨_, rfl, a, rfl, ⟨_, ha⟩, for_list (K := K) (a := a) (xs := ts.map V.ref) (fun i σ H' => ∃ (v : Option V), σ = [some (.ref a), some (.str (one l)), v] ∧ H' = H ∧ look (sh.take i) l = none)
      ⟨none, rfl, rfl, rfl⟩ (fun i σ H' _ ⟨_, _, e, _⟩ => by rw [e]; exact ha) ?_ ?_⟩
    · rintro i x σ H' hi ⟨v, rfl, rfl, h0⟩
      obtain ⟨t, p, rfl, g1, g2, g3⟩ := hx.at hi
      have h1 := look_hit h0 g2
      refine ⟨_, rfl, t, _, 0, _, rfl, rfl, g3, rfl, _, rfl, rfl, _, rfl, ?_⟩
      by_cases e : p.1 = l
      · rw [decide_eq_true (show V.str (one p.1) = V.str (one l) by rw [e])]
        refine iteT ⟨_, rfl, t, _, 1, _, rfl, rfl, g3, rfl, ?_⟩
        rw [if_pos e] at h1
        rw [look_all h1] at q
        exact q
      · rw [decide_eq_false (fun z => e (one_inj (V.str.inj z)))]
        refine iteF ⟨_, rfl, rfl, ?_⟩
        rw [h1, if_neg e]
    · rintro σ H' ⟨v, rfl, rfl, h0⟩
      rw [show (ts.map V.ref).length = sh.length by rw [List.length_map, hx.1], List.take_length] at h0
      rw [h0] at q
      exact q

theorem scCA : FnScope ["a", "b", "out", "axis", "size"] ["a", "b"] (defScope sCast) := ⟨rfl, rfl, rfl, by decide +kernel, rfl, by decide +kernel, by decide +kernel⟩
def spCast (K : PySem.W.Frag) : Sp := fun vs H Q _ => ∃ (a b : Addr) (sh1 sh2 : Sh), vs = [.ref a, .ref b] ∧ ShT K H a sh1 ∧ ShT K H b sh2 ∧ Fine sh1 ∧ sh1.length ≤ 8 ∧ sh2.length ≤ 8 ∧
  (cast sh1 sh2 = none → ∀ H', Same H H' → Q .non H') ∧ ∀ ad, cast sh1 sh2 = some ad → ∀ H' p, Same H H' → ShT K H' p (sh1 ++ ad) → Q (.ref p) H'
theorem ok_cast {f fS : Addr} {fd fdS : FuncData} (F : Fun K "_law_cast" "_law_cast" sCast f fd) (ml : mg "list" = none) (mt : mg "tuple" = none)
    (GS : FnOk P w K mg base CX0 1 fS fdS ["shape", "letter"] (spSizeT K)) (kS : PySem.W.keepIn K (.ref fS) = true) (bS : Binds K fdS ["shape", "letter"] []) (gS : mg "_law_size" = some (.ref fS)) :
    FnOk P w K mg base CX0 2 f fd ["a", "b"] (spCast K) := by
  refine F.ok scCA (fun vs H Q E h => ?_) (fun cdv A outer s H vs Q E hr h => ?_)
  · obtain ⟨a, b, sh1, sh2, rfl, _⟩ := h
    rfl
  · obtain ⟨a, b, sh1, sh2, rfl, ⟨ts, ha, hx⟩, ⟨ts2, hb, hx2⟩, hfi, l1, l2, qN, qQ⟩ := h
    refine ⟨_, (pss_cons (ps_set (i := 2) scCA.nd rfl (.inl rfl) (pe_callTy call_list_of (by rfl) ml (by decide +kernel) (pa_cons (pv 0) pa_nil)))
      (pss_cons (ps_for PassesOwn.never rfl (pi_tup (pv 1)) (pg_name (i := 3) scCA.nd rfl (.inl rfl)) (pss_cons (ps_set (i := 4) scCA.nd rfl (.inl rfl) (pe_call GS (hr.mono (by decide)) (by rfl) gS kS bS .nil pass0 (pa_cons (pv 0) (pa_cons (pe_ix ix_tup (pv 3) (pe_int) (fun _ _ => rfl)) pa_nil))))
      (pss_one (ps_if (pt_cmpR op_eq (pv 4) (pe_int) (nomark _)) (pss_one (ps_expr (pe_bm PySem.F.plainAttrs_list PySem.F.slot_list_append PySem.F.type_list_append mt_append (pv 2) (pa_cons (pv 3) pa_nil)))) (pss_one (ps_if (pt_cmpR op_ne (pv 4) (pe_ix ix_tup (pv 3) (pe_int) (fun _ _ => rfl)) (nomark _)) (pss_one (ps_ret (pe_non))) pss_nil))))))
      (pss_one (ps_ret (pe_callTy call_tuple_of (by rfl) mt (by decide +kernel) (pa_cons (pv 2) pa_nil)))))), ?_⟩
    have hlen : (ts2.map V.ref).length = sh2.length := by rw [List.length_map, hx2.1]
    refine ⟨_, rfl, a, _, rfl, .inr ha, fun p np => ?_⟩
    have s1 := same_upd (o := .lst (ts.map V.ref)) np
    have hp : (upd H p (.lst (ts.map V.ref))) p = some (.lst (ts.map V.ref)) := upd_same
    have hfp := np
    generalize upd H p (.lst (ts.map V.ref)) = H1 at *
    refine ⟨_, rfl, b, rfl, ⟨_, sqT_same hb s1⟩, for_tup (K := K) (a := b) (xs := ts2.map V.ref) (fun i σ H' => ∃ (ad : Sh) (ats : List Addr) (v3 v4 : Option V), σ = [some (.ref a), some (.ref b), some (.ref p), v3, v4] ∧ cast sh1 (sh2.take i) = some ad ∧
        Same H H' ∧ H' p = some (.lst ((ts ++ ats).map V.ref)) ∧ Axes K H' ats ad)
      ⟨[], [], none, none, rfl, rfl, s1, by rw [List.append_nil]; exact hp, Axes.nil⟩ (fun i σ H' _ ⟨_, _, _, _, _, _, e, _⟩ => sqT_same hb e) ?_ ?_⟩
    · clear hp s1
      rintro i x σ H' hi ⟨ad, ats, v3, v4, rfl, hc, s1, hp, hax⟩
      obtain ⟨t, q, rfl, g1, g2, g3⟩ := (hx2.same s1).at hi
      have hc' := cast_snoc sh1 (sh2.take i) q
      rw [← take_snoc g2, hc] at hc'
      have hil : i < sh2.length := (List.getElem?_eq_some_iff.mp g2).1
      have hal : ad.length ≤ 8 := by
        have := cast_len hc
        rw [List.length_take] at this
        omega
      refine ⟨_, rfl, _, rfl, t, _, 0, _, rfl, rfl, g3, rfl, a, sh1, q.1, rfl, ⟨ts, sqT_same ha s1, hx.same s1⟩, ?_⟩
      refine ⟨_, rfl, rfl, _, rfl, ?_⟩
      rw [dec_int]
      cases e : look sh1 q.1 with
      | none =>
        refine iteT ?_
        have hne : ∀ x : Addr, H x ≠ none → x ≠ p := fun x h e => h (by rw [e]; exact hfp)
        refine ⟨_, rfl, .inl ⟨rfl, _, SqL.of hp⟩, _, rfl, p, _, _, rfl, rfl, hp, ?_, ad ++ [q], ats ++ [t], _, _, rfl, ?_, fun x o e => ?_, ?_, ?_⟩
        · rw [List.length_map, List.length_append, hx.1, hax.1]
          exact small1000 (by omega)
        · rw [hc', castStep, Option.bind_some, e]
        · rw [upd_ne (hne x (by rw [e]; exact fun z => nomatch z))]
          exact s1 _ _ e
        · rw [upd_same]
          simp only [List.map_append, List.append_assoc, List.map_cons, List.map_nil]
        · exact (hax.snoc g3).keep (nl_upd hp)
      | some z =>
        have hz := (hfi _ (look_mem e)).1
        rw [show (((some z).getD 0 : Int) == 0) = false from beq_eq_false_iff_ne.mpr (by show z ≠ 0; omega)]
        refine iteF ⟨_, rfl, _, rfl, t, _, 1, _, rfl, rfl, g3, rfl, rfl, _, rfl, ?_⟩
        rw [dec_int]
        by_cases ez : z = q.2
        · rw [show (((some z).getD 0 : Int) == q.2) = true from beq_iff_eq.mpr ez]
          refine iteF ⟨ad, ats, _, _, rfl, ?_, s1, hp, hax⟩
          rw [hc', castStep, Option.bind_some, e]
          dsimp only
          rw [if_pos ez]
        · rw [show (((some z).getD 0 : Int) == q.2) = false from beq_eq_false_iff_ne.mpr ez]
          refine iteT (qN (cast_take (i := i + 1) ?_) _ s1)
          rw [hc', castStep, Option.bind_some, e]
          dsimp only
          rw [if_neg ez]
    · rintro σ H' ⟨ad, ats, v3, v4, rfl, hc, s2, hp2, hax⟩
      rw [hlen, List.take_length] at hc
      refine ⟨_, rfl, p, _, rfl, .inl ⟨SqL.of hp2, fun l nl => ?_⟩⟩
      have s3 := same_upd (o := .tup ((ts ++ ats).map V.ref)) nl
      exact qQ ad hc _ l (s2.trans s3) ⟨ts ++ ats, SqT.of upd_same, (hx.same (s2.trans s3)).append (hax.same s3)⟩
end
section
variable {P : Program} {w : World} {K : PySem.W.Frag} {mg : Str → Option Value} {base : Heap}
def word : Nat → Str
  | 0 => "good"
  | 1 => "rank"
  | 2 => "axis"
  | 3 => "range"
  | _ => "large"
theorem chk_le (sh : Sh) : chk sh ≤ 4 := by
  unfold chk
  split
  · decide
  · split
    · split
      · split <;> decide
      · decide
    · decide
structure ErrT (K : PySem.W.Frag) (mg : Str → Option Value) (C : Nat → Addr) (TE : Addr) : Prop where
  R : ErrS K mg C
  nT : ErrN K mg "TensorError" TE
  isi : mg "isinstance" = none
  sub1 : PySem.W.subIn K (.ref (C 1)) (.ref TE) = some true
  exc1 : ExcC K (C 1)
  sub2 : PySem.W.subIn K (.ref (C 2)) (.ref TE) = some true
  exc2 : ExcC K (C 2)
  sub3 : PySem.W.subIn K (.ref (C 3)) (.ref TE) = some true
  exc3 : ExcC K (C 3)
  sub4 : PySem.W.subIn K (.ref (C 4)) (.ref TE) = some true
  exc4 : ExcC K (C 4)
  kit11 : PySem.W.kitOne K (.ref (C 1)) (.ref (C 1)) = some true
  kit12 : PySem.W.kitOne K (.ref (C 1)) (.ref (C 2)) = some false
  kit13 : PySem.W.kitOne K (.ref (C 1)) (.ref (C 3)) = some false
  kit14 : PySem.W.kitOne K (.ref (C 1)) (.ref (C 4)) = some false
  kit21 : PySem.W.kitOne K (.ref (C 2)) (.ref (C 1)) = some false
  kit22 : PySem.W.kitOne K (.ref (C 2)) (.ref (C 2)) = some true
  kit23 : PySem.W.kitOne K (.ref (C 2)) (.ref (C 3)) = some false
  kit24 : PySem.W.kitOne K (.ref (C 2)) (.ref (C 4)) = some false
  kit31 : PySem.W.kitOne K (.ref (C 3)) (.ref (C 1)) = some false
  kit32 : PySem.W.kitOne K (.ref (C 3)) (.ref (C 2)) = some false
  kit33 : PySem.W.kitOne K (.ref (C 3)) (.ref (C 3)) = some true
  kit34 : PySem.W.kitOne K (.ref (C 3)) (.ref (C 4)) = some false
  kit41 : PySem.W.kitOne K (.ref (C 4)) (.ref (C 1)) = some false
  kit42 : PySem.W.kitOne K (.ref (C 4)) (.ref (C 2)) = some false
  kit43 : PySem.W.kitOne K (.ref (C 4)) (.ref (C 3)) = some false
  kit44 : PySem.W.kitOne K (.ref (C 4)) (.ref (C 4)) = some true

theorem chk_zero {sh : Sh} : chk sh = 0 ↔ sh.length ≤ 4 ∧ (codes sh).Nodup ∧ Fine sh ∧ prod (sizes sh) ≤ 256 := by
  unfold chk
  by_cases h1 : 4 < sh.length
  · rw [if_pos h1]
    exact ⟨fun z => (by cases z), fun z => absurd z.1 (by omega)⟩
  · rw [if_neg h1]
    by_cases h2 : (codes sh).Nodup
    · rw [if_pos h2]
      by_cases h3 : fineB sh = true
      · rw [if_pos h3]
        have h3' := fineB_iff.mp h3
        by_cases h4 : 256 < prod (sizes sh)
        · rw [if_pos h4]
          exact ⟨fun z => (by cases z), fun z => absurd z.2.2.2 (by omega)⟩
        · rw [if_neg h4]
          exact ⟨fun _ => ⟨by omega, h2, h3', by omega⟩, fun _ => rfl⟩
      · rw [if_neg h3]
        exact ⟨fun z => (by cases z), fun z => absurd (fineB_iff.mpr z.2.2.1) h3⟩
    · rw [if_neg h2]
      exact ⟨fun z => (by cases z), fun z => absurd z.2.1 h2⟩
theorem chk_fine {sh : Sh} (h2 : (codes sh).Nodup) (h3 : Fine sh) : chk sh = if 4 < sh.length then 1 else if 256 < prod (sizes sh) then 4 else 0 := by
  unfold chk
  rw [if_pos h2, if_pos (fineB_iff.mpr h3)]
theorem rc_cases {sh1 sh2 : Sh} (h1 : chk sh1 = 0) (h2 : chk sh2 = 0) : (rc sh1 sh2).1 = 0 ∨ (rc sh1 sh2).1 = 1 ∨ (rc sh1 sh2).1 = 2 ∨ (rc sh1 sh2).1 = 4 := by
  obtain ⟨_, n1, f1, _⟩ := chk_zero.mp h1
  obtain ⟨_, n2, f2, _⟩ := chk_zero.mp h2
  cases e : cast sh1 sh2 with
  | none => rw [rc_none e]; exact .inr (.inr (.inl rfl))
  | some ad =>
    rw [rc_some e]
    show chk (sh1 ++ ad) = 0 ∨ chk (sh1 ++ ad) = 1 ∨ chk (sh1 ++ ad) = 2 ∨ chk (sh1 ++ ad) = 4
    rw [chk_fine (cast_nodup e n1 n2) (cast_fine e f1 f2)]
    split
    · exact .inr (.inl rfl)
    · split
      · exact .inr (.inr (.inr rfl))
      · exact .inl rfl
/-- the answers of the law's two sides -/
def Fin2 (K : PySem.W.Frag) (r : Nat × Sh) (Q : VK) (H' : Hp) : Prop := (r.1 = 0 → ∀ p, ShT K H' p r.2 → Q (.ref p) H') ∧ ∀ k, r.1 = k + 1 → Q (.str (word (k + 1))) H'
def spTold (K : PySem.W.Frag) : Sp := fun vs H Q _ => ∃ (a b : Addr) (sh1 sh2 : Sh), vs = [.ref a, .ref b] ∧ ShT K H a sh1 ∧ NoD K H a ∧ ShT K H b sh2 ∧ chk sh1 = 0 ∧ chk sh2 = 0 ∧ ∀ H', Same H H' → Fin2 K (rc sh1 sh2) Q H'
theorem scTD : FnScope ["first", "second", "actual", "e", "told"] ["first", "second"] (defScope sTold) := ⟨rfl, rfl, rfl, by decide +kernel, rfl, by decide +kernel, by decide +kernel⟩
theorem ok_told {f fB TE : Addr} {C : Nat → Addr} {fd fdB : FuncData} (F : Fun K "_law_told" "_law_told" sTold f fd) (T : ErrT K mg C TE)
    (GB : FnOk P w K mg base (L2.CX P w) 3 fB fdB ["first", "second"] (spBroad K C)) (kB : PySem.W.keepIn K (.ref fB) = true) (bB : Binds K fdB ["first", "second"] []) (gB : mg "broadcast" = some (.ref fB)) : FnOk P w K mg base CX0 4 f fd ["first", "second"] (spTold K) := by
  refine F.ok scTD (fun vs H Q E h => ?_) (fun cdv A outer s H vs Q E hr h => ?_)
  · obtain ⟨a, b, sh1, sh2, rfl, _⟩ := h
    rfl
  · obtain ⟨a, b, sh1, sh2, rfl, hS1, nd, hS2, k1, k2, q⟩ := h
    have hcs := rc_cases k1 k2
    obtain ⟨l1, n1, f1, _⟩ := chk_zero.mp k1
    obtain ⟨l2, n2, f2, _⟩ := chk_zero.mp k2
    refine ⟨_, pss_cons (ps_try_as (i := 3) (tb := fun W => tAsg (tCallS (spBroad K C) (WE W) (tCons (tVar 0) (tCons (tVar 1) tNil))) (gName 2)) (Wout := fun _ _ _ _ => False) rfl rfl scTD.nd rfl rfl ⟨rfl, by decide, Or.inl T.nT.g⟩ takes0
        (fun W pn xe tk _ => pss_one (ps_set (i := 2) scTD.nd rfl (.inl rfl) (by exact (pe_callS GB hr (by rfl) gB kB bB (fun σ => passAt tk σ) (by exact (pa_cons (pv 0) (pa_cons (pv 1) pa_nil)))))))
        (fun a oe cls d pn hz hf => su_ok hz hf))
      (pss_one (ps_ret (pv 2))), ?_⟩
    refine ⟨_, rfl, _, rfl, a, b, sh1, sh2, rfl, hS1, nd, hS2, by omega, by omega, n1, f1.mod, f2.mod, fun H1 sm1 => ⟨fun e0 p hS hN => ?_, fun k ek => ?_⟩⟩
    · exact ⟨_, rfl, (q _ sm1).1 e0 p hS⟩
    · have hq := (q _ sm1).2 k ek
      rw [ek] at hcs
      match k, hcs with
      | 0, _ =>
        refine ⟨true, T.nT.ex T.sub1, fun _ ax hax => fun oe pn hz hf => ?_, fun z => nomatch z⟩
        refine ⟨_, pss_cons (ps_set (i := 4) scTD.nd rfl (.inl rfl) pe_str)
          (pss_cons (ps_if (pt_val (pe_callB (call_isE T.exc1 hz hf) (by rfl) T.isi (by decide +kernel) (pa_cons (pv 3) (pa_cons (pe_glob (v := .ref (C 1)) (by rfl) T.R.r1.g rfl) pa_nil)))) (pss_one (ps_set (i := 4) scTD.nd rfl (.inl rfl) (pe_op op_add_str (pv 4) pe_str))) pss_nil)
          (pss_cons (ps_if (pt_val (pe_callB (call_isE T.exc1 hz hf) (by rfl) T.isi (by decide +kernel) (pa_cons (pv 3) (pa_cons (pe_glob (v := .ref (C 2)) (by rfl) T.R.r2.g rfl) pa_nil)))) (pss_one (ps_set (i := 4) scTD.nd rfl (.inl rfl) (pe_op op_add_str (pv 4) pe_str))) pss_nil)
          (pss_cons (ps_if (pt_val (pe_callB (call_isE T.exc1 hz hf) (by rfl) T.isi (by decide +kernel) (pa_cons (pv 3) (pa_cons (pe_glob (v := .ref (C 4)) (by rfl) T.R.r4.g rfl) pa_nil)))) (pss_one (ps_set (i := 4) scTD.nd rfl (.inl rfl) (pe_op op_add_str (pv 4) pe_str))) pss_nil)
          (pss_one (ps_ret (pv 4)))))), ?_⟩
        refine ⟨_, rfl, _, _, _, rfl, fun _ h => h, T.kit11, _, rfl, iteT ?_⟩
        refine ⟨_, rfl, _, _, rfl, rfl, by decide +kernel, ?_⟩
        refine ⟨_, rfl, _, _, _, rfl, fun _ h => h, T.kit12, _, rfl, iteF ?_⟩
        refine ⟨_, rfl, _, _, _, rfl, fun _ h => h, T.kit14, _, rfl, iteF ?_⟩
        exact ⟨_, rfl, hq⟩
      | 1, _ =>
        refine ⟨true, T.nT.ex T.sub2, fun _ ax hax => fun oe pn hz hf => ?_, fun z => nomatch z⟩
        refine ⟨_, pss_cons (ps_set (i := 4) scTD.nd rfl (.inl rfl) pe_str)
          (pss_cons (ps_if (pt_val (pe_callB (call_isE T.exc2 hz hf) (by rfl) T.isi (by decide +kernel) (pa_cons (pv 3) (pa_cons (pe_glob (v := .ref (C 1)) (by rfl) T.R.r1.g rfl) pa_nil)))) (pss_one (ps_set (i := 4) scTD.nd rfl (.inl rfl) (pe_op op_add_str (pv 4) pe_str))) pss_nil)
          (pss_cons (ps_if (pt_val (pe_callB (call_isE T.exc2 hz hf) (by rfl) T.isi (by decide +kernel) (pa_cons (pv 3) (pa_cons (pe_glob (v := .ref (C 2)) (by rfl) T.R.r2.g rfl) pa_nil)))) (pss_one (ps_set (i := 4) scTD.nd rfl (.inl rfl) (pe_op op_add_str (pv 4) pe_str))) pss_nil)
          (pss_cons (ps_if (pt_val (pe_callB (call_isE T.exc2 hz hf) (by rfl) T.isi (by decide +kernel) (pa_cons (pv 3) (pa_cons (pe_glob (v := .ref (C 4)) (by rfl) T.R.r4.g rfl) pa_nil)))) (pss_one (ps_set (i := 4) scTD.nd rfl (.inl rfl) (pe_op op_add_str (pv 4) pe_str))) pss_nil)
          (pss_one (ps_ret (pv 4)))))), ?_⟩
        refine ⟨_, rfl, _, _, _, rfl, fun _ h => h, T.kit21, _, rfl, iteF ?_⟩
        refine ⟨_, rfl, _, _, _, rfl, fun _ h => h, T.kit22, _, rfl, iteT ?_⟩
        refine ⟨_, rfl, _, _, rfl, rfl, by decide +kernel, ?_⟩
        refine ⟨_, rfl, _, _, _, rfl, fun _ h => h, T.kit24, _, rfl, iteF ?_⟩
        exact ⟨_, rfl, hq⟩
      | 2, h => exact absurd h (by decide)
      | 3, _ =>
        refine ⟨true, T.nT.ex T.sub4, fun _ ax hax => fun oe pn hz hf => ?_, fun z => nomatch z⟩
        refine ⟨_, pss_cons (ps_set (i := 4) scTD.nd rfl (.inl rfl) pe_str)
          (pss_cons (ps_if (pt_val (pe_callB (call_isE T.exc4 hz hf) (by rfl) T.isi (by decide +kernel) (pa_cons (pv 3) (pa_cons (pe_glob (v := .ref (C 1)) (by rfl) T.R.r1.g rfl) pa_nil)))) (pss_one (ps_set (i := 4) scTD.nd rfl (.inl rfl) (pe_op op_add_str (pv 4) pe_str))) pss_nil)
          (pss_cons (ps_if (pt_val (pe_callB (call_isE T.exc4 hz hf) (by rfl) T.isi (by decide +kernel) (pa_cons (pv 3) (pa_cons (pe_glob (v := .ref (C 2)) (by rfl) T.R.r2.g rfl) pa_nil)))) (pss_one (ps_set (i := 4) scTD.nd rfl (.inl rfl) (pe_op op_add_str (pv 4) pe_str))) pss_nil)
          (pss_cons (ps_if (pt_val (pe_callB (call_isE T.exc4 hz hf) (by rfl) T.isi (by decide +kernel) (pa_cons (pv 3) (pa_cons (pe_glob (v := .ref (C 4)) (by rfl) T.R.r4.g rfl) pa_nil)))) (pss_one (ps_set (i := 4) scTD.nd rfl (.inl rfl) (pe_op op_add_str (pv 4) pe_str))) pss_nil)
          (pss_one (ps_ret (pv 4)))))), ?_⟩
        refine ⟨_, rfl, _, _, _, rfl, fun _ h => h, T.kit41, _, rfl, iteF ?_⟩
        refine ⟨_, rfl, _, _, _, rfl, fun _ h => h, T.kit42, _, rfl, iteF ?_⟩
        refine ⟨_, rfl, _, _, _, rfl, fun _ h => h, T.kit44, _, rfl, iteT ?_⟩
        refine ⟨_, rfl, _, _, rfl, rfl, by decide +kernel, ?_⟩
        exact ⟨_, rfl, hq⟩
      | k + 4, h => exact absurd h (by omega)

theorem scDU : FnScope ["first", "second", "out"] ["first", "second"] (defScope sDue) := ⟨rfl, rfl, rfl, by decide +kernel, rfl, by decide +kernel, by decide +kernel⟩
def spDue (K : PySem.W.Frag) : Sp := fun vs H Q _ => ∃ (a b : Addr) (sh1 sh2 : Sh), vs = [.ref a, .ref b] ∧ ShT K H a sh1 ∧ ShT K H b sh2 ∧ chk sh1 = 0 ∧ chk sh2 = 0 ∧ ∀ H', Same H H' → Fin2 K (rc sh1 sh2) Q H'
theorem ok_due {f fA fC : Addr} {fd fdA fdC : FuncData} (F : Fun K "_law_due" "_law_due" sDue f fd) (ml : mg "len" = none)
    (GA : FnOk P w K mg base CX0 2 fA fdA ["a", "b"] (spCast K)) (kA : PySem.W.keepIn K (.ref fA) = true) (bA : Binds K fdA ["a", "b"] []) (gA : mg "_law_cast" = some (.ref fA))
    (GC : FnOk P w K mg base CX0 1 fC fdC ["shape"] (spCountT K)) (kC : PySem.W.keepIn K (.ref fC) = true) (bC : Binds K fdC ["shape"] []) (gC : mg "_law_count" = some (.ref fC)) : FnOk P w K mg base CX0 3 f fd ["first", "second"] (spDue K) := by
  refine F.ok scDU (fun vs H Q E h => ?_) (fun cdv A outer s H vs Q E hr h => ?_)
  · obtain ⟨a, b, sh1, sh2, rfl, _⟩ := h
    rfl
  · obtain ⟨a, b, sh1, sh2, rfl, hS1, hS2, k1, k2, q⟩ := h
    obtain ⟨l1, n1, f1, _⟩ := chk_zero.mp k1
    obtain ⟨l2, n2, f2, _⟩ := chk_zero.mp k2
    have hr1 : Room 1 _ := hr.mono (by decide)
    refine ⟨_, (pss_cons (ps_set (i := 2) scDU.nd rfl (.inl rfl) (pe_call GA hr (by rfl) gA kA bA .nil pass0 (pa_cons (pv 0) (pa_cons (pv 1) pa_nil))))
      (pss_cons (ps_if (pt_cmpR op_isN (pv 2) (pe_non) (nomark _)) (pss_one (ps_ret (pe_str))) pss_nil)
      (pss_cons (ps_if (pt_cmpR op_gt (pe_callB call_len_seq (by rfl) ml PySem.boot_len (pa_cons (pv 2) pa_nil)) (pe_int) (nomark _)) (pss_one (ps_ret (pe_str))) pss_nil)
      (pss_one (ps_ret (pe_ifExp (pt_cmpR op_gt (pe_call GC hr1 (by rfl) gC kC bC .nil pass0 (pa_cons (pv 2) pa_nil)) (pe_int) (nomark _)) pe_str (pv 2))))))), ?_⟩
    refine ⟨_, rfl, _, rfl, a, b, sh1, sh2, rfl, hS1, hS2, f1, by omega, by omega, fun e H1 s1 => ?_, fun ad e H1 p s1 hS => ?_⟩
    · refine ⟨_, rfl, rfl, _, rfl, iteT ?_⟩
      exact (q _ s1).2 1 (by rw [rc_none e])
    · have hq := q _ s1
      rw [rc_some e] at hq
      have hn := cast_nodup e n1 n2
      have hf := cast_fine e f1 f2
      unfold Fin2 at hq
      dsimp only at hq
      rw [chk_fine hn hf] at hq
      refine ⟨_, rfl, rfl, _, rfl, ?_⟩
      rw [decide_eq_false (fun z => nomatch z)]
      obtain ⟨ts, ha, hx⟩ := hS
      have hlen : (ts.map V.ref).length = (sh1 ++ ad).length := by rw [List.length_map, hx.1]
      refine iteF ⟨_, rfl, p, _, rfl, .inr ha, _, _, rfl, rfl, _, rfl, ite2 (fun e2 => ?_) (fun e2 => ?_)⟩
      · have e3 := of_decide_eq_true e2
        rw [hlen] at e3
        rw [if_pos (by omega)] at hq
        exact hq.2 0 rfl
      · have e3 : ¬ ((4 : Int) < ((ts.map V.ref).length : Int)) := fun z => e2 (decide_eq_true z)
        rw [hlen] at e3
        rw [if_neg (by omega)] at hq
        refine ⟨_, rfl, p, sh1 ++ ad, rfl, ⟨ts, ha, hx⟩, hf.mod, _, _, rfl, rfl, _, rfl, ite2 (fun e4 => ?_) (fun e4 => ?_)⟩
        · rw [if_pos (of_decide_eq_true e4)] at hq
          exact hq.2 3 rfl
        · rw [if_neg (fun z => e4 (decide_eq_true z))] at hq
          exact ⟨_, rfl, hq.1 rfl p ⟨ts, ha, hx⟩⟩
end
section
variable {P : Program} {w : World} {K : PySem.W.Frag} {mg : Str → Option Value} {base : Heap}
/-! ### comparing the answers -/
def axD (p : Nat × Int) : PyData := .tuple [.str (one p.1), .int p.2]
def datSh (sh : Sh) : PyData := .tuple (sh.map axD)
def dat (r : Nat × Sh) : PyData := if r.1 = 0 then datSh r.2 else .str (word r.1)
/-- letters that are signs -/
def Low (sh : Sh) : Prop := ∀ p ∈ sh, p.1 < 128
theorem one_ok {c : Nat} (h : c < 128) : PyData.strOk (one c) = true := by
  show (#[c].all (· < 0x110000)) = true
  simp
  omega
theorem axD_lay (p : Nat × Int) (h : p.1 < 128) : (axD p).canLay0 = true := by simp [axD, PyData.canLay0, PyData.canLayAll0, one_ok h]
theorem axD_depth (p : Nat × Int) : (axD p).depth = 1 := by simp [axD, PyData.depth, PyData.depthAll]
theorem axDs_lay : ∀ zs : Sh, Low zs → PyData.canLayAll0 (zs.map axD) = true
  | [], _ => by simp [PyData.canLayAll0]
  | z :: zs, h => by simp [PyData.canLayAll0, axD_lay z (h z List.mem_cons_self), axDs_lay zs fun p hp => h p (List.mem_cons_of_mem _ hp)]
theorem axDs_depth : ∀ zs : Sh, PyData.depthAll (zs.map axD) ≤ 2
  | [] => by simp [PyData.depthAll]
  | z :: zs => by
    have h1 := axDs_depth zs
    have h2 := axD_depth z
    simp only [List.map_cons, PyData.depthAll]
    omega
theorem datSh_shaped (sh : Sh) (h : Low sh) : SeqAt.shaped (datSh sh) = true := by
  have h1 := axDs_depth sh
  have h2 : PyData.depth (datSh sh) ≤ 64 := by
    simp only [datSh, PyData.depth]
    omega
  show (PyData.canLay0 (datSh sh) && decide (PyData.depth (datSh sh) ≤ 64)) = true
  rw [Bool.and_eq_true]
  exact ⟨by simp only [datSh, PyData.canLay0]; exact axDs_lay sh h, decide_eq_true h2⟩
theorem dat_shaped (r : Nat × Sh) (h : Low r.2) : SeqAt.shaped (dat r) = true := by
  unfold dat
  split
  · exact datSh_shaped _ h
  · match r.1 with
    | 0 => decide +kernel
    | 1 => decide +kernel
    | 2 => decide +kernel
    | 3 => decide +kernel
    | k + 4 => show SeqAt.shaped (.str "large") = true; decide +kernel
theorem rc_low {sh1 sh2 : Sh} (h1 : Low sh1) (h2 : Low sh2) : Low (rc sh1 sh2).2 := by
  cases e : cast sh1 sh2 with
  | none => rw [rc_none e]; exact fun p hp => nomatch hp
  | some ad =>
    rw [rc_some e]
    intro p hp
    rcases List.mem_append.mp hp with hp | hp
    · exact h1 p hp
    · exact h2 p ((cast_sub _ sh2 rfl ad e).1.mem hp)
theorem eqv_self {d : PyData} (h : SeqAt.shaped d = true) : PyData.eqv d d = true := by
  unfold SeqAt.shaped at h
  rw [Bool.and_eq_true] at h
  exact PySem.SeqAt.eqv_refl d h.1
theorem dpAll_sh {H : Hp} : ∀ {ts : List Addr} {sh : Sh}, Axes K H ts sh → DpAll K H (ts.map V.ref) (sh.map axD)
  | [], [], _ => .nil
  | [], p :: sh, h => nomatch h.1
  | t :: ts, [], h => nomatch h.1
  | t :: ts, p :: sh, h => .cons (.tup (h.2 0 t p rfl rfl) (.cons (.str _) (.cons (.int _) .nil))) (dpAll_sh ⟨Nat.succ.inj h.1, fun i t' p' a b => h.2 (i + 1) t' p' (by simpa using a) (by simpa using b)⟩)
theorem dp_sh {H : Hp} {a : Addr} {sh : Sh} (h : ShT K H a sh) : Dp K H (.ref a) (datSh sh) := by
  obtain ⟨ts, ha, hx⟩ := h
  exact .tup ha (dpAll_sh hx)
theorem Fin2.of {r : Nat × Sh} {Q : VK} {H' : Hp} (h : ∀ v, (∀ H'', Same H' H'' → Dp K H'' v (dat r)) → Q v H') : Fin2 K r Q H' := by
  refine ⟨fun e p hp => h _ fun H'' s => ?_, fun k ek => h _ fun H'' s => ?_⟩
  · unfold dat
    rw [if_pos e]
    exact dp_sh (hp.same s)
  · unfold dat
    rw [if_neg (by omega), ek]
    exact .str _
theorem fold_same {sh : Sh} : ∀ l : Sh, (∀ p ∈ l, look sh p.1 = some p.2) → l.foldl (castStep sh) (some []) = some []
  | [], _ => rfl
  | p :: l, h => by
    rw [List.foldl_cons]
    have : castStep sh (some []) p = some [] := by
      unfold castStep
      rw [Option.bind_some, h p List.mem_cons_self]
      exact if_pos rfl
    rw [this]
    exact fold_same l fun q hq => h q (List.mem_cons_of_mem _ hq)
theorem fold_empty : ∀ (l ad : Sh), l.foldl (castStep []) (some ad) = some (ad ++ l)
  | [], ad => by rw [List.append_nil]; rfl
  | p :: l, ad => by
    rw [List.foldl_cons]
    have : castStep [] (some ad) p = some (ad ++ [p]) := rfl
    rw [this, fold_empty l, List.append_assoc]
    rfl
theorem rc_self {sh : Sh} (h : chk sh = 0) : rc sh sh = (0, sh) := by
  have : cast sh sh = some [] := fold_same sh fun p hp => look_of (chk_zero.mp h).2.1 hp
  rw [rc_some this, List.append_nil, h]
theorem rc_right {sh : Sh} (h : chk sh = 0) : rc sh [] = (0, sh) := by
  rw [rc_some (cast_nil sh), List.append_nil, h]
theorem rc_left {sh : Sh} (h : chk sh = 0) : rc [] sh = (0, sh) := by
  have : cast [] sh = some sh := fold_empty sh []
  rw [rc_some this, List.nil_append, h]
/-! ### drawing shapes -/
def Kb (d : Addr) (H H' : Hp) : Prop := ∀ b o, b ≠ d → H b = some o → H' b = some o
theorem Kb.refl (d : Addr) (H : Hp) : Kb d H H := fun _ _ _ h => h
theorem Kb.trans {d : Addr} {H H1 H2 : Hp} (a : Kb d H H1) (b : Kb d H1 H2) : Kb d H H2 := fun c o n h => b c o n (a c o n h)
theorem But.kb {d : Addr} {H H' : Hp} (k : But d H H') : Kb d H H' := fun b o n h => by rw [k b n]; exact h
theorem Same.kb {d : Addr} {H H' : Hp} (k : Same H H') : Kb d H H' := fun b o _ h => k b o h
theorem Kb.nl {d c : Addr} {H H' : Hp} (k : Kb d H H') (h : DrAt H d c) : NL H H' := fun b o e => by
  by_cases hb : b = d
  · subst hb
    obtain ⟨xs, hx⟩ := h.lst
    rw [hx] at e
    exact .inl ⟨xs, (Option.some.inj e).symm⟩
  · exact .inr (k b o hb e)
theorem bnd30 {m : Int} (h : m ≤ 30) : Bnd m := by
  unfold Bnd
  have : (30 : Int) < 2 ^ 400 := by decide +kernel
  omega
structure Txt (mg : Str → Option Value) extends TxtD mg where
  tuple : mg "tuple" = none
  range : mg "range" = none
theorem scSH : FnScope ["d", "sizes", "shape", "k", "place", "letter", "size"] ["d", "sizes"] (defScope sShape) := ⟨rfl, rfl, rfl, by decide +kernel, rfl, by decide +kernel, by decide +kernel⟩
def spShape (K : PySem.W.Frag) : Sp := fun vs H Q _ => ∃ (d c s : Addr) (ns : List Int), vs = [.ref d, .ref s] ∧ DrAt H d c ∧ H s = some (.lst (ns.map V.int)) ∧ ns.length = 6 ∧ (∀ x ∈ ns, 1 ≤ x ∧ x ≤ 8) ∧
  ∀ H' p sh, Kb d H H' → DrAt H' d c → ShT K H' p sh → NoD K H' p → chk sh = 0 → Low sh → Q (.ref p) H'
def six : Str := "ijkmno"
theorem chk_snoc {sh : Sh} {l : Nat} {z : Int} (h : chk sh = 0) (h1 : sh.length < 4) (h2 : look sh l = none) (h3 : 1 ≤ z ∧ z ≤ 16) (h4 : prod (sizes sh) * z ≤ 256) : chk (sh ++ [(l, z)]) = 0 := by
  obtain ⟨a, b, c, d⟩ := chk_zero.mp h
  refine chk_zero.mpr ⟨by rw [List.length_append, List.length_singleton]; omega, ?_, ?_, ?_⟩
  · unfold codes
    rw [List.map_append, List.nodup_append]
    refine ⟨b, List.nodup_cons.mpr ⟨List.not_mem_nil, List.nodup_nil⟩, fun x hx y hy e => ?_⟩
    rw [List.map_singleton, List.mem_singleton] at hy
    subst e hy
    exact look_none.mp h2 hx
  · intro p hp
    rcases List.mem_append.mp hp with hp | hp
    · exact c p hp
    · rw [List.mem_singleton] at hp
      subst hp
      exact h3
  · unfold sizes
    rw [List.map_append]
    show prod (sizes sh ++ [z]) ≤ 256
    rw [prod_snoc]
    exact h4
theorem ok_shape {f fT fS fC : Addr} {fd fdT fdS fdC : FuncData} (F : Fun K "_law_shape" "_law_shape" sShape f fd) (T : Txt mg)
    (GT : FnOk P w K mg base CX0 1 fT fdT ["d", "many"] spTake) (kT : PySem.W.keepIn K (.ref fT) = true) (bT : Binds K fdT ["d", "many"] []) (gT : mg "_law_take" = some (.ref fT))
    (GS : FnOk P w K mg base CX0 1 fS fdS ["shape", "letter"] (spSizeL K)) (kS : PySem.W.keepIn K (.ref fS) = true) (bS : Binds K fdS ["shape", "letter"] []) (gS : mg "_law_size" = some (.ref fS))
    (GC : FnOk P w K mg base CX0 1 fC fdC ["shape"] (spCountL K)) (kC : PySem.W.keepIn K (.ref fC) = true) (bC : Binds K fdC ["shape"] []) (gC : mg "_law_count" = some (.ref fC)) :
    FnOk P w K mg base CX0 2 f fd ["d", "sizes"] (spShape K) := by
  refine F.ok scSH (fun vs H Q E h => ?_) (fun cdv A outer s H vs Q E hr h => ?_)
  · obtain ⟨d, c, s, ns, rfl, _⟩ := h
    rfl
  · obtain ⟨d, c, s, ns, rfl, dr, hs, hns, hb, q⟩ := h
    refine ⟨_, (pss_cons (ps_set (i := 2) scSH.nd rfl (.inl rfl) (pe_lst pa_nil))
      (pss_cons (ps_for PassesOwn.never rfl (pi_range1 rfl T.range (pa_cons pe_int pa_nil)) (pg_name (i := 3) scSH.nd rfl (.inl rfl)) (Evl.pss_cut (ps_set (i := 4) scSH.nd rfl (.inl rfl) (pe_ifExp (pt_cmpR op_eq (pe_call GT hr (by rfl) gT kT bT .nil pass0 (pa_cons (pv 0) (pa_cons (pe_int) pa_nil))) (pe_int) (nomark _)) (pe_op op_mod (pe_op op_add (pe_op op_mul (pv 3) pe_int) pe_int) pe_int) (pv 3)))
      (pss_cons (ps_set (i := 5) scSH.nd rfl (.inl rfl) (pe_ix ix_str (pe_str) (pv 4) (fun _ _ => rfl)))
      (pss_cons (ps_set (i := 6) scSH.nd rfl (.inl rfl) (pe_ix ix_list (pv 1) (pv 4) (fun _ _ => rfl)))
      (Evl.pss_cut (ps_if (pt_cmpR op_eq (pe_call GT hr (by rfl) gT kT bT .nil pass0 (pa_cons (pv 0) (pa_cons (pe_int) pa_nil))) (pe_int) (nomark _)) (pss_one (ps_set (i := 6) scSH.nd rfl (.inl rfl) (pe_op op_add pe_int (pe_call GT hr (by rfl) gT kT bT .nil pass0 (pa_cons (pv 0) (pa_cons (pe_int) pa_nil)))))) pss_nil)
      (pss_one (ps_if (PW.pt (pw_and (pt_cmpR op_lt (pe_callB call_len_seq (by rfl) T.len PySem.boot_len (pa_cons (pv 2) pa_nil)) (pe_int) (nomark _)) (pw_and (pt_cmpR op_eq (pe_call GT hr (by rfl) gT kT bT .nil pass0 (pa_cons (pv 0) (pa_cons (pe_int) pa_nil))) (pe_int) (nomark _)) (pw_and (pt_cmpR op_eq (pe_call GS hr (by rfl) gS kS bS .nil pass0 (pa_cons (pv 2) (pa_cons (pv 5) pa_nil))) (pe_int) (nomark _)) (pw_and1 (pt_cmpR op_le (pe_op op_mul (pe_call GC hr (by rfl) gC kC bC .nil pass0 (pa_cons (pv 2) pa_nil)) (pv 6)) (pe_int) (nomark _))))))) (pss_one (ps_expr (pe_bm PySem.F.plainAttrs_list PySem.F.slot_list_append PySem.F.type_list_append mt_append (pv 2) (pa_cons (pe_tup (pa_cons (pv 5) (pa_cons (pv 6) pa_nil))) pa_nil)))) pss_nil)))))))
      (pss_one (ps_ret (pe_callTy call_tuple_ofF (by rfl) T.tuple (by decide +kernel) (pa_cons (pv 2) pa_nil)))))), ?_⟩
    have hsd : s ≠ d := fun e => by
      subst e
      obtain ⟨_, _, _, _, _, h1, _⟩ := dr
      rw [hs] at h1
      cases ns with
      | nil => cases h1
      | cons x l =>
        rw [List.map_cons] at h1
        have := (List.cons.inj (HO.lst.inj (Option.some.inj h1))).1
        cases this
    refine ⟨Nat.zero_le _, fun p np => ?_⟩
    have hpd : p ≠ d := (ne_of_none dr.lst.choose_spec np).symm
    have hpc : p ≠ c := (ne_of_none dr.lstc.choose_spec np).symm
    have hps : p ≠ s := (ne_of_none hs np).symm
    have s1 := same_upd (o := .lst []) np
    refine ⟨6, rfl, by decide, by decide, for_range (lo := 0) (n := 6) (fun i σ H' => ∃ (ts : List Addr) (sh : Sh) (v3 v4 v5 v6 : Option V), σ = [some (.ref d), some (.ref s), some (.ref p), v3, v4, v5, v6] ∧
        Kb d H H' ∧ DrAt H' d c ∧ H' p = some (.lst (ts.map V.ref)) ∧ Axes K H' ts sh ∧ chk sh = 0 ∧ Low sh)
      ⟨[], [], _, _, _, _, rfl, Same.kb s1, dr.same s1, upd_same, Axes.nil, rfl, fun _ h => (by cases h)⟩ ?_ ?_⟩
    · clear s1 dr
      rintro i σ H5 hi ⟨ts, sh, v3, v4, v5, v6, rfl, kb, dr5, hp5, hx5, hk, hw⟩
      refine ⟨fun σ' H' => ∃ pl : Nat, pl < 6 ∧ σ' = [some (.ref d), some (.ref s), some (.ref p), some (.int ((0 : Int) + i)), some (.int pl), v5, v6] ∧ But d H5 H' ∧ DrAt H' d c, ?_, ?_⟩
      · refine ⟨_, rfl, d, c, 2, rfl, dr5, by decide, bnd30 (by decide), fun H6 v k6 dr6 v0 v1 => ⟨rfl, _, rfl, ?_⟩⟩
        refine ite2 (fun _ => ?_) (fun _ => ?_)
        · refine ⟨_, rfl, _, _, rfl, rfl, .inr ⟨by decide, by decide⟩, _, _, rfl, rfl, _, _, rfl, rfl, by show (0 : Int) < 6; decide, ?_⟩
          refine ⟨(((0 : Int) + i) * 5 + 2) % 6 |>.toNat, by omega, ?_, k6, dr6⟩
          rw [Int.toNat_of_nonneg (by omega)]
          rfl
        · refine ⟨_, rfl, i, by omega, ?_, k6, dr6⟩
          rw [Int.zero_add]
          rfl
      rintro σ' H6 ⟨pl, hpl, rfl, k6, dr6⟩
      have hsl : six.cps.toList.length = 6 := by decide +kernel
      obtain ⟨ch, hch⟩ : ∃ ch, six.cps.toList[pl]? = some ch := ⟨_, List.getElem?_eq_getElem (show pl < six.cps.toList.length by omega)⟩
      have hsl2 : six.length = 6 := by decide +kernel
      have hlow : ch < 128 := (show ∀ x ∈ six.cps.toList, x < 128 by decide +kernel) ch (List.mem_of_getElem? hch)
      have hs6 : H6 s = some (.lst (ns.map V.int)) := by rw [k6 s hsd]; exact kb s _ hsd hs
      have hp6 : H6 p = some (.lst (ts.map V.ref)) := by rw [k6 p hpd]; exact hp5
      have hx6 := hx5.keep (But.nl k6 dr5)
      have kb6 := kb.trans (But.kb k6)
      clear hp5 hx5 dr5 kb k6
      have hnv : ns[pl]? = some ns[pl] := List.getElem?_eq_getElem (by omega)
      have hmv := hb ns[pl] (List.getElem_mem _)
      generalize ns[pl] = sz at hnv hmv
      refine ⟨_, rfl, six, pl, ch, rfl, rfl, small64 (by omega), atI_nat hch, ?_⟩
      refine ⟨_, rfl, _, rfl, s, _, pl, _, rfl, rfl, SqL.of hs6, atI_nat (by rw [List.getElem?_map, hnv]; rfl), ?_⟩
      refine ⟨fun σ' H' => ∃ z : Int, 1 ≤ z ∧ z ≤ 16 ∧ σ' = [some (.ref d), some (.ref s), some (.ref p), some (.int ((0 : Int) + i)), some (.int pl), some (.str (one ch)), some (.int z)] ∧ But d H6 H' ∧ DrAt H' d c, ?_, ?_⟩
      · refine ⟨_, rfl, d, c, 12, rfl, dr6, by decide, bnd30 (by decide), fun H7 v k7 dr7 v0 v1 => ⟨rfl, _, rfl, ?_⟩⟩
        refine ite2 (fun _ => ?_) (fun _ => ?_)
        · refine ⟨_, rfl, d, c, 16, rfl, dr7, by decide, bnd30 (by decide), fun H8 v8 k8 dr8 v80 v81 => ⟨_, _, rfl, rfl, ?_⟩⟩
          exact ⟨1 + v8, by omega, by omega, rfl, k7.trans k8, dr8⟩
        · exact ⟨sz, by omega, by omega, rfl, k7, dr7⟩
      rintro σ' H7 ⟨z, z1, z2, rfl, k7, dr7⟩
      have hp7 : H7 p = some (.lst (ts.map V.ref)) := by rw [k7 p hpd]; exact hp6
      have hx7 := hx6.keep (But.nl k7 dr6)
      have kb7 := kb6.trans (But.kb k7)
      clear hp6 hx6 dr6 kb6 k7 hs6
      obtain ⟨c1, c2, c3, c4⟩ := chk_zero.mp hk
      have hlen : (ts.map V.ref).length = sh.length := by rw [List.length_map, hx7.1]
      refine ⟨_, rfl, p, _, rfl, .inl (SqL.of hp7), _, _, rfl, rfl, _, rfl, ite2 (fun e1 => ?_) (fun _ => ⟨ts, sh, _, _, _, _, rfl, kb7, dr7, hp7, hx7, hk, hw⟩)⟩
      have e1' := of_decide_eq_true e1
      rw [hlen] at e1'
      refine ⟨_, rfl, d, c, 2, rfl, dr7, by decide, bnd30 (by decide), fun H8 v k8 dr8 v0 v1 => ⟨rfl, _, rfl, ?_⟩⟩
      have hp8 : H8 p = some (.lst (ts.map V.ref)) := by rw [k8 p hpd]; exact hp7
      have hx8 := hx7.keep (But.nl k8 dr7)
      have kb8 := kb7.trans (But.kb k8)
      clear hp7 hx7 dr7 kb7 k8
      refine ite2 (fun _ => ?_) (fun _ => ⟨ts, sh, _, _, _, _, rfl, kb8, dr8, hp8, hx8, hk, hw⟩)
      refine ⟨_, rfl, _, rfl, p, sh, ch, rfl, ⟨ts, SqL.of hp8, hx8⟩, rfl, _, rfl, ?_⟩
      rw [dec_int]
      cases e : look sh ch with
      | some y =>
        have := (c3 _ (look_mem e)).1
        rw [show (((some y).getD 0 : Int) == 0) = false from beq_eq_false_iff_ne.mpr (by show y ≠ 0; omega)]
        exact iteF ⟨ts, sh, _, _, _, _, rfl, kb8, dr8, hp8, hx8, hk, hw⟩
      | none =>
        refine iteT ?_
        refine ⟨_, rfl, p, sh, rfl, ⟨ts, SqL.of hp8, hx8⟩, c3.mod, _, rfl, _, _, rfl, rfl, .inr ⟨by omega, by omega⟩, _, _, rfl, rfl, _, rfl, ite2 (fun e4 => ?_) (fun _ => ⟨ts, sh, _, _, _, _, rfl, kb8, dr8, hp8, hx8, hk, hw⟩)⟩
        have e4' := of_decide_eq_true e4
        have t2 : 2 ≤ sizeLine := by decide
        refine ⟨_, rfl, .inl ⟨rfl, _, SqL.of hp8⟩, _, rfl, _, rfl, t2, fun u nu => ?_⟩
        have s9 := same_upd (o := .tup [.str (one ch), .int z]) nu
        refine ⟨p, _, _, rfl, rfl, s9 _ _ hp8, ?_, ?_⟩
        · rw [hlen]
          exact small1000 (by omega)
        · refine ⟨ts ++ [u], sh ++ [(ch, z)], _, _, _, _, rfl, fun b o nb hbo => ?_, (dr8.same s9).upd _ hpd hpc, ?_, ?_, chk_snoc hk (by omega) e ⟨z1, z2⟩ e4', fun x hx => ?_⟩
          · have hbp : b ≠ p := fun e => by
              subst e
              rw [np] at hbo
              cases hbo
            rw [upd_ne hbp]
            exact s9 _ _ (kb8 b o nb hbo)
          · rw [upd_same, List.map_append]
            rfl
          · exact ((hx8.same s9).snoc (SqT.of upd_same)).keep (nl_upd (s9 _ _ hp8))
          · rcases List.mem_append.mp hx with hx | hx
            · exact hw x hx
            · rw [List.mem_singleton] at hx
              subst hx
              exact hlow
    · rintro σ H5 ⟨ts, sh, v3, v4, v5, v6, rfl, kb, dr5, hp5, hx5, hk, hw⟩
      refine ⟨_, rfl, p, _, rfl, SqL.of hp5, fun l o nl ho => ?_⟩
      have s9 := same_upd (o := .frz o (.tup (ts.map V.ref))) nl
      exact q _ l sh (kb.trans (Same.kb s9)) (dr5.same s9) ⟨ts, .inl (.inr ⟨o, upd_same⟩), hx5.same s9⟩ ⟨o, ho, .inl ⟨_, upd_same⟩⟩ hk hw
end
section
variable {P : Program} {w : World} {K : PySem.W.Frag} {mg : Str → Option Value} {base : Heap}
/-! ### the law -/
structure Calls (P : Program) (w : World) (K : PySem.W.Frag) (mg : Str → Option Value) (base : Heap) (CX : CXT) (k : Nat) (name : Str) (ps : List Str) (sp : Sp) : Prop where
  ex : ∃ (f : Addr) (fd : FuncData), FnOk P w K mg base CX k f fd ps sp ∧ PySem.W.keepIn K (.ref f) = true ∧ Binds K fd ps [] ∧ mg name = some (.ref f)
def spLaw (K : PySem.W.Frag) : Sp := fun vs H Q _ => ∃ (a : Addr) (ns : List Int), vs = [.ref a] ∧ SqL K H a (ns.map V.int) ∧ ns.length ≤ 63 ∧ ∀ H', Q (.bl true) H'
abbrev nL : List Str := ["script", "d", "turn", "sizes", "first", "second", "k"]
theorem scL : FnScope nL ["script"] (defScope sLaw) := ⟨rfl, rfl, rfl, by decide +kernel, rfl, by decide +kernel, by decide +kernel⟩
theorem dat_zero (sh : Sh) : dat (0, sh) = datSh sh := rfl
theorem ShT.nil {H : Hp} {p : Addr} : ShT K (upd H p (.tup [])) p [] := ⟨[], SqT.of upd_same, Axes.nil⟩
theorem chk_nil : chk [] = 0 := rfl
theorem low_nil : Low [] := fun p h => nomatch h
theorem ok_law {f : Addr} {fd : FuncData} (F : Fun K "law" "law" sLaw f fd) (T : Txt mg)
    (cB : Calls P w K mg base CX0 1 "_law_begin" ["script"] (spBegin K)) (cT : Calls P w K mg base CX0 1 "_law_take" ["d", "many"] spTake) (cS : Calls P w K mg base CX0 2 "_law_shape" ["d", "sizes"] (spShape K))
    (cTo : Calls P w K mg base CX0 4 "_law_told" ["first", "second"] (spTold K)) (cDu : Calls P w K mg base CX0 3 "_law_due" ["first", "second"] (spDue K)) :
    FnOk P w K mg base CX0 5 f fd ["script"] (spLaw K) := by
  obtain ⟨fB, dB, GB, kB, bB, gB⟩ := cB.ex
  obtain ⟨fT, dT, GT, kT, bT, gT⟩ := cT.ex
  obtain ⟨fS, dS, GS, kS, bS, gS⟩ := cS.ex
  obtain ⟨fTo, dTo, GTo, kTo, bTo, gTo⟩ := cTo.ex
  obtain ⟨fDu, dDu, GDu, kDu, bDu, gDu⟩ := cDu.ex
  clear cB cT cS cTo cDu
  refine F.ok scL (fun vs H Q E h => ?_) (fun cdv A outer s H vs Q E hr h => ?_)
  · obtain ⟨a, ns, rfl, _⟩ := h
    rfl
  · obtain ⟨a, ns, rfl, hS, hlen, q⟩ := h
    have hr1 : Room 1 _ := hr.mono (by decide)
    have hr2 : Room 2 _ := hr.mono (by decide)
    have hr3 : Room 3 _ := hr.mono (by decide)
    refine ⟨_, (pss_cons (ps_set (i := 1) scL.nd rfl (.inr rfl) (pe_call GB hr1 (by rfl) gB kB bB .nil pass0 (pa_cons (pv 0) pa_nil)))
      (pss_cons (ps_for PassesOwn.never rfl (pi_range1 rfl T.range (pa_cons pe_int pa_nil)) (pg_name (i := 2) scL.nd rfl (.inl rfl)) (pss_cons (ps_setLc (i := 3) (own := [("k", 6)]) (g := gName 6) (tt := tYes) (te := tOp (rI0 fun i j => .int (i + j)) (tC (.int 1)) (tCall spTake [] E0 (tCons (tVar 1) (tCons (tC (.int 8)) tNil)))) (by rfl) scL.nd rfl rfl (sw_true rfl rfl rfl (by decide +kernel)) (pi_range1 rfl T.range (pa_cons pe_int pa_nil)) (blkOk_by (N := nL) (sc := defScope sLaw) (by decide +kernel)) (fun _ _ _ _ _ => pg_name (i := 6) scL.nd rfl (.inl rfl)) (fun _ _ _ _ _ => pts_nil) (fun _ _ _ _ _ => pe_op op_add pe_int (pe_call GT hr1 (by rfl) gT kT bT .nil pass0 (pa_cons (pv 1) (pa_cons pe_int pa_nil)))))
      (pss_cons (ps_set (i := 4) scL.nd rfl (.inl rfl) (pe_call GS hr2 (by rfl) gS kS bS .nil pass0 (pa_cons (pv 1) (pa_cons (pv 3) pa_nil))))
      (pss_cons (ps_set (i := 5) scL.nd rfl (.inl rfl) (pe_call GS hr2 (by rfl) gS kS bS .nil pass0 (pa_cons (pv 1) (pa_cons (pv 3) pa_nil))))
      (pss_cons (ps_if (pt_cmpR (op_neD hr.units) (pe_call GTo hr (by rfl) gTo kTo bTo .nil pass0 (pa_cons (pv 4) (pa_cons (pv 5) pa_nil))) (pe_call GDu hr3 (by rfl) gDu kDu bDu .nil pass0 (pa_cons (pv 4) (pa_cons (pv 5) pa_nil))) (nomark _)) (pss_one (ps_ret (pe_bl))) pss_nil)
      (pss_one (ps_if (PW.pt (pw_or (pt_cmpR (op_neD hr.units) (pe_call GTo hr (by rfl) gTo kTo bTo .nil pass0 (pa_cons (pv 4) (pa_cons (pv 4) pa_nil))) (pv 4) (nomark _)) (pw_or (pt_cmpR (op_neD hr.units) (pe_call GTo hr (by rfl) gTo kTo bTo .nil pass0 (pa_cons (pv 4) (pa_cons (pe_tup pa_nil) pa_nil))) (pv 4) (nomark _)) (pw_or1 (pt_cmpR (op_neD hr.units) (pe_call GTo hr (by rfl) gTo kTo bTo .nil pass0 (pa_cons (pe_tupF pa_nil) (pa_cons (pv 5) pa_nil))) (pv 5) (nomark _)))))) (pss_one (ps_ret (pe_bl))) pss_nil)))))))
      (pss_one (ps_ret (pe_bl))))), ?_⟩
    refine ⟨_, rfl, a, ns, rfl, hS, hlen, fun H1 d c sm1 nd nc dr => ?_⟩
    refine ⟨3, rfl, by decide, by decide, for_range (lo := 0) (n := 3) (fun i σ H' => ∃ (v2 v3 v4 v5 v6 : Option V), σ = [some (.ref a), some (.ref d), v2, v3, v4, v5, v6] ∧ DrAt H' d c)
      ⟨_, _, _, _, _, rfl, dr⟩ ?_ ?_⟩
    · clear dr sm1 nd nc
      rintro turn σ H2 hturn ⟨v2, v3, v4, v5, v6, rfl, dr⟩
      refine ⟨6, rfl, by decide, by decide, fun D nD => lc_range (lo := 0) (n := 6) (fun i H' => ∃ ns : List Int, H' D = some (.lst (ns.map V.int)) ∧ ns.length = i ∧ (∀ x ∈ ns, 1 ≤ x ∧ x ≤ 8) ∧ DrAt H' d c)
        ⟨[], upd_same, rfl, fun _ h => (by cases h), dr.same (same_upd nD)⟩ ?_ ?_⟩
      · rintro i H' hi ⟨ns, hD, hl, hb, dr'⟩
        have hDd : D ≠ d := (ne_of_none dr.lst.choose_spec nD).symm
        have hDc : D ≠ c := (ne_of_none dr.lstc.choose_spec nD).symm
        refine ⟨rfl, ?_⟩
        unfold tYes
        dsimp only
        rw [if_pos rfl]
        refine ⟨_, rfl, d, c, 8, rfl, dr', by decide, bnd30 (by decide), fun H3 v k3 dr3 v0 v1 => ⟨_, _, rfl, rfl, _, (by rw [k3 D hDd]; exact hD), ?_, ns ++ [1 + v], ?_, ?_, ?_, dr3.upd _ hDd hDc⟩⟩
        · rw [List.length_map, hl]
          exact small1000 (by omega)
        · rw [upd_same, List.map_append]
          rfl
        · rw [List.length_append, hl]
          rfl
        · intro x hx
          rcases List.mem_append.mp hx with hx | hx
          · exact hb x hx
          · rw [List.mem_singleton] at hx
            subst hx
            omega
      · rintro H3 ⟨ns, hD, hl, hb, dr3⟩
        have hDd : D ≠ d := (ne_of_none dr.lst.choose_spec nD).symm
        refine ⟨_, rfl, _, rfl, d, c, D, ns, rfl, dr3, hD, hl, hb, fun H4 p1 sh1 kb4 dr4 hS1 hN1 hk1 hw1 => ?_⟩
        refine ⟨_, rfl, _, rfl, d, c, D, ns, rfl, dr4, kb4 D _ hDd hD, hl, hb, fun H5 p2 sh2 kb5 dr5 hS2 hN2 hk2 hw2 => ?_⟩
        replace hS1 := hS1.keep (kb5.nl dr4)
        replace hN1 := hN1.keep (kb5.nl dr4)
        clear dr dr3 dr4 kb4 kb5 hD
        refine ⟨_, rfl, _, rfl, p1, p2, sh1, sh2, rfl, hS1, hN1, hS2, hk1, hk2, fun H6 s6 => Fin2.of fun v hv => ?_⟩
        refine ⟨_, rfl, _, rfl, p1, p2, sh1, sh2, rfl, hS1.same s6, hS2.same s6, hk1, hk2, fun H7 s7 => Fin2.of fun v' hv' => ?_⟩
        have hsd := dat_shaped _ (rc_low hw1 hw2)
        refine ⟨_, _, hv _ s7, hv' _ (Same.refl _), hsd, hsd, _, rfl, ?_⟩
        rw [eqv_self hsd]
        refine iteF ?_
        have s57 := s6.trans s7
        replace hS1 := hS1.same s57
        replace hN1 := hN1.same s57
        replace hS2 := hS2.same s57
        replace dr5 := dr5.same s57
        clear hv hv' s57 s6 s7
        refine ⟨_, rfl, _, rfl, p1, p1, sh1, sh1, rfl, hS1, hN1, hS1, hk1, hk1, fun H8 s8 => Fin2.of fun v hv => ?_⟩
        rw [rc_self hk1] at hv
        have hs1 := datSh_shaped sh1 hw1
        have hs2 := datSh_shaped sh2 hw2
        refine ⟨_, rfl, _, _, hv _ (Same.refl _), dp_sh (hS1.same s8), hs1, hs1, _, rfl, ?_⟩
        rw [dat_zero, eqv_self hs1]
        refine iteF ?_
        refine ⟨_, rfl, Nat.zero_le _, fun q1 nq1 => ⟨p1, q1, sh1, [], rfl, (hS1.same s8).same (same_upd nq1), (hN1.same s8).same (same_upd nq1), ShT.nil, hk1, chk_nil, fun H9 s9 => Fin2.of fun v hv => ?_⟩⟩
        rw [rc_right hk1] at hv
        have s79 := (s8.trans (same_upd nq1)).trans s9
        refine ⟨_, rfl, _, _, hv _ (Same.refl _), dp_sh (hS1.same s79), hs1, hs1, _, rfl, ?_⟩
        rw [dat_zero, eqv_self hs1]
        refine iteF ?_
        refine ⟨Nat.zero_le _, fun q2 o nq2 ho => ?_⟩
        have s10 := s79.trans (same_upd (o := .frz o (.tup [])) nq2)
        refine ⟨_, rfl, q2, p2, [], sh2, rfl, ⟨[], .inl (.inr ⟨o, upd_same⟩), Axes.nil⟩, ⟨o, ho, .inl ⟨_, upd_same⟩⟩, hS2.same s10, chk_nil, hk2, fun H10 s11 => Fin2.of fun v hv => ?_⟩
        rw [rc_left hk2] at hv
        refine ⟨_, rfl, _, _, hv _ (Same.refl _), dp_sh (hS2.same (s10.trans s11)), hs2, hs2, _, rfl, ?_⟩
        rw [dat_zero, eqv_self hs2]
        refine iteF ?_
        exact ⟨_, _, _, _, _, rfl, dr5.same (s10.trans s11)⟩
    · rintro σ H' _
      exact q _
end
/-! ### what the top has written, the head -/
theorem all_mk {l : PySem.W.OpenLaw} {w : World} {K : PySem.W.Frag} {h : Heap} {mg : Str → Option Value} {fa f1 f2 f3 f4 f5 f6 f7 f8 f9 f10 f11 f12 f13 f14 z1 z2 z3 z4 cT : Addr} (X : K.In h) (G : h.Ns mainGlobals mg) (hfa : mg "law" = some (.ref fa))
    {od1 an1 od2 an2 od3 an3 od4 an4 od5 an5 od6 an6 od7 an7 od8 an8 od9 an9 od10 an10 od11 an11 od12 an12 od13 an13 od14 an14 : Option Addr} {sl1 sl2 sl3 sl4 sl5 sl6 sl7 sl8 sl9 sl10 sl11 sl12 sl13 sl14 : Array (Option Value)} {oc1 kV1 dc1 pm1 cd1 ct1 oc2 kV2 dc2 pm2 cd2 ct2 oc3 kV3 dc3 pm3 cd3 ct3 oc4 kV4 dc4 pm4 cd4 ct4 oc5 kV5 dc5 pm5 cd5 ct5 oc6 kV6 dc6 pm6 cd6 ct6 oc7 kV7 dc7 pm7 cd7 ct7 oc8 kV8 dc8 pm8 cd8 ct8 oc9 kV9 dc9 pm9 cd9 ct9 oc10 kV10 dc10 pm10 cd10 ct10 oc11 kV11 dc11 pm11 cd11 ct11 oc12 kV12 dc12 pm12 cd12 ct12 oc13 kV13 dc13 pm13 cd13 ct13 oc14 kV14 dc14 pm14 cd14 ct14 : Value}
    {tk1 tk2 tk3 : Tok}
    (a1 : PySem.W.nsIn K mainGlobals "check_shape" = some (some (.ref f1))) (l1 : K.lookup f1 = some ⟨oc1, od1, .func (PySem.W.fnOf "check_shape" "check_shape" (defArgs sCheck) (defBody sCheck) (defScope sCheck) .none kV1 dc1 pm1 an1 cd1 ct1), sl1⟩) (c1 : PySem.W.codeIn K cd1 "check_shape" = true) (k1 : PySem.W.keepIn K (.ref f1) = true)
    (a2 : PySem.W.nsIn K mainGlobals "count_of" = some (some (.ref f2))) (l2 : K.lookup f2 = some ⟨oc2, od2, .func (PySem.W.fnOf "count_of" "count_of" (defArgs sCountOf) (defBody sCountOf) (defScope sCountOf) .none kV2 dc2 pm2 an2 cd2 ct2), sl2⟩) (c2 : PySem.W.codeIn K cd2 "count_of" = true) (k2 : PySem.W.keepIn K (.ref f2) = true)
    (a3 : PySem.W.nsIn K mainGlobals "letters_of" = some (some (.ref f3))) (l3 : K.lookup f3 = some ⟨oc3, od3, .func (PySem.W.fnOf "letters_of" "letters_of" (defArgs sLettersOf) (defBody sLettersOf) (defScope sLettersOf) .none kV3 dc3 pm3 an3 cd3 ct3), sl3⟩) (c3 : PySem.W.codeIn K cd3 "letters_of" = true) (k3 : PySem.W.keepIn K (.ref f3) = true)
    (a4 : PySem.W.nsIn K mainGlobals "merged" = some (some (.ref f4))) (l4 : K.lookup f4 = some ⟨oc4, od4, .func (PySem.W.fnOf "merged" "merged" (defArgs sMerged) (defBody sMerged) (defScope sMerged) .none kV4 dc4 pm4 an4 cd4 ct4), sl4⟩) (c4 : PySem.W.codeIn K cd4 "merged" = true) (k4 : PySem.W.keepIn K (.ref f4) = true)
    (a5 : PySem.W.nsIn K mainGlobals "broadcast" = some (some (.ref f5))) (l5 : K.lookup f5 = some ⟨oc5, od5, .func (PySem.W.fnOf "broadcast" "broadcast" (defArgs sBroad) (defBody sBroad) (defScope sBroad) .none kV5 dc5 pm5 an5 cd5 ct5), sl5⟩) (c5 : PySem.W.codeIn K cd5 "broadcast" = true) (k5 : PySem.W.keepIn K (.ref f5) = true)
    (a6 : PySem.W.nsIn K mainGlobals "_law_begin" = some (some (.ref f6))) (l6 : K.lookup f6 = some ⟨oc6, od6, .func (PySem.W.fnOf "_law_begin" "_law_begin" (defArgs sBegin) (defBody sBegin) (defScope sBegin) .none kV6 dc6 pm6 an6 cd6 ct6), sl6⟩) (c6 : PySem.W.codeIn K cd6 "_law_begin" = true) (k6 : PySem.W.keepIn K (.ref f6) = true)
    (a7 : PySem.W.nsIn K mainGlobals "_law_take" = some (some (.ref f7))) (l7 : K.lookup f7 = some ⟨oc7, od7, .func (PySem.W.fnOf "_law_take" "_law_take" (defArgs sTake) (defBody sTake) (defScope sTake) .none kV7 dc7 pm7 an7 cd7 ct7), sl7⟩) (c7 : PySem.W.codeIn K cd7 "_law_take" = true) (k7 : PySem.W.keepIn K (.ref f7) = true)
    (a8 : PySem.W.nsIn K mainGlobals "_law_count" = some (some (.ref f8))) (l8 : K.lookup f8 = some ⟨oc8, od8, .func (PySem.W.fnOf "_law_count" "_law_count" (defArgs sCount) (defBody sCount) (defScope sCount) .none kV8 dc8 pm8 an8 cd8 ct8), sl8⟩) (c8 : PySem.W.codeIn K cd8 "_law_count" = true) (k8 : PySem.W.keepIn K (.ref f8) = true)
    (a9 : PySem.W.nsIn K mainGlobals "_law_size" = some (some (.ref f9))) (l9 : K.lookup f9 = some ⟨oc9, od9, .func (PySem.W.fnOf "_law_size" "_law_size" (defArgs sSize) (defBody sSize) (defScope sSize) .none kV9 dc9 pm9 an9 cd9 ct9), sl9⟩) (c9 : PySem.W.codeIn K cd9 "_law_size" = true) (k9 : PySem.W.keepIn K (.ref f9) = true)
    (a10 : PySem.W.nsIn K mainGlobals "_law_cast" = some (some (.ref f10))) (l10 : K.lookup f10 = some ⟨oc10, od10, .func (PySem.W.fnOf "_law_cast" "_law_cast" (defArgs sCast) (defBody sCast) (defScope sCast) .none kV10 dc10 pm10 an10 cd10 ct10), sl10⟩) (c10 : PySem.W.codeIn K cd10 "_law_cast" = true) (k10 : PySem.W.keepIn K (.ref f10) = true)
    (a11 : PySem.W.nsIn K mainGlobals "_law_told" = some (some (.ref f11))) (l11 : K.lookup f11 = some ⟨oc11, od11, .func (PySem.W.fnOf "_law_told" "_law_told" (defArgs sTold) (defBody sTold) (defScope sTold) .none kV11 dc11 pm11 an11 cd11 ct11), sl11⟩) (c11 : PySem.W.codeIn K cd11 "_law_told" = true) (k11 : PySem.W.keepIn K (.ref f11) = true)
    (a12 : PySem.W.nsIn K mainGlobals "_law_due" = some (some (.ref f12))) (l12 : K.lookup f12 = some ⟨oc12, od12, .func (PySem.W.fnOf "_law_due" "_law_due" (defArgs sDue) (defBody sDue) (defScope sDue) .none kV12 dc12 pm12 an12 cd12 ct12), sl12⟩) (c12 : PySem.W.codeIn K cd12 "_law_due" = true) (k12 : PySem.W.keepIn K (.ref f12) = true)
    (a13 : PySem.W.nsIn K mainGlobals "_law_shape" = some (some (.ref f13))) (l13 : K.lookup f13 = some ⟨oc13, od13, .func (PySem.W.fnOf "_law_shape" "_law_shape" (defArgs sShape) (defBody sShape) (defScope sShape) .none kV13 dc13 pm13 an13 cd13 ct13), sl13⟩) (c13 : PySem.W.codeIn K cd13 "_law_shape" = true) (k13 : PySem.W.keepIn K (.ref f13) = true)
    (a14 : PySem.W.nsIn K mainGlobals "law" = some (some (.ref f14))) (l14 : K.lookup f14 = some ⟨oc14, od14, .func (PySem.W.fnOf "law" "law" (defArgs sLaw) (defBody sLaw) (defScope sLaw) .none kV14 dc14 pm14 an14 cd14 ct14), sl14⟩) (c14 : PySem.W.codeIn K cd14 "law" = true) (k14 : PySem.W.keepIn K (.ref f14) = true)
    (aEz1 : PySem.W.nsIn K mainGlobals "RankError" = some (some (.ref z1)))
    (kEz1 : PySem.W.keepIn K (.ref z1) = true)
    (bEz1 : PySem.W.subIn K (.ref z1) (.type "BaseException") = some true)
    (tEz1 : PySem.W.typeIn K (.ref z1) = some (.type "type"))
    (hEz1 : PySem.W.hasDictIn K z1 = true)
    (aEz2 : PySem.W.nsIn K mainGlobals "AxisError" = some (some (.ref z2)))
    (kEz2 : PySem.W.keepIn K (.ref z2) = true)
    (bEz2 : PySem.W.subIn K (.ref z2) (.type "BaseException") = some true)
    (tEz2 : PySem.W.typeIn K (.ref z2) = some (.type "type"))
    (hEz2 : PySem.W.hasDictIn K z2 = true)
    (aEz3 : PySem.W.nsIn K mainGlobals "RangeError" = some (some (.ref z3)))
    (kEz3 : PySem.W.keepIn K (.ref z3) = true)
    (bEz3 : PySem.W.subIn K (.ref z3) (.type "BaseException") = some true)
    (tEz3 : PySem.W.typeIn K (.ref z3) = some (.type "type"))
    (hEz3 : PySem.W.hasDictIn K z3 = true)
    (aEz4 : PySem.W.nsIn K mainGlobals "TooLarge" = some (some (.ref z4)))
    (kEz4 : PySem.W.keepIn K (.ref z4) = true)
    (bEz4 : PySem.W.subIn K (.ref z4) (.type "BaseException") = some true)
    (tEz4 : PySem.W.typeIn K (.ref z4) = some (.type "type"))
    (hEz4 : PySem.W.hasDictIn K z4 = true)
    (aEcT : PySem.W.nsIn K mainGlobals "TensorError" = some (some (.ref cT)))
    (kEcT : PySem.W.keepIn K (.ref cT) = true)
    (bEcT : PySem.W.subIn K (.ref cT) (.type "BaseException") = some true)
    (tEcT : PySem.W.typeIn K (.ref cT) = some (.type "type"))
    (hEcT : PySem.W.hasDictIn K cT = true)
    (xz1 : PySem.W.excIn K z1 valErr "ValueError.__new__" = true)
    (sTz1 : PySem.W.subIn K (.ref z1) (.ref cT) = some true)
    (i1z1 : PySem.W.findIn K (.ref z1) "__getattribute__" = some (some (.builtin "BaseException.__getattribute__")))
    (i2z1 : PySem.W.findIn K (.ref z1) "__getattr__" = some none)
    (i3z1 : PySem.W.findIn K (.ref z1) "__class__" = some (some (.builtin "object.__class__")))
    (i6z1 : PySem.W.mroIn K z1 (.type "object") = some true)
    (sz1z1 : PySem.W.subIn K (.ref z1) (.ref z1) = some true)
    (sz1z2 : PySem.W.subIn K (.ref z1) (.ref z2) = some false)
    (sz1z3 : PySem.W.subIn K (.ref z1) (.ref z3) = some false)
    (sz1z4 : PySem.W.subIn K (.ref z1) (.ref z4) = some false)
    (xz2 : PySem.W.excIn K z2 valErr "ValueError.__new__" = true)
    (sTz2 : PySem.W.subIn K (.ref z2) (.ref cT) = some true)
    (i1z2 : PySem.W.findIn K (.ref z2) "__getattribute__" = some (some (.builtin "BaseException.__getattribute__")))
    (i2z2 : PySem.W.findIn K (.ref z2) "__getattr__" = some none)
    (i3z2 : PySem.W.findIn K (.ref z2) "__class__" = some (some (.builtin "object.__class__")))
    (i6z2 : PySem.W.mroIn K z2 (.type "object") = some true)
    (sz2z1 : PySem.W.subIn K (.ref z2) (.ref z1) = some false)
    (sz2z2 : PySem.W.subIn K (.ref z2) (.ref z2) = some true)
    (sz2z3 : PySem.W.subIn K (.ref z2) (.ref z3) = some false)
    (sz2z4 : PySem.W.subIn K (.ref z2) (.ref z4) = some false)
    (xz3 : PySem.W.excIn K z3 valErr "ValueError.__new__" = true)
    (sTz3 : PySem.W.subIn K (.ref z3) (.ref cT) = some true)
    (i1z3 : PySem.W.findIn K (.ref z3) "__getattribute__" = some (some (.builtin "BaseException.__getattribute__")))
    (i2z3 : PySem.W.findIn K (.ref z3) "__getattr__" = some none)
    (i3z3 : PySem.W.findIn K (.ref z3) "__class__" = some (some (.builtin "object.__class__")))
    (i6z3 : PySem.W.mroIn K z3 (.type "object") = some true)
    (sz3z1 : PySem.W.subIn K (.ref z3) (.ref z1) = some false)
    (sz3z2 : PySem.W.subIn K (.ref z3) (.ref z2) = some false)
    (sz3z3 : PySem.W.subIn K (.ref z3) (.ref z3) = some true)
    (sz3z4 : PySem.W.subIn K (.ref z3) (.ref z4) = some false)
    (xz4 : PySem.W.excIn K z4 valErr "ValueError.__new__" = true)
    (sTz4 : PySem.W.subIn K (.ref z4) (.ref cT) = some true)
    (i1z4 : PySem.W.findIn K (.ref z4) "__getattribute__" = some (some (.builtin "BaseException.__getattribute__")))
    (i2z4 : PySem.W.findIn K (.ref z4) "__getattr__" = some none)
    (i3z4 : PySem.W.findIn K (.ref z4) "__class__" = some (some (.builtin "object.__class__")))
    (i6z4 : PySem.W.mroIn K z4 (.type "object") = some true)
    (sz4z1 : PySem.W.subIn K (.ref z4) (.ref z1) = some false)
    (sz4z2 : PySem.W.subIn K (.ref z4) (.ref z2) = some false)
    (sz4z3 : PySem.W.subIn K (.ref z4) (.ref z3) = some false)
    (sz4z4 : PySem.W.subIn K (.ref z4) (.ref z4) = some true)
    (i4 : PySem.W.specialIn K (.builtin "object.__class__") "__get__" = some (some (.builtin "getset_descriptor.__get__")))
    (i5 : PySem.W.takesIn K (.builtin "object.__class__") = some true)
    (e1 : PySem.W.nsIn K mainGlobals "RANK_LIMIT" = some (some (.int 4 tk1)))
    (e2 : PySem.W.nsIn K mainGlobals "SIZE_LIMIT" = some (some (.int 16 tk2)))
    (e3 : PySem.W.nsIn K mainGlobals "COUNT_LIMIT" = some (some (.int 256 tk3)))
    (z_int : PySem.W.nsIn K mainGlobals "int" = some none)
    (z_abs : PySem.W.nsIn K mainGlobals "abs" = some none)
    (z_len : PySem.W.nsIn K mainGlobals "len" = some none)
    (z_list : PySem.W.nsIn K mainGlobals "list" = some none)
    (z_tuple : PySem.W.nsIn K mainGlobals "tuple" = some none)
    (z_range : PySem.W.nsIn K mainGlobals "range" = some none)
    (z_isinstance : PySem.W.nsIn K mainGlobals "isinstance" = some none)
    (z_set : PySem.W.nsIn K mainGlobals "set" = some none)
    (z_dict : PySem.W.nsIn K mainGlobals "dict" = some none)
    : ∃ fd : FuncData, (∀ (s : Shared) (v : Value), BindsTo s fd ⟨[v], []⟩ [("script", v)]) ∧ ∀ base : Heap, K.In base → base.Ns mainGlobals mg → FnOk l.prog w K mg base CX0 5 fa fd ["script"] (spLaw K) := by
  have e := hfa.symm.trans (PySem.W.mg_of X G a14)
  cases e
  have F1 := fun_mk (st := sCheck) l1 c1 k1
  have m1 := PySem.W.mg_of X G a1
  have b1 := F1.binds (ps := ["shape"]) fun _ _ _ _ _ _ us hl => match us, hl with | [_], _ => rfl
  have F2 := fun_mk (st := sCountOf) l2 c2 k2
  have m2 := PySem.W.mg_of X G a2
  have b2 := F2.binds (ps := ["shape"]) fun _ _ _ _ _ _ us hl => match us, hl with | [_], _ => rfl
  have F3 := fun_mk (st := sLettersOf) l3 c3 k3
  have m3 := PySem.W.mg_of X G a3
  have b3 := F3.binds (ps := ["shape"]) fun _ _ _ _ _ _ us hl => match us, hl with | [_], _ => rfl
  have F4 := fun_mk (st := sMerged) l4 c4 k4
  have m4 := PySem.W.mg_of X G a4
  have b4 := F4.binds (ps := ["first", "second"]) fun _ _ _ _ _ _ us hl => match us, hl with | [_, _], _ => rfl
  have F5 := fun_mk (st := sBroad) l5 c5 k5
  have m5 := PySem.W.mg_of X G a5
  have b5 := F5.binds (ps := ["first", "second"]) fun _ _ _ _ _ _ us hl => match us, hl with | [_, _], _ => rfl
  have F6 := fun_mk (st := sBegin) l6 c6 k6
  have m6 := PySem.W.mg_of X G a6
  have b6 := F6.binds (ps := ["script"]) fun _ _ _ _ _ _ us hl => match us, hl with | [_], _ => rfl
  have F7 := fun_mk (st := sTake) l7 c7 k7
  have m7 := PySem.W.mg_of X G a7
  have b7 := F7.binds (ps := ["d", "many"]) fun _ _ _ _ _ _ us hl => match us, hl with | [_, _], _ => rfl
  have F8 := fun_mk (st := sCount) l8 c8 k8
  have m8 := PySem.W.mg_of X G a8
  have b8 := F8.binds (ps := ["shape"]) fun _ _ _ _ _ _ us hl => match us, hl with | [_], _ => rfl
  have F9 := fun_mk (st := sSize) l9 c9 k9
  have m9 := PySem.W.mg_of X G a9
  have b9 := F9.binds (ps := ["shape", "letter"]) fun _ _ _ _ _ _ us hl => match us, hl with | [_, _], _ => rfl
  have F10 := fun_mk (st := sCast) l10 c10 k10
  have m10 := PySem.W.mg_of X G a10
  have b10 := F10.binds (ps := ["a", "b"]) fun _ _ _ _ _ _ us hl => match us, hl with | [_, _], _ => rfl
  have F11 := fun_mk (st := sTold) l11 c11 k11
  have m11 := PySem.W.mg_of X G a11
  have b11 := F11.binds (ps := ["first", "second"]) fun _ _ _ _ _ _ us hl => match us, hl with | [_, _], _ => rfl
  have F12 := fun_mk (st := sDue) l12 c12 k12
  have m12 := PySem.W.mg_of X G a12
  have b12 := F12.binds (ps := ["first", "second"]) fun _ _ _ _ _ _ us hl => match us, hl with | [_, _], _ => rfl
  have F13 := fun_mk (st := sShape) l13 c13 k13
  have m13 := PySem.W.mg_of X G a13
  have b13 := F13.binds (ps := ["d", "sizes"]) fun _ _ _ _ _ _ us hl => match us, hl with | [_, _], _ => rfl
  have F14 := fun_mk (st := sLaw) l14 c14 k14
  have m14 := PySem.W.mg_of X G a14
  have n_int := PySem.W.mg_none_of X G z_int
  have n_abs := PySem.W.mg_none_of X G z_abs
  have n_len := PySem.W.mg_none_of X G z_len
  have n_list := PySem.W.mg_none_of X G z_list
  have n_tuple := PySem.W.mg_none_of X G z_tuple
  have n_range := PySem.W.mg_none_of X G z_range
  have n_isinstance := PySem.W.mg_none_of X G z_isinstance
  have n_set := PySem.W.mg_none_of X G z_set
  have n_dict := PySem.W.mg_none_of X G z_dict
  have TD : TxtD mg := ⟨n_int, n_abs, n_len, n_list⟩
  have T : Txt mg := ⟨TD, n_tuple, n_range⟩
  have L1 : ∃ u, mg "RANK_LIMIT" = some u ∧ RelV (.int 4) u := ⟨_, PySem.W.mg_of X G e1, _, rfl⟩
  have L2' : ∃ u, mg "SIZE_LIMIT" = some u ∧ RelV (.int 16) u := ⟨_, PySem.W.mg_of X G e2, _, rfl⟩
  have L3 : ∃ u, mg "COUNT_LIMIT" = some u ∧ RelV (.int 256) u := ⟨_, PySem.W.mg_of X G e3, _, rfl⟩
  have Rz1 : ErrR K mg "RankError" z1 := ⟨PySem.W.mg_of X G aEz1, xz1, kEz1, bEz1, tEz1⟩
  have Rz2 : ErrR K mg "AxisError" z2 := ⟨PySem.W.mg_of X G aEz2, xz2, kEz2, bEz2, tEz2⟩
  have Rz3 : ErrR K mg "RangeError" z3 := ⟨PySem.W.mg_of X G aEz3, xz3, kEz3, bEz3, tEz3⟩
  have Rz4 : ErrR K mg "TooLarge" z4 := ⟨PySem.W.mg_of X G aEz4, xz4, kEz4, bEz4, tEz4⟩
  let C : Nat → Addr := fun k => match k with | 1 => z1 | 2 => z2 | 3 => z3 | _ => z4
  have RS : ErrS K mg C := ⟨Rz1, Rz2, Rz3, Rz4, n_len, n_set, L1, L2', L3⟩
  have ET : ErrT K mg C cT := ⟨RS, ⟨PySem.W.mg_of X G aEcT, bEcT, hEcT, tEcT⟩, n_isinstance, sTz1, ⟨i1z1, i2z1, bEz1, hEz1, i3z1, i4, i5, i6z1⟩, sTz2, ⟨i1z2, i2z2, bEz2, hEz2, i3z2, i4, i5, i6z2⟩, sTz3, ⟨i1z3, i2z3, bEz3, hEz3, i3z3, i4, i5, i6z3⟩, sTz4, ⟨i1z4, i2z4, bEz4, hEz4, i3z4, i4, i5, i6z4⟩, kit_rr sz1z1 sz1z1 hEz1 tEz1, kit_rr sz1z2 sz1z1 hEz2 tEz2, kit_rr sz1z3 sz1z1 hEz3 tEz3, kit_rr sz1z4 sz1z1 hEz4 tEz4, kit_rr sz2z1 sz2z2 hEz1 tEz1, kit_rr sz2z2 sz2z2 hEz2 tEz2, kit_rr sz2z3 sz2z2 hEz3 tEz3, kit_rr sz2z4 sz2z2 hEz4 tEz4, kit_rr sz3z1 sz3z3 hEz1 tEz1, kit_rr sz3z2 sz3z3 hEz2 tEz2, kit_rr sz3z3 sz3z3 hEz3 tEz3, kit_rr sz3z4 sz3z3 hEz4 tEz4, kit_rr sz4z1 sz4z4 hEz1 tEz1, kit_rr sz4z2 sz4z4 hEz2 tEz2, kit_rr sz4z3 sz4z4 hEz3 tEz3, kit_rr sz4z4 sz4z4 hEz4 tEz4⟩
  refine ⟨PySem.W.fnOf "law" "law" (defArgs sLaw) (defBody sLaw) (defScope sLaw) .none kV14 dc14 pm14 an14 cd14 ct14, fun s v => .of_eq rfl, fun base _ _ => ?_⟩
  have gCO : FnOk l.prog w K mg base CX0 1 _ _ ["shape"] (spCountOf K) := ok_countOf F2
  have gLO : FnOk l.prog w K mg base CX0 1 _ _ ["shape"] (spLettersOf K) := ok_lettersOf F3
  have gCK : FnOk l.prog w K mg base (L2.CX l.prog w) 2 _ _ ["shape"] (spCheck K C) := ok_check F1 RS gLO k3 b3 m3 gCO k2 b2 m2
  have gME : FnOk l.prog w K mg base (L2.CX l.prog w) 1 _ _ ["first", "second"] (spMerged K C) := ok_merged F4 Rz2 n_dict n_tuple
  have gBR : FnOk l.prog w K mg base (L2.CX l.prog w) 3 _ _ ["first", "second"] (spBroad K C) := ok_broad F5 gME k4 b4 m4 gCK k1 b1 m1
  have gB : FnOk l.prog w K mg base CX0 1 _ _ ["script"] (spBegin K) := ok_begin F6 TD
  have gT : FnOk l.prog w K mg base CX0 1 _ _ ["d", "many"] spTake := ok_take F7 TD
  have gCT : FnOk l.prog w K mg base CX0 1 _ _ ["shape"] (spCountT K) := ok_countT F8
  have gST : FnOk l.prog w K mg base CX0 1 _ _ ["shape", "letter"] (spSizeT K) := ok_sizeT F9
  have gCL : FnOk l.prog w K mg base CX0 1 _ _ ["shape"] (spCountL K) := ok_countL F8
  have gSL : FnOk l.prog w K mg base CX0 1 _ _ ["shape", "letter"] (spSizeL K) := ok_sizeL F9
  have gCA : FnOk l.prog w K mg base CX0 2 _ _ ["a", "b"] (spCast K) := ok_cast F10 n_list n_tuple gST k9 b9 m9
  have gTo : FnOk l.prog w K mg base CX0 4 _ _ ["first", "second"] (spTold K) := ok_told F11 ET gBR k5 b5 m5
  have gDu : FnOk l.prog w K mg base CX0 3 _ _ ["first", "second"] (spDue K) := ok_due F12 n_len gCA k10 b10 m10 gCT k8 b8 m8
  have gSH : FnOk l.prog w K mg base CX0 2 _ _ ["d", "sizes"] (spShape K) := ok_shape F13 T gT k7 b7 m7 gSL k9 b9 m9 gCL k8 b8 m8
  exact ok_law F14 T ⟨_, _, gB, k6, b6, m6⟩ ⟨_, _, gT, k7, b7, m7⟩ ⟨_, _, gSH, k13, b13, m13⟩ ⟨_, _, gTo, k11, b11, m11⟩ ⟨_, _, gDu, k12, b12, m12⟩
end My
open PySem PySem.W PyProof.Rows
set_option maxRecDepth 100000 in
set_option maxHeartbeats 0 in
theorem PySem.Challenge.cw_tensorcompiler_k04_broadcast_holds : PySem.Challenge.rw_tensorcompiler_k04_broadcast.Holds := by
  w_on; o_law; k_head; (case hw => w_witness2)
  k_fill
  refine L2.walk_of (l := PySem.Challenge.rw_tensorcompiler_k04_broadcast) (n := 63) (k := 5) (x := "script") (CX := fun _ => L2.CX0) (sp := fun w => My.spLaw _) rfl (by decide) rfl ⟨rfl, by decide, by decide⟩ (fun w h Y => PySem.W.kIn_of Y) ?F (fun _ _ a ns hl _ hS => ⟨a, ns, rfl, hS, hl, fun _ => rfl⟩) (fun _ _ _ _ _ h => h)
  case F =>
    intro w mg fa h KX G hmg
    refine' My.all_mk KX G hmg ?a1 ?l1 ?c1 ?k1 ?a2 ?l2 ?c2 ?k2 ?a3 ?l3 ?c3 ?k3 ?a4 ?l4 ?c4 ?k4 ?a5 ?l5 ?c5 ?k5 ?a6 ?l6 ?c6 ?k6 ?a7 ?l7 ?c7 ?k7 ?a8 ?l8 ?c8 ?k8 ?a9 ?l9 ?c9 ?k9 ?a10 ?l10 ?c10 ?k10 ?a11 ?l11 ?c11 ?k11 ?a12 ?l12 ?c12 ?k12 ?a13 ?l13 ?c13 ?k13 ?a14 ?l14 ?c14 ?k14 ?aEz1 ?kEz1 ?bEz1 ?tEz1 ?hEz1 ?aEz2 ?kEz2 ?bEz2 ?tEz2 ?hEz2 ?aEz3 ?kEz3 ?bEz3 ?tEz3 ?hEz3 ?aEz4 ?kEz4 ?bEz4 ?tEz4 ?hEz4 ?aEcT ?kEcT ?bEcT ?tEcT ?hEcT ?xz1 ?sTz1 ?i1z1 ?i2z1 ?i3z1 ?i6z1 ?sz1z1 ?sz1z2 ?sz1z3 ?sz1z4 ?xz2 ?sTz2 ?i1z2 ?i2z2 ?i3z2 ?i6z2 ?sz2z1 ?sz2z2 ?sz2z3 ?sz2z4 ?xz3 ?sTz3 ?i1z3 ?i2z3 ?i3z3 ?i6z3 ?sz3z1 ?sz3z2 ?sz3z3 ?sz3z4 ?xz4 ?sTz4 ?i1z4 ?i2z4 ?i3z4 ?i6z4 ?sz4z1 ?sz4z2 ?sz4z3 ?sz4z4 ?i4 ?i5 ?e1 ?e2 ?e3 ?z_int ?z_abs ?z_len ?z_list ?z_tuple ?z_range ?z_isinstance ?z_set ?z_dict
    (case a1 => k_is); (case l1 => k_is); (case c1 => k_is); (case k1 => k_is); (case a2 => k_is); (case l2 => k_is); (case c2 => k_is); (case k2 => k_is); (case a3 => k_is); (case l3 => k_is); (case c3 => k_is); (case k3 => k_is); (case a4 => k_is); (case l4 => k_is); (case c4 => k_is); (case k4 => k_is); (case a5 => k_is); (case l5 => k_is); (case c5 => k_is); (case k5 => k_is); (case a6 => k_is); (case l6 => k_is); (case c6 => k_is); (case k6 => k_is); (case a7 => k_is); (case l7 => k_is); (case c7 => k_is); (case k7 => k_is); (case a8 => k_is); (case l8 => k_is); (case c8 => k_is); (case k8 => k_is); (case a9 => k_is); (case l9 => k_is); (case c9 => k_is); (case k9 => k_is); (case a10 => k_is); (case l10 => k_is); (case c10 => k_is); (case k10 => k_is); (case a11 => k_is); (case l11 => k_is); (case c11 => k_is); (case k11 => k_is); (case a12 => k_is); (case l12 => k_is); (case c12 => k_is); (case k12 => k_is); (case a13 => k_is); (case l13 => k_is); (case c13 => k_is); (case k13 => k_is); (case a14 => k_is); (case l14 => k_is); (case c14 => k_is); (case k14 => k_is); (case aEz1 => k_is); (case kEz1 => k_is); (case bEz1 => k_is); (case tEz1 => k_is); (case hEz1 => k_is); (case aEz2 => k_is); (case kEz2 => k_is); (case bEz2 => k_is); (case tEz2 => k_is); (case hEz2 => k_is); (case aEz3 => k_is); (case kEz3 => k_is); (case bEz3 => k_is); (case tEz3 => k_is); (case hEz3 => k_is); (case aEz4 => k_is); (case kEz4 => k_is); (case bEz4 => k_is); (case tEz4 => k_is); (case hEz4 => k_is); (case aEcT => k_is); (case kEcT => k_is); (case bEcT => k_is); (case tEcT => k_is); (case hEcT => k_is); (case xz1 => k_exc); (case sTz1 => k_is); (case i1z1 => k_is); (case i2z1 => k_is); (case i3z1 => k_is); (case i6z1 => k_is); (case sz1z1 => first | rfl | k_is); (case sz1z2 => first | rfl | k_is); (case sz1z3 => first | rfl | k_is); (case sz1z4 => first | rfl | k_is); (case xz2 => k_exc); (case sTz2 => k_is); (case i1z2 => k_is); (case i2z2 => k_is); (case i3z2 => k_is); (case i6z2 => k_is); (case sz2z1 => first | rfl | k_is); (case sz2z2 => first | rfl | k_is); (case sz2z3 => first | rfl | k_is); (case sz2z4 => first | rfl | k_is); (case xz3 => k_exc); (case sTz3 => k_is); (case i1z3 => k_is); (case i2z3 => k_is); (case i3z3 => k_is); (case i6z3 => k_is); (case sz3z1 => first | rfl | k_is); (case sz3z2 => first | rfl | k_is); (case sz3z3 => first | rfl | k_is); (case sz3z4 => first | rfl | k_is); (case xz4 => k_exc); (case sTz4 => k_is); (case i1z4 => k_is); (case i2z4 => k_is); (case i3z4 => k_is); (case i6z4 => k_is); (case sz4z1 => first | rfl | k_is); (case sz4z2 => first | rfl | k_is); (case sz4z3 => first | rfl | k_is); (case sz4z4 => first | rfl | k_is); (case i4 => k_is); (case i5 => k_is); (case e1 => k_is); (case e2 => k_is); (case e3 => k_is); (case z_int => k_is); (case z_abs => k_is); (case z_len => k_is); (case z_list => k_is); (case z_tuple => k_is); (case z_range => k_is); (case z_isinstance => k_is); (case z_set => k_is); (case z_dict => k_is)
