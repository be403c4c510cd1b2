import PyProof.Rows.All
import Wide.All
import OpenK.AllK
import Wide.FinOn
import HandS.ForMost
import HandS.Wide
import HandS.Evl
import HandS.Exc
import HandS.ExcOwn
import HandS.TryOnly
import HandS.WordsExc
import HandS.ExcIs
import HandS.IsInst
import HandS.RaiseMore
import HandS.FStr
import HandS.Zip
import HandS.Gcd
import HandS.Wide
import HandS.WideBits
import HandS.Walk
import HandS.Small
import HandS.TupAny
import HandS.Dict
import HandS.NoneIn
import HandS.More
import HandS.CallLocal
import HandS.Strs
import HandS.SetFor
import HandS.DictComp
import HandS.SortInts
import HandS.SortRule
import HandS.Conv
import HandS.Sort
import HandS.Flow
import HandS.RevTup
import PyProof.WalkInts
import PyProof.WalksMore
import KE.KDictPairs
import KE.GoesMore
import PyProof.Rows.ExtendIn
import PyProof.AutoSeq1
import PyProof.P3Eq
import PyProof.StrWalks
import KE.KDictKeyed
import KE.KeyNested
import HandS.DictTup
import HandS.TupSets
import KE.KRevSl
import PySem.Challenge.RW_tensorcompiler_k30_picked_terms
set_option Elab.async false
set_option linter.all false
set_option maxRecDepth 100000
set_option maxHeartbeats 4000000
namespace My
open PySem L2
/-! ### the text -/
def topS (i : Nat) : Stmt := PySem.Challenge.pw_tensorcompiler_k30_picked_terms.main.body.getD i (.Pass ⟨0, 0, 0, 0⟩)
abbrev sLimit : Stmt := topS 7
abbrev sAdd : Stmt := topS 8
abbrev sSub : Stmt := topS 9
abbrev sMul : Stmt := topS 10
abbrev sMax : Stmt := topS 11
abbrev sMin : Stmt := topS 12
abbrev sLess : Stmt := topS 13
abbrev sEqual : Stmt := topS 14
abbrev sNeg : Stmt := topS 15
abbrev sClamp : Stmt := topS 16
abbrev sShift : Stmt := topS 17
abbrev sWhere : Stmt := topS 18
abbrev sPw : Stmt := topS 20
abbrev scorners : Stmt := topS 22
abbrev sparts_of : Stmt := topS 24
abbrev svalue_of : Stmt := topS 25
abbrev ssum_of : Stmt := topS 26
abbrev sform_of_sum : Stmt := topS 27
abbrev srow_of : Stmt := topS 28
abbrev smade_form : Stmt := topS 29
abbrev s_known : Stmt := topS 30
abbrev s_settled : Stmt := topS 31
abbrev s_plus : Stmt := topS 32
abbrev s_cancelled : Stmt := topS 33
abbrev s_times : Stmt := topS 34
abbrev s_add_form : Stmt := topS 35
abbrev s_sub_form : Stmt := topS 36
abbrev s_neg_form : Stmt := topS 37
abbrev s_mul_form : Stmt := topS 38
abbrev s_extreme_form : Stmt := topS 39
abbrev s_less_form : Stmt := topS 40
abbrev s_equal_form : Stmt := topS 41
abbrev s_clamp_form : Stmt := topS 42
abbrev s_shift_form : Stmt := topS 43
abbrev s_where_form : Stmt := topS 44
abbrev sis_too_wide : Stmt := topS 48
abbrev sBegin : Stmt := topS 51
abbrev sTake : Stmt := topS 52
abbrev sSigned : Stmt := topS 53
abbrev sInt : Stmt := topS 54
abbrev s_law_told : Stmt := topS 55
abbrev s_law_index : Stmt := topS 56
abbrev slaw : Stmt := topS 57
structure Calls (P : Program) (w : World) (K : PySem.W.Frag) (mg : Str → Option Value) (base : Heap) (CX : CXT) (k : Nat) (name : Str) (ps : List Str) (sp : Sp) : Prop where
  ex : ∃ (f : Addr) (fd : FuncData), FnOk P w K mg base CX k f fd ps sp ∧ PySem.W.keepIn K (.ref f) = true ∧ Binds K fd ps [] ∧ mg name = some (.ref f)
/-! ### tuples that have no dict of their own; dict(tuple of pairs) -/
/-- an object with nothing of its own -/
def Pln (o : Obj) : Prop := o.dict = none ∧ o.slots = #[]
def NoD (K : PySem.W.Frag) (H : Hp) (a : Addr) : Prop := ∃ o : Obj, Pln o ∧ ((∃ u, H a = some (.frz o u)) ∨ K.lookup a = some o)
theorem NoD.same {K : PySem.W.Frag} {H H' : Hp} {a : Addr} (h : NoD K H a) (s : Same H H') : NoD K H' a := by
  obtain ⟨o, hd, h⟩ := h
  exact ⟨o, hd, h.imp (fun ⟨u, e⟩ => ⟨u, s _ _ e⟩) id⟩
theorem sqT_same {K : PySem.W.Frag} {H H' : Hp} {a : Addr} {xs : List V} (h : SqT K H a xs) (s : Same H H') : SqT K H' a xs := by
  rcases h with (h | ⟨o, h⟩) | h
  · exact .inl (.inl (s _ _ h))
  · exact .inl (.inr ⟨o, s _ _ h⟩)
  · exact .inr h
theorem sqL_same {K : PySem.W.Frag} {H H' : Hp} {a : Addr} {xs : List V} (h : SqL K H a xs) (s : Same H H') : SqL K H' a xs := by
  rcases h with (h | ⟨o, h⟩) | h
  · exact .inl (.inl (s _ _ h))
  · exact .inl (.inr ⟨o, s _ _ h⟩)
  · exact .inr h
section
variable {X : Cx}
theorem NoD.obj {pins : List (Addr × Obj)} {σ : St} {H : Hp} {s : Shared} {a : Addr} (I : Inv X pins σ H s) (h : NoD X.K H a) : ∃ o, s.heap.get? a = some o ∧ Pln o := by
  obtain ⟨o, hd, h⟩ := h
  rcases h with ⟨u, h⟩ | h
  · exact ⟨o, (I.hok a _ h).1, hd⟩
  · exact ⟨o, I.kIn a o h, hd⟩
/-- (a, b, ..), with no dict -/
def tTupF (t : TA) : TE := fun σ H Q => t σ H fun xs H1 => xs.length ≤ sizeLine ∧ ∀ p (o : Obj), H1 p = none → Pln o → Q (.ref p) (upd H1 p (.frz o (.tup xs)))
theorem pe_tupF {es : List Expr} {t : TA} {pos : Pos} {x1} (h : PA X es t) : PE X (.Tuple es x1 pos) (tTupF t) := by
  refine ⟨fun pins s σ H Q I hq => ?_⟩
  refine wpAny_Tuple_spliced (thn (h.run pos pins s σ H _ I hq) fun us s1 ⟨xs, H1, I1, r, z, q⟩ => ⟨by rw [← r.length]; exact z, ?_⟩)
  have hf : H1 s1.heap.objs.size = none := I1.hok.fresh (Nat.le_refl _)
  refine ⟨.ref s1.heap.objs.size, upd H1 s1.heap.objs.size (.frz { cls := .type "tuple", data := .seq us.toArray } (.tup xs)), I1.laid (t' := s1.toks) (fun b u e => Heap.get?_push_of_some _ e) (Nat.le_refl _) ?_, rfl, q _ { cls := .type "tuple", data := .seq us.toArray } hf ⟨rfl, rfl⟩⟩
  exact ⟨Heap.get?_push_size _ rfl, z, us, r, ⟨_, Heap.get?_push_size _ rfl, rfl, _, rfl⟩⟩
/-- tuple(list) -/
theorem call_tuple_ofF : CallR X (.type "tuple") (fun xs H Q => ∃ p ys, xs = [.ref p] ∧ SqL X.K H p ys ∧ ∀ l (o : Obj), H l = none → Pln o → Q (.ref l) (upd H l (.frz o (.tup ys)))) := by
  intro pins s σ H xs us Q I r h
  obtain ⟨p, ys, rfl, hq, q⟩ := h
  obtain ⟨u, rfl, rx⟩ := vals1 r
  cases rx
  obtain ⟨its, r', pl, hz⟩ := I.list hq
  have hlen := r'.length
  have hn := line63
  refine call_tuple_list pl.isList (fun h' kp => ?_) (by simp only [List.size_toArray] <;> omega)
  have I1 : Inv X pins σ H { s with heap := h' } := I.kept (t' := s.toks) kp
  have I2 : Inv X pins σ (upd H h'.objs.size (.frz { cls := .type "tuple", data := .seq its.toArray } (.tup ys))) { s with heap := h'.push { cls := .type "tuple", data := .seq its.toArray } } :=
    I1.laid (t' := s.toks) (fun b o e => Heap.get?_push_of_some _ e) (Nat.le_refl _) (show ObjOk X.prog X.w _ _ _ (.frz _ (.tup ys)) from ⟨Heap.get?_push_size _ rfl, hz, its, r', PyProof.Rows.IsTup.new _ _⟩)
  exact ⟨.ref h'.objs.size, _, I2, rfl, q _ _ (I1.hok.fresh (Nat.le_refl _)) ⟨rfl, rfl⟩⟩
/-- t + u -/
def rCatF (K : PySem.W.Frag) : R2 := fun x y H Q => ∃ a b xs ys, x = .ref a ∧ y = .ref b ∧ SqT K H a xs ∧ SqT K H b ys ∧ xs.length + ys.length ≤ sizeLine ∧
  (xs = [] → Q (.ref b) H) ∧ (xs ≠ [] → ys = [] → Q (.ref a) H) ∧ (xs ≠ [] → ys ≠ [] → ∀ p (o : Obj), H p = none → Pln o → Q (.ref p) (upd H p (.frz o (.tup (xs ++ ys)))))
theorem op_catF : OpR X (binaryOp .Add) (rCatF X.K) := by
  intro pins s σ H x y v u Q I rx ry h
  obtain ⟨a, b, xs, ys, rfl, rfl, ha, hb, hz, q0, q1, q2⟩ := h
  by_cases hx : xs = []
  · subst hx
    cases rx
    cases ry
    obtain ⟨its, r1, p1, _⟩ := I.tuple ha
    obtain ⟨its2, r2, p2, _⟩ := I.tuple hb
    cases r1
    exact cat_tup0 p1 p2 ⟨.ref b, H, I, rfl, q0 rfl⟩
  · cases rx
    cases ry
    obtain ⟨its, r1, p1, _⟩ := I.tuple ha
    obtain ⟨its2, r2, p2, _⟩ := I.tuple hb
    refine HT.cat_tup p1 p2 (fun z => hx (r1.nil_iff.mp z)) (fun z => ⟨.ref a, H, I, rfl, q1 hx (r2.nil_iff.mp z)⟩) (fun z => ?_) (by rw [← r1.length, ← r2.length]; exact hz)
    refine ⟨.ref s.heap.objs.size, _, I.laid (t' := s.toks) (o := .frz { cls := .type "tuple", data := .seq (its ++ its2).toArray } (.tup (xs ++ ys))) (fun b ob q => Heap.get?_push_of_some _ q) (Nat.le_refl _) ?_, rfl, q2 hx (fun w => z (r2.nil_iff.mpr w)) _ { cls := .type "tuple", data := .seq (its ++ its2).toArray } (I.hok.fresh (Nat.le_refl _)) ⟨rfl, rfl⟩⟩
    exact ⟨Heap.get?_push_size _ rfl, by rw [List.length_append]; exact hz, _, r1.append r2, PyProof.Rows.IsTup.new _ _⟩
theorem pairs_two {pins : List (Addr × Obj)} {σ : St} {H : Hp} {s : Shared} (I : Inv X pins σ H s) : ∀ {ps : List Addr} {kvs : List (Key × V)}, Paired (fun p kv => SqT X.K H p [kV kv.1, kv.2]) ps kvs →
    ∃ (prs : List (Key × Value)) (vps : List (Value × Value)), KV kvs prs ∧ prs.length = ps.length ∧ vps.length = ps.length ∧ ∀ (j : Nat) (k v : Value), vps[j]? = some (k, v) → ∃ (b : Addr) (q : Key), ps[j]? = some b ∧ PyProof.Rows.IsTup s.heap b #[k, v] ∧ prs[j]? = some (q, v) ∧ keyIs q k = true
  | _, _, .nil => ⟨[], [], .nil, rfl, rfl, fun j k v e => by simp at e⟩
  | _, _, .cons (a := p) (b := kv) h t => by
    obtain ⟨prs, vps, r, hl, hl2, hp⟩ := pairs_two I t
    obtain ⟨its, rv, ht, _⟩ := I.tuple h
    obtain ⟨u, y, ei, ru, ry⟩ := vals2 rv
    subst ei
    refine ⟨(kv.1, y) :: prs, (u, y) :: vps, .cons ⟨rfl, ry⟩ r, by rw [List.length_cons, List.length_cons, hl], by rw [List.length_cons, List.length_cons, hl2], fun j k v e => ?_⟩
    cases j with
    | zero =>
      have e' : (u, y) = (k, v) := Option.some.inj e
      cases e'
      exact ⟨p, kv.1, rfl, ht, rfl, kV_is (P := X.prog) (w := X.w) ru⟩
    | succ j =>
      obtain ⟨b, q, e1, e2, e3, e4⟩ := hp j k v (by simpa using e)
      exact ⟨b, q, by simpa using e1, e2, by simpa using e3, e4⟩
/-- dict(t) of a tuple of pairs (key, value) -/
theorem call_dictT (hcalm : X.calm = true) : CallR X (.type "dict") (fun xs H Q => ∃ (a : Addr) (ps : List Addr) (kvs : List (Key × V)), xs = [.ref a] ∧ SqT X.K H a (ps.map V.ref) ∧ NoD X.K H a ∧ Paired (fun p kv => SqT X.K H p [kV kv.1, kv.2]) ps kvs ∧
    ∀ p, H p = none → Q (.ref p) (upd H p (.dK (mergeK [] kvs)))) := by
  intro pins s σ H xs us Q I r q
  obtain ⟨a, ps, kvs, ex, hq, hN, hp, q⟩ := q
  subst ex
  obtain ⟨u, eu, rx⟩ := vals1 r
  subst eu
  cases rx
  obtain ⟨its, rv, pl, hz⟩ := I.tuple hq
  have ei := refs_at rv
  subst ei
  rw [List.length_map] at hz
  obtain ⟨prs, vps, rel, hl, hl2, hpr⟩ := pairs_two I hp
  obtain ⟨o, ho, hc, n, hdat⟩ := pl
  obtain ⟨o', ho', hd⟩ := hN.obj I
  rw [ho] at ho'
  cases ho'
  have hit : PairItems s.heap (ps.map Value.ref).toArray (fun j => ps.getD j 0) vps := by
    refine ⟨by simp [hl2], fun j k v e => ?_⟩
    obtain ⟨b, q', e1, e2, _, _⟩ := hpr j k v e
    have e5 : ps.getD j 0 = b := by rw [List.getD_eq_getElem?_getD, e1]; rfl
    dsimp only
    rw [e5]
    exact ⟨by simp [e1], .inl e2⟩
  refine PySem.call_dict_pairs (knd := mixKind X.prog X.w) (kvs := prs) (PairArg.tuple a (ps.map Value.ref).toArray (fun j => ps.getD j 0) vps) (I.ok.hd hcalm) ⟨⟨o, n, ho, hc, hd.1, hdat⟩, hit⟩ ⟨hl.trans hl2.symm, fun i key v e => ?_⟩ (by rw [hl2]; exact hz) fun h' tk hd' k => ?_
  · obtain ⟨b, q', e1, e2, e3, e4⟩ := hpr i key v e
    exact ⟨q', e3, e4⟩
  · have hm : (s.heap.objs.size == sysModules) = false := beq_eq_false_iff_ne.mpr (Nat.ne_of_gt I.big)
    have hlen : (mergeK [] kvs).length ≤ sizeLine := by
      refine Nat.le_trans (length_mergeK kvs []) ?_
      rw [List.length_nil, Nat.zero_add, rel.length, hl]
      exact hz
    exact ⟨.ref s.heap.objs.size, upd H s.heap.objs.size (.dK (mergeK [] kvs)), I.laid (t' := tk) (fun b o e => k b o (List.not_mem_nil) e) (Nat.le_refl _) (show ObjOk X.prog X.w _ _ _ (.dK (mergeK [] kvs)) from ⟨hlen, hm, merged [] prs, KV.merge rel .nil, hd'⟩), rfl, q _ (I.hok.fresh (Nat.le_refl _))⟩
/-- xs.extend(t) of a tuple -/
def rExtT (K : PySem.W.Frag) : V → List V → Hp → VK → Prop := fun x vs H Q => ∃ l b xs zs, x = .ref l ∧ vs = [.ref b] ∧ H l = some (.lst xs) ∧ SqT K H b zs ∧ NoD K H b ∧ xs.length + zs.length ≤ sizeLine ∧ Q .non (upd H l (.lst (xs ++ zs)))
theorem mt_extendT : MtM X "list.extend" (rExtT X.K) := by
  intro pins s σ H x vs v us Q I rx rv h
  obtain ⟨l, b, xs, zs, rfl, rfl, hH, hB, hN, hz, q⟩ := h
  cases rx
  obtain ⟨u, rfl, ru⟩ := rv.one
  cases ru
  obtain ⟨z, its, n, r, hl, e⟩ := I.lstM hH
  obtain ⟨its2, r2, ⟨o2, h1, h2, n2, h3⟩, hl2⟩ := I.tuple hB
  obtain ⟨o', h4, hp1, hp2⟩ := hN.obj I
  rw [h1] at h4
  cases h4
  obtain ⟨c2, d2, dat2, sl2⟩ := o2
  simp only at h2 h3 hp1 hp2
  subst h2 h3 hp1 hp2
  have hl3 := r2.length
  have hsz : its.toArray.size + its2.toArray.size ≤ sizeLine := by rw [List.size_toArray, List.size_toArray]; omega
  refine call_meets PySem.F.slot_list_extend ⟨_, e, rfl⟩ PySem.F.entry_list_extend (PySem.F.args_list_extend_2 _ _)
    (PySem.AutoSeq1.list_extend_list_tuple_0 l its.toArray n b its2.toArray n2 (PyProof.Rows.extend_door hsz) (by rw [List.size_toArray]; omega) (by omega)) ⟨e, h1, ?_⟩
  refine ⟨.non, _, I.lset (its' := its ++ its2) hH e (by simp) (r.append r2) ?_, rfl, q⟩
  rw [List.length_append]
  omega
end
/-! ### drawing -/
/-- all but one place stands as it was -/
def But (d : Addr) (H H' : Hp) : Prop := ∀ b, b ≠ d → H' b = H b
theorem But.refl (d : Addr) (H : Hp) : But d H H := fun _ _ => rfl
theorem But.trans {d : Addr} {H H1 H2 : Hp} (a : But d H H1) (b : But d H1 H2) : But d H H2 := fun c h => (b c h).trans (a c h)
theorem But.upd {d : Addr} {H : Hp} {o : HO} : But d H (upd H d o) := fun _ h => upd_ne h
/-- the drawing state -/
def DrAt (H : Hp) (d c : Addr) : Prop := ∃ (ns : List Int) (i : Nat) (r s : Int), c ≠ d ∧ H d = some (.lst [.ref c, .int i, .int r, .int s]) ∧ H c = some (.lst (ns.map V.int)) ∧ i ≤ ns.length ∧ 0 ≤ r ∧ 0 ≤ s ∧ s < 2147483647
theorem DrAt.same {H H' : Hp} {d c : Addr} (h : DrAt H d c) (s : Same H H') : DrAt H' d c := by
  obtain ⟨ns, i, r, sd, n, h1, h2, h3⟩ := h
  exact ⟨ns, i, r, sd, n, s _ _ h1, s _ _ h2, h3⟩
theorem DrAt.lst {H : Hp} {d c : Addr} (h : DrAt H d c) : ∃ xs, H d = some (.lst xs) := by
  obtain ⟨ns, i, r, sd, n, h1, _⟩ := h
  exact ⟨_, h1⟩
theorem DrAt.lstc {H : Hp} {d c : Addr} (h : DrAt H d c) : ∃ xs, H c = some (.lst xs) := by
  obtain ⟨ns, i, r, sd, n, _, h1, _⟩ := h
  exact ⟨_, h1⟩
/-- another list may be changed -/
theorem DrAt.upd {H : Hp} {d c p : Addr} (h : DrAt H d c) (o : HO) (nd : p ≠ d) (nc : p ≠ c) : DrAt (upd H p o) d c := by
  obtain ⟨ns, i, r, sd, n, h1, h2, h3⟩ := h
  exact ⟨ns, i, r, sd, n, by rw [upd_ne nd.symm]; exact h1, by rw [upd_ne nc.symm]; exact h2, h3⟩
/-- what is no list is kept by a draw -/
theorem But.tup {d c b : Addr} {H H' : Hp} {xs : List V} (k : But d H H') (h : DrAt H d c) (hb : H b = some (.tup xs)) : H' b = some (.tup xs) := by
  obtain ⟨ys, hd⟩ := h.lst
  rw [k b (ne_of hb hd (fun z => nomatch z))]
  exact hb
def Bnd (m : Int) : Prop := m < 2 ^ 400
structure TxtD (mg : Str → Option Value) : Prop where
  int : mg "int" = none
  abs : mg "abs" = none
  len : mg "len" = none
  list : mg "list" = none
section
variable {P : Program} {w : World} {K : PySem.W.Frag} {mg : Str → Option Value} {base : Heap}
def spBegin (K : PySem.W.Frag) : Sp := fun vs H Q _ => ∃ (a : Addr) (ns : List Int), vs = [.ref a] ∧ SqL K H a (ns.map V.int) ∧ ns.length ≤ 63 ∧
  ∀ H' d c, Same H H' → H d = none → H c = none → DrAt H' d c → Q (.ref d) H'
theorem scB : FnScope ["script", "seed", "cell"] ["script"] (defScope sBegin) := ⟨rfl, rfl, rfl, by decide +kernel, rfl, by decide +kernel, by decide +kernel⟩
theorem ok_begin {f : Addr} {fd : FuncData} (F : Fun K "_law_begin" "_law_begin" sBegin f fd) (T : TxtD mg) : FnOk P w K mg base CX0 1 f fd ["script"] (spBegin K) := by
  refine F.ok scB (fun vs H Q E h => ?_) (fun cdv A outer s H vs Q E hr h => ?_)
  · obtain ⟨a, ns, rfl, _⟩ := h
    rfl
  · obtain ⟨a, ns, rfl, hS, hlen, q⟩ := h
    refine ⟨_, pss_cons (ps_set (i := 1) scB.nd rfl (.inl rfl) pe_int)
      (pss_cons (ps_for PassesOwn.never rfl (pi_list (pv 0)) (pg_name (i := 2) scB.nd rfl (.inl rfl))
        (pss_one (ps_set (i := 1) scB.nd rfl (.inl rfl)
          (pe_op op_mod (pe_op op_add (pe_op op_add (pe_op op_mul (pv 1) pe_int) (pe_op op_mod (pe_callTy call_int1 (by rfl) T.int (by decide +kernel) (pa_cons (pv 2) pa_nil)) pe_int)) pe_int) pe_int))))
      (pss_one (ps_ret (pe_lst (pa_cons (pe_callTy call_list_of (by rfl) T.list (by decide +kernel) (pa_cons (pv 0) pa_nil)) (pa_cons pe_int (pa_cons pe_int (pa_cons (pv 1) pa_nil)))))))), ?_⟩
    refine ⟨_, rfl, a, rfl, ⟨_, hS⟩, for_list (K := K) (a := a) (xs := ns.map V.int) (fun i σ H' => ∃ (z : Int) (v : Option V), σ = [some (.ref a), some (.int z), v] ∧ H' = H ∧ 0 ≤ z ∧ z < 2147483647)
      ⟨1, none, rfl, rfl, by decide, by decide⟩ (fun i σ H' _ ⟨_, _, _, e, _⟩ => by rw [e]; exact hS) ?_ ?_⟩
    · rintro i x σ H' hi ⟨z, v, rfl, rfl, h0, h1⟩
      obtain ⟨u, rfl⟩ : ∃ u, x = V.int u := by
        rw [List.getElem?_map] at hi
        cases e : ns[i]? with
        | none => rw [e] at hi; cases hi
        | some u => rw [e] at hi; exact ⟨u, (Option.some.inj hi).symm⟩
      refine ⟨_, rfl, _, _, rfl, rfl, .inl ⟨by omega, by omega⟩, _, rfl, .inl ⟨_, rfl, _, _, rfl, rfl, (by show (0 : Int) < 2147483629; decide), _, _, rfl, rfl, _, _, rfl, rfl, _, _, rfl, rfl, (by show (0 : Int) < 2147483647; decide), ?_⟩⟩
      exact ⟨_, _, rfl, rfl, Int.emod_nonneg _ (by decide), Int.emod_lt_of_pos _ (by decide)⟩
    · rintro σ H' ⟨z, v, rfl, rfl, h0, h1⟩
      refine ⟨_, rfl, a, _, rfl, .inl hS, fun c nc => ⟨_, rfl, by show 4 ≤ sizeLine; decide, fun d nd => ?_⟩⟩
      have ndc : d ≠ c := fun e => by
        rw [e, upd_same] at nd
        cases nd
      have nd0 : H' d = none := by
        rw [upd_ne ndc] at nd
        exact nd
      refine q _ d c (fun b o e => ?_) nd0 nc ⟨ns, 0, 0, z, ndc.symm, upd_same, ?_, Nat.zero_le _, by decide, h0, h1⟩
      · rw [upd_ne (ne_of_none e nd0), upd_ne (ne_of_none e nc)]
        exact e
      · rw [upd_ne ndc.symm, upd_same]
def spTake : Sp := fun vs H Q _ => ∃ (d c : Addr) (m : Int), vs = [.ref d, .int m] ∧ DrAt H d c ∧ 0 < m ∧ Bnd m ∧
  ∀ H' v, But d H H' → DrAt H' d c → 0 ≤ v → v < m → Q (.int v) H'
theorem scT : FnScope ["d", "many", "small", "digit"] ["d", "many"] (defScope sTake) := ⟨rfl, rfl, rfl, by decide +kernel, rfl, by decide +kernel, by decide +kernel⟩
theorem at0 {a b c e : V} : atI [a, b, c, e] (0 : Int) = some a := rfl
theorem at1 {a b c e : V} : atI [a, b, c, e] (1 : Int) = some b := rfl
theorem at2 {a b c e : V} : atI [a, b, c, e] (2 : Int) = some c := rfl
theorem at3 {a b c e : V} : atI [a, b, c, e] (3 : Int) = some e := rfl
theorem bnd_nat {m : Int} (h0 : 0 < m) (h : Bnd m) : m.natAbs < 2 ^ 400 := by
  have e : ((2 ^ 400 : Nat) : Int) = 2 ^ 400 := by decide +kernel
  unfold Bnd at h
  generalize (2 ^ 400 : Nat) = B at *
  omega
theorem bndW {r m : Int} (h0 : 0 < m) (h : Bnd m) : CDivW r m := wide_div (b := 400) h0 (bnd_nat h0 h) (by decide) (by decide)
theorem ok_take {f : Addr} {fd : FuncData} (F : Fun K "_law_take" "_law_take" sTake f fd) (T : TxtD mg) : FnOk P w K mg base CX0 1 f fd ["d", "many"] spTake := by
  refine F.ok scT (fun vs H Q E h => ?_) (fun cdv A outer s H vs Q E hr h => ?_)
  · obtain ⟨d, c, m, rfl, _⟩ := h
    rfl
  · obtain ⟨d, c, m, rfl, ⟨ns, i, r, sd, ncd, hd, hc, hi, hr0, hs0, hs1⟩, hm, hb, q⟩ := h
    refine ⟨_, Evl.pss_cut (ps_if (PW.pt (pw_and (pt_cmpR op_eq (pe_ix ix_list (pv 0) pe_int (fun _ _ => rfl)) pe_int (nomark _))
        (pw_and1 (pt_cmpR op_lt (pe_ix ix_list (pv 0) pe_int (fun _ _ => rfl)) (pe_callB call_len_seq (by rfl) T.len PySem.boot_len (pa_cons (pe_ix ix_list (pv 0) pe_int (fun _ _ => rfl)) pa_nil)) (nomark _)))))
        (pss_cons (ps_asg (pe_callB call_abs (by rfl) T.abs (by decide +kernel) (pa_cons (pe_callTy call_int1 (by rfl) T.int (by decide +kernel) (pa_cons (pe_ix ix_list (pe_ix ix_list (pv 0) pe_int (fun _ _ => rfl)) (pe_ix ix_list (pv 0) pe_int (fun _ _ => rfl)) (fun _ _ => rfl)) pa_nil)) pa_nil)) (pg_sub (pv 0) pe_int set_list))
        (pss_cons (ps_asg (pe_op op_add (pe_ix ix_list (pv 0) pe_int (fun _ _ => rfl)) pe_int) (pg_sub (pv 0) pe_int set_list))
        (pss_one (ps_if (pt_cmpR op_lt (pe_ix ix_list (pv 0) pe_int (fun _ _ => rfl)) (pe_op op_pow pe_int pe_int) (nomark _))
          (pss_cons (ps_set (i := 2) scT.nd rfl (.inl rfl) (pe_callTy call_int1 (by rfl) T.int (by decide +kernel) (pa_cons (pe_ix ix_list (pv 0) pe_int (fun _ _ => rfl)) pa_nil)))
          (pss_cons (ps_asg pe_int (pg_sub (pv 0) pe_int set_list))
          (pss_one (ps_ret (pe_op op_mod (pv 2) (pv 1))))))
          pss_nil))))
        pss_nil)
      (pss_cons (ps_if (pt_cmpR op_gt (pe_ix ix_list (pv 0) pe_int (fun _ _ => rfl)) pe_int (nomark _))
        (pss_cons (ps_set (i := 3) scT.nd rfl (.inl rfl) (pe_op op_mod (pe_callTy call_int1 (by rfl) T.int (by decide +kernel) (pa_cons (pe_ix ix_list (pv 0) pe_int (fun _ _ => rfl)) pa_nil)) (pv 1)))
        (pss_cons (ps_asg (pe_op op_fdivW (pe_callTy call_int1 (by rfl) T.int (by decide +kernel) (pa_cons (pe_ix ix_list (pv 0) pe_int (fun _ _ => rfl)) pa_nil)) (pv 1)) (pg_sub (pv 0) pe_int set_list))
        (pss_one (ps_ret (pv 3)))))
        pss_nil)
      (pss_cons (ps_asg (pe_op op_mod (pe_callTy call_int1 (by rfl) T.int (by decide +kernel) (pa_cons (pe_op op_add (pe_op op_mul (pe_ix ix_list (pv 0) pe_int (fun _ _ => rfl)) pe_int) pe_int) pa_nil)) pe_int) (pg_sub (pv 0) pe_int set_list))
      (pss_one (ps_ret (pe_op op_mod (pe_callTy call_int1 (by rfl) T.int (by decide +kernel) (pa_cons (pe_op op_fdiv (pe_ix ix_list (pv 0) pe_int (fun _ _ => rfl)) pe_int) pa_nil)) (pv 1)))))), ?_⟩
    refine ⟨fun σ' H' => ∃ (i r sd : Int) (x2 : Option V) (i' : Nat), σ' = [some (.ref d), some (.int m), x2, none] ∧ H' = upd H d (.lst [.ref c, .int i, .int r, .int sd]) ∧ i = i' ∧ i' ≤ ns.length ∧ 0 ≤ r ∧ 0 ≤ sd ∧ sd < 2147483647, ?_, ?_⟩
    · have same : H = upd H d (.lst [.ref c, .int i, .int r, .int sd]) := by
        funext b
        by_cases e : b = d
        · rw [e, upd_same, hd]
        · rw [upd_ne e]
      refine ⟨_, rfl, d, _, 2, _, rfl, rfl, SqL.of hd, at2, rfl, _, rfl, ite2 (fun e => ?_) (fun e => ?_)⟩
      · refine ⟨_, rfl, d, _, 1, _, rfl, rfl, SqL.of hd, at1, _, rfl, d, _, 0, _, rfl, rfl, SqL.of hd, at0, c, _, rfl, .inl (SqL.of hc), _, _, rfl, rfl, _, rfl, ite2 (fun e2 => ?_) (fun e2 => ?_)⟩
        · have hlt : i < ns.length := by
            have := of_decide_eq_true e2
            rw [List.length_map] at this
            omega
          have hx : (ns.map V.int)[i]? = some (.int ns[i]) := by
            rw [List.getElem?_map, List.getElem?_eq_getElem hlt]
            rfl
          generalize ns[i] = x at hx
          have hcd : ∀ o, (upd H d o) c = some (.lst (ns.map V.int)) := fun o => by rw [upd_ne ncd]; exact hc
          have habs : 0 ≤ (if x < 0 then -x else x) := by split <;> omega
          -- d[2] = abs(int(d[0][d[1]]))
          refine ⟨_, rfl, d, _, 0, _, rfl, rfl, SqL.of hd, at0, _, rfl, d, _, 1, _, rfl, rfl, SqL.of hd, at1, c, _, _, _, rfl, rfl, SqL.of hc, atI_nat hx, .inl ⟨x, rfl, x, rfl, _, rfl, d, _, 2, 2, rfl, rfl, hd, rfl, ?_⟩⟩
          generalize (if x < 0 then -x else x) = y at habs
          -- d[1] = d[1] + 1
          refine ⟨_, rfl, d, _, 1, _, rfl, rfl, SqL.of upd_same, at1, _, _, rfl, rfl, _, rfl, d, _, 1, 1, rfl, rfl, upd_same, rfl, ?_⟩
          rw [upd_upd]
          -- if d[2] < 10 ** 18
          refine ⟨_, rfl, d, _, 2, _, rfl, rfl, SqL.of upd_same, at2, 10, 18, rfl, rfl, ⟨by decide, by decide, by decide⟩, _, _, rfl, rfl, _, rfl, ite2 (fun e3 => ?_) (fun e3 => ?_)⟩
          · refine ⟨_, rfl, d, _, 2, _, rfl, rfl, SqL.of upd_same, at2, .inl ⟨_, rfl, _, rfl, d, _, 2, 2, rfl, rfl, upd_same, rfl, ?_⟩⟩
            rw [upd_upd]
            refine ⟨_, rfl, _, rfl, _, _, rfl, rfl, hm, ?_⟩
            exact q _ _ But.upd ⟨ns, i + 1, 0, sd, ncd, upd_same, hcd _, hlt, by decide, hs0, hs1⟩ (Int.emod_nonneg _ (by omega)) (Int.emod_lt_of_pos _ hm)
          · exact ⟨_, _, _, _, i + 1, rfl, rfl, rfl, hlt, habs, hs0, hs1⟩
        · exact ⟨_, _, _, _, i, rfl, same, rfl, hi, hr0, hs0, hs1⟩
      · exact iteF ⟨_, _, _, _, i, rfl, same, rfl, hi, hr0, hs0, hs1⟩
    · clear hd hi hr0 hs0 hs1
      rintro σ' H' ⟨i, r, sd, x2, i', rfl, rfl, rfl, hi, hr0, hs0, hs1⟩
      have hcd : ∀ o, (upd H d o) c = some (.lst (ns.map V.int)) := fun o => by rw [upd_ne ncd]; exact hc
      refine ⟨_, rfl, d, _, 2, _, rfl, rfl, SqL.of upd_same, at2, _, _, rfl, rfl, _, rfl, ite2 (fun e => ?_) (fun e => ?_)⟩
      · refine ⟨_, rfl, d, _, 2, _, rfl, rfl, SqL.of upd_same, at2, .inl ⟨_, rfl, _, rfl, _, _, rfl, rfl, hm, ?_⟩⟩
        refine ⟨_, rfl, d, _, 2, _, rfl, rfl, SqL.of upd_same, at2, .inl ⟨_, rfl, _, rfl, _, _, rfl, rfl, bndW hm hb, _, rfl, d, _, 2, 2, rfl, rfl, upd_same, rfl, ?_⟩⟩
        rw [upd_upd]
        refine ⟨_, rfl, ?_⟩
        exact q _ _ But.upd ⟨ns, i', _, sd, ncd, upd_same, hcd _, hi, Int.ediv_nonneg hr0 (by omega), hs0, hs1⟩ (Int.emod_nonneg _ (by omega)) (Int.emod_lt_of_pos _ hm)
      · refine ⟨_, rfl, d, _, 3, _, rfl, rfl, SqL.of upd_same, at3, _, _, rfl, rfl, .inl ⟨by omega, by omega⟩, _, _, rfl, rfl, .inl ⟨_, rfl, _, _, rfl, rfl, (by show (0 : Int) < 2147483647; decide), _, rfl, d, _, 3, 3, rfl, rfl, upd_same, rfl, ?_⟩⟩
        rw [upd_upd]
        refine ⟨_, rfl, d, _, 3, _, rfl, rfl, SqL.of upd_same, at3, _, _, rfl, rfl, ⟨by decide, by decide⟩, .inl ⟨_, rfl, _, rfl, _, _, rfl, rfl, hm, ?_⟩⟩
        exact q _ _ But.upd ⟨ns, i', r, _, ncd, upd_same, hcd _, hi, hr0, Int.emod_nonneg _ (by decide), Int.emod_lt_of_pos _ (by decide)⟩ (Int.emod_nonneg _ (by omega)) (Int.emod_lt_of_pos _ hm)
def spSigned : Sp := fun vs H Q _ => ∃ (d c : Addr) (m : Int), vs = [.ref d, .int m] ∧ DrAt H d c ∧ 0 ≤ m ∧ Bnd (2 * m + 1) ∧
  ∀ H' v, But d H H' → DrAt H' d c → -m ≤ v → v ≤ m → Q (.int v) H'
theorem scS : FnScope ["d", "most"] ["d", "most"] (defScope sSigned) := ⟨rfl, rfl, rfl, by decide +kernel, rfl, by decide +kernel, by decide +kernel⟩
theorem ok_signed {f fT : Addr} {fd fdT : FuncData} (F : Fun K "_law_signed" "_law_signed" sSigned f fd) (GT : FnOk P w K mg base CX0 1 fT fdT ["d", "many"] spTake) (kT : PySem.W.keepIn K (.ref fT) = true) (bT : Binds K fdT ["d", "many"] []) (gT : mg "_law_take" = some (.ref fT)) : FnOk P w K mg base CX0 2 f fd ["d", "most"] spSigned := by
  refine F.ok scS (fun vs H Q E h => ?_) (fun cdv A outer s H vs Q E hr h => ?_)
  · obtain ⟨d, c, m, rfl, _⟩ := h
    rfl
  · obtain ⟨d, c, m, rfl, dr, h0, hb, q⟩ := h
    refine ⟨_, pss_one (ps_ret (pe_op op_sub (pe_call GT hr (by rfl) gT kT bT .nil pass0 (pa_cons (pv 0) (pa_cons (pe_op op_add (pe_op op_mul pe_int (pv 1)) pe_int) pa_nil))) (pv 1))), ?_⟩
    refine ⟨_, rfl, _, rfl, _, _, rfl, rfl, .inl ⟨by omega, by omega⟩, _, _, rfl, rfl, d, c, _, rfl, dr, by omega, hb, fun H' v k dr' v0 v1 => ?_⟩
    exact ⟨_, rfl, _, _, rfl, rfl, q _ _ k dr' (by omega) (by omega)⟩
def spInt : Sp := fun vs H Q _ => ∃ (i : Int), vs = [.int i] ∧ Q (.bl true) H
theorem scN : FnScope ["actual"] ["actual"] (defScope sInt) := ⟨rfl, rfl, rfl, by decide +kernel, rfl, by decide +kernel, by decide +kernel⟩
theorem ok_int {f : Addr} {fd : FuncData} (F : Fun K "_law_int" "_law_int" sInt f fd) (mi : mg "isinstance" = none) (mn : mg "int" = none) (mb : mg "bool" = none) : FnOk P w K mg base CX0 1 f fd ["actual"] spInt := by
  refine F.ok scN (fun vs H Q E h => ?_) (fun cdv A outer s H vs Q E hr h => ?_)
  · obtain ⟨i, rfl, _⟩ := h
    rfl
  · obtain ⟨i, rfl, q⟩ := h
    refine ⟨_, pss_one (ps_ret (pe_and (pe_callB call_isi (by rfl) mi (by decide +kernel) (pa_cons (pv 0) (pa_cons (pe_bltn (v := .ty "int") (by rfl) mn (by decide +kernel) rfl) pa_nil)))
      (pe_one (pe_not (pe_callB call_isi (by rfl) mi (by decide +kernel) (pa_cons (pv 0) (pa_cons (pe_bltn (v := .ty "bool") (by rfl) mb (by decide +kernel) rfl) pa_nil))))))), ?_⟩
    refine ⟨_, rfl, _, _, _, _, true, rfl, ClsV.ty "int", TyX.base (TyOf.int i), kit_ty (by decide +kernel), _, rfl, iteT ?_⟩
    exact ⟨_, rfl, _, _, _, _, false, rfl, ClsV.ty "bool", TyX.base (TyOf.int i), kit_ty (by decide +kernel), _, rfl, q⟩
end
/-! ### bounds -/
/-- below 2 ^ n in size -/
def Bg (n : Nat) (x : Int) : Prop := x.natAbs < 2 ^ n
theorem Bg.mono {n m : Nat} {x : Int} (h : Bg n x) (l : n ≤ m) : Bg m x := Nat.lt_of_lt_of_le h (Nat.pow_le_pow_right (by decide) l)
theorem Bg.mul {n m : Nat} {x y : Int} (h : Bg n x) (k : Bg m y) : Bg (n + m) (x * y) := wide_lt h k
theorem Bg.add {n : Nat} {x y : Int} (h : Bg n x) (k : Bg n y) : Bg (n + 1) (x + y) := by
  unfold Bg at *
  rw [Nat.pow_succ]
  omega
theorem Bg.sub {n : Nat} {x y : Int} (h : Bg n x) (k : Bg n y) : Bg (n + 1) (x - y) := by
  unfold Bg at *
  rw [Nat.pow_succ]
  omega
theorem Bg.cmul {n m : Nat} {x y : Int} (h : Bg n x) (k : Bg m y) (n0 : 0 < n) (m0 : 0 < m) (l : n + m ≤ 1000000) : CMulW x y := wide_mul h k n0 m0 l
def CDivX (_ j : Int) : Prop := j ≠ 0 ∧ j.natAbs.log2 < 9000
theorem op_fdivX {X : Cx} : OpR X (binaryOp .FloorDiv) (rI CDivX fun i j => .int (i.fdiv j)) := opI fun i j _ _ _ _ _ hc q =>
  PyProof.Rows.floordiv_int hc.1 q (.inl (PyProof.noPylong_of_log2 hc.2))
theorem Bg.div {n : Nat} {x y : Int} (h : Bg n y) (h0 : y ≠ 0) (n0 : 0 < n) (l : n ≤ 9000) : CDivX x y := ⟨h0, Nat.lt_of_lt_of_le (PySem.Flt.log2_lt_of n0 h) l⟩
theorem Bg.divW {n : Nat} {x y : Int} (h : Bg n y) (h0 : 0 < y) (n0 : 0 < n) (l : n ≤ 9000) : CDivW x y := wide_div h0 h n0 l
/-! ### small facts -/
theorem same_upd {H : Hp} {p : Addr} {o : HO} (h : H p = none) : Same H (upd H p o) := fun b x e => by
  rw [upd_ne (ne_of_none e h)]
  exact e
theorem map_int_at {ns : List Int} {i : Nat} {x : V} (h : (ns.map V.int)[i]? = some x) : ∃ n, x = .int n ∧ ns[i]? = some n := by
  rw [List.getElem?_map] at h
  cases e : ns[i]? with
  | none => rw [e] at h; cases h
  | some n => rw [e] at h; exact ⟨n, (Option.some.inj h).symm, rfl⟩
theorem map_ref_at {ns : List Addr} {i : Nat} {x : V} (h : (ns.map V.ref)[i]? = some x) : ∃ n, x = .ref n ∧ ns[i]? = some n := by
  rw [List.getElem?_map] at h
  cases e : ns[i]? with
  | none => rw [e] at h; cases h
  | some n => rw [e] at h; exact ⟨n, (Option.some.inj h).symm, rfl⟩
theorem drop_at {α : Type} {l : List α} {i : Nat} {x : α} (h : l[i]? = some x) : l.drop i = x :: l.drop (i + 1) := by
  obtain ⟨hi, e⟩ := List.getElem?_eq_some_iff.mp h
  rw [List.drop_eq_getElem_cons hi, e]
theorem take_snoc {α : Type} {l : List α} {i : Nat} {x : α} (h : l[i]? = some x) : l.take (i + 1) = l.take i ++ [x] := by
  rw [List.take_add_one, h]
  rfl
theorem txt_len (a b : Str) : (a ++ b).length = a.length + b.length := PySem.Str.length_append a b
theorem bnd_le {m : Int} (h : m ≤ 1000000) : Bnd m := by
  unfold Bnd
  have : (1000000 : Int) < 2 ^ 400 := by decide +kernel
  omega
theorem keepD {d b : Addr} {H H' : Hp} {o : HO} (k : But d H H') (h : b ≠ d) (hb : H b = some o) : H' b = some o := by rw [k b h]; exact hb
theorem atI_zero {α : Type} {x : α} {xs : List α} : atI (x :: xs) (0 : Int) = some x := by
  show ((if (0 : Int) ≤ 0 then (if (0 : Int) < ((x :: xs).length : Int) then some (Int.toNat 0) else none) else _).bind _) = _
  rw [if_pos (Int.le_refl 0), if_pos (by rw [List.length_cons]; omega)]
  rfl
section
variable {P : Program} {w : World} {K : PySem.W.Frag} {mg : Str → Option Value} {base : Heap}

/-! ### the makers -/
abbrev VI : List Str := ["values", "info"]
theorem g0 {a : V} {r : List V} : atI (a :: r) (0 : Int) = some a := atI_nat (j := 0) rfl
theorem g1 {a b : V} {r : List V} : atI (a :: b :: r) (1 : Int) = some b := atI_nat (j := 1) rfl
theorem g2 {a b c : V} {r : List V} : atI (a :: b :: c :: r) (2 : Int) = some c := atI_nat (j := 2) rfl
/-- of two numbers -/
def sp2 (K : PySem.W.Frag) (C : Int → Int → Prop) (g : Int → Int → Int) : Sp := fun vs H Q _ => ∃ (p i : Addr) (a b : Int), vs = [.ref p, .ref i] ∧ SqT K H p [.int a, .int b] ∧ C a b ∧ Q (.int (g a b)) H
def mx (a b : Int) : Int := if b > a then b else a
def mn (a b : Int) : Int := if b < a then b else a
def sc (st : Stmt) : Prop := FnScope VI VI (defScope st)
theorem scsAdd : FnScope VI VI (defScope sAdd) := ⟨rfl, rfl, rfl, by decide +kernel, rfl, by decide +kernel, by decide +kernel⟩
theorem ok_add {f : Addr} {fd : FuncData} (F : Fun K "_add" "_add" sAdd f fd) : FnOk P w K mg base CX0 1 f fd VI (sp2 K (fun _ _ => True) (fun a b => a + b)) := by
  refine F.ok scsAdd (fun vs H Q E h => ?_) (fun cdv A outer s H vs Q E hr h => ?_)
  · obtain ⟨p, i, _, _, rfl, _⟩ := h
    rfl
  · obtain ⟨p, i, a, b, rfl, hp, hc, q⟩ := h
    refine ⟨_, pss_one (ps_ret (pe_op op_add (pe_ix ix_tup (pv 0) pe_int (fun _ _ => rfl)) (pe_ix ix_tup (pv 0) pe_int (fun _ _ => rfl)))), ?_⟩
    exact ⟨_, rfl, p, _, _, _, rfl, rfl, hp, g0, _, rfl, p, _, _, _, rfl, rfl, hp, g1, _, _, rfl, rfl, q⟩
theorem scsSub : FnScope VI VI (defScope sSub) := ⟨rfl, rfl, rfl, by decide +kernel, rfl, by decide +kernel, by decide +kernel⟩
theorem ok_sub {f : Addr} {fd : FuncData} (F : Fun K "_sub" "_sub" sSub f fd) : FnOk P w K mg base CX0 1 f fd VI (sp2 K (fun _ _ => True) (fun a b => a - b)) := by
  refine F.ok scsSub (fun vs H Q E h => ?_) (fun cdv A outer s H vs Q E hr h => ?_)
  · obtain ⟨p, i, _, _, rfl, _⟩ := h
    rfl
  · obtain ⟨p, i, a, b, rfl, hp, hc, q⟩ := h
    refine ⟨_, pss_one (ps_ret (pe_op op_sub (pe_ix ix_tup (pv 0) pe_int (fun _ _ => rfl)) (pe_ix ix_tup (pv 0) pe_int (fun _ _ => rfl)))), ?_⟩
    exact ⟨_, rfl, p, _, _, _, rfl, rfl, hp, g0, _, rfl, p, _, _, _, rfl, rfl, hp, g1, _, _, rfl, rfl, q⟩
theorem scsMul : FnScope VI VI (defScope sMul) := ⟨rfl, rfl, rfl, by decide +kernel, rfl, by decide +kernel, by decide +kernel⟩
theorem ok_mul {f : Addr} {fd : FuncData} (F : Fun K "_mul" "_mul" sMul f fd) : FnOk P w K mg base CX0 1 f fd VI (sp2 K (CMulW) (fun a b => a * b)) := by
  refine F.ok scsMul (fun vs H Q E h => ?_) (fun cdv A outer s H vs Q E hr h => ?_)
  · obtain ⟨p, i, _, _, rfl, _⟩ := h
    rfl
  · obtain ⟨p, i, a, b, rfl, hp, hc, q⟩ := h
    refine ⟨_, pss_one (ps_ret (pe_op op_mulW (pe_ix ix_tup (pv 0) pe_int (fun _ _ => rfl)) (pe_ix ix_tup (pv 0) pe_int (fun _ _ => rfl)))), ?_⟩
    exact ⟨_, rfl, p, _, _, _, rfl, rfl, hp, g0, _, rfl, p, _, _, _, rfl, rfl, hp, g1, _, _, rfl, rfl, hc, q⟩
theorem scsMax : FnScope VI VI (defScope sMax) := ⟨rfl, rfl, rfl, by decide +kernel, rfl, by decide +kernel, by decide +kernel⟩
theorem ok_max {f : Addr} {fd : FuncData} (F : Fun K "_max" "_max" sMax f fd) (m : mg "max" = none) : FnOk P w K mg base CX0 1 f fd VI (sp2 K (fun _ _ => True) mx) := by
  refine F.ok scsMax (fun vs H Q E h => ?_) (fun cdv A outer s H vs Q E hr h => ?_)
  · obtain ⟨p, i, _, _, rfl, _⟩ := h
    rfl
  · obtain ⟨p, i, a, b, rfl, hp, hc, q⟩ := h
    refine ⟨_, pss_one (ps_ret (pe_callB (call_max2 rfl) (by rfl) m (by decide +kernel) (pa_cons (pe_ix ix_tup (pv 0) pe_int (fun _ _ => rfl)) (pa_cons (pe_ix ix_tup (pv 0) pe_int (fun _ _ => rfl)) pa_nil)))), ?_⟩
    exact ⟨_, rfl, p, _, _, _, rfl, rfl, hp, g0, _, rfl, p, _, _, _, rfl, rfl, hp, g1, a, b, rfl, q⟩
theorem scsMin : FnScope VI VI (defScope sMin) := ⟨rfl, rfl, rfl, by decide +kernel, rfl, by decide +kernel, by decide +kernel⟩
theorem ok_min {f : Addr} {fd : FuncData} (F : Fun K "_min" "_min" sMin f fd) (m : mg "min" = none) : FnOk P w K mg base CX0 1 f fd VI (sp2 K (fun _ _ => True) mn) := by
  refine F.ok scsMin (fun vs H Q E h => ?_) (fun cdv A outer s H vs Q E hr h => ?_)
  · obtain ⟨p, i, _, _, rfl, _⟩ := h
    rfl
  · obtain ⟨p, i, a, b, rfl, hp, hc, q⟩ := h
    refine ⟨_, pss_one (ps_ret (pe_callB (call_min2 rfl) (by rfl) m (by decide +kernel) (pa_cons (pe_ix ix_tup (pv 0) pe_int (fun _ _ => rfl)) (pa_cons (pe_ix ix_tup (pv 0) pe_int (fun _ _ => rfl)) pa_nil)))), ?_⟩
    exact ⟨_, rfl, p, _, _, _, rfl, rfl, hp, g0, _, rfl, p, _, _, _, rfl, rfl, hp, g1, a, b, rfl, q⟩
theorem scsLess : FnScope VI VI (defScope sLess) := ⟨rfl, rfl, rfl, by decide +kernel, rfl, by decide +kernel, by decide +kernel⟩
theorem ok_less {f : Addr} {fd : FuncData} (F : Fun K "_less" "_less" sLess f fd) : FnOk P w K mg base CX0 1 f fd VI (sp2 K (fun _ _ => True) (fun a b => if a < b then 1 else 0)) := by
  refine F.ok scsLess (fun vs H Q E h => ?_) (fun cdv A outer s H vs Q E hr h => ?_)
  · obtain ⟨p, i, _, _, rfl, _⟩ := h
    rfl
  · obtain ⟨p, i, a, b, rfl, hp, hc, q⟩ := h
    refine ⟨_, pss_one (ps_ret (pe_ifExp (pt_cmpR op_lt (pe_ix ix_tup (pv 0) pe_int (fun _ _ => rfl)) (pe_ix ix_tup (pv 0) pe_int (fun _ _ => rfl)) (nomark _)) pe_int pe_int)), ?_⟩
    refine ⟨_, rfl, p, _, _, _, rfl, rfl, hp, g0, _, rfl, p, _, _, _, rfl, rfl, hp, g1, _, _, rfl, rfl, _, rfl, ite2 (fun e => ?_) (fun e => ?_)⟩
    · have q : Q (V.int (if a < b then 1 else 0)) H := q
      rw [if_pos (of_decide_eq_true e)] at q
      exact q
    · have q : Q (V.int (if a < b then 1 else 0)) H := q
      rw [if_neg (fun z => e (decide_eq_true z))] at q
      exact q
theorem scsEqual : FnScope VI VI (defScope sEqual) := ⟨rfl, rfl, rfl, by decide +kernel, rfl, by decide +kernel, by decide +kernel⟩
theorem ok_equal {f : Addr} {fd : FuncData} (F : Fun K "_equal" "_equal" sEqual f fd) : FnOk P w K mg base CX0 1 f fd VI (sp2 K (fun _ _ => True) (fun a b => if a = b then 1 else 0)) := by
  refine F.ok scsEqual (fun vs H Q E h => ?_) (fun cdv A outer s H vs Q E hr h => ?_)
  · obtain ⟨p, i, _, _, rfl, _⟩ := h
    rfl
  · obtain ⟨p, i, a, b, rfl, hp, hc, q⟩ := h
    refine ⟨_, pss_one (ps_ret (pe_ifExp (pt_cmpR op_eq (pe_ix ix_tup (pv 0) pe_int (fun _ _ => rfl)) (pe_ix ix_tup (pv 0) pe_int (fun _ _ => rfl)) (nomark _)) pe_int pe_int)), ?_⟩
    refine ⟨_, rfl, p, _, _, _, rfl, rfl, hp, g0, _, rfl, p, _, _, _, rfl, rfl, hp, g1, rfl, _, rfl, ite2 (fun e => ?_) (fun e => ?_)⟩
    · have q : Q (V.int (if a = b then 1 else 0)) H := q
      rw [if_pos (V.int.inj (of_decide_eq_true e))] at q
      exact q
    · have q : Q (V.int (if a = b then 1 else 0)) H := q
      rw [if_neg (fun z => e (decide_eq_true (congrArg V.int z)))] at q
      exact q

def sp1 (K : PySem.W.Frag) (g : Int → Int) : Sp := fun vs H Q _ => ∃ (p i : Addr) (a : Int), vs = [.ref p, .ref i] ∧ SqT K H p [.int a] ∧ Q (.int (g a)) H
theorem scsNeg : FnScope VI VI (defScope sNeg) := ⟨rfl, rfl, rfl, by decide +kernel, rfl, by decide +kernel, by decide +kernel⟩
theorem ok_neg {f : Addr} {fd : FuncData} (F : Fun K "_neg" "_neg" sNeg f fd) : FnOk P w K mg base CX0 1 f fd VI (sp1 K fun a => -a) := by
  refine F.ok scsNeg (fun vs H Q E h => ?_) (fun cdv A outer s H vs Q E hr h => ?_)
  · obtain ⟨p, i, _, rfl, _⟩ := h
    rfl
  · obtain ⟨p, i, a, rfl, hp, q⟩ := h
    exact ⟨_, pss_one (ps_ret (pe_un un_neg (pe_ix ix_tup (pv 0) pe_int (fun _ _ => rfl)))), _, rfl, p, _, _, _, rfl, rfl, hp, g0, _, rfl, q⟩
def lim (n low high : Int) : Int := if n < low then low else if high < n then high else n
def spLimit : Sp := fun vs H Q _ => ∃ n l h : Int, vs = [.int n, .int l, .int h] ∧ Q (.int (lim n l h)) H
theorem scsLimit : FnScope ["n", "low", "high"] ["n", "low", "high"] (defScope sLimit) := ⟨rfl, rfl, rfl, by decide +kernel, rfl, by decide +kernel, by decide +kernel⟩
theorem ok_limit {f : Addr} {fd : FuncData} (F : Fun K "limit" "limit" sLimit f fd) : FnOk P w K mg base CX0 1 f fd ["n", "low", "high"] spLimit := by
  refine F.ok scsLimit (fun vs H Q E h => ?_) (fun cdv A outer s H vs Q E hr h => ?_)
  · obtain ⟨_, _, _, rfl, _⟩ := h
    rfl
  · obtain ⟨n, l, u, rfl, q⟩ := h
    refine ⟨_, pss_cons (ps_if (pt_cmpR op_lt (pv 0) (pv 1) (nomark _)) (pss_one (ps_ret (pv 1))) pss_nil) (pss_cons (ps_if (pt_cmpR op_gt (pv 0) (pv 2) (nomark _)) (pss_one (ps_ret (pv 2))) pss_nil) (pss_one (ps_ret (pv 0)))), ?_⟩
    unfold lim at q
    refine ⟨_, rfl, _, rfl, _, _, rfl, rfl, _, rfl, ite2 (fun e => ?_) (fun e => ?_)⟩
    · rw [if_pos (of_decide_eq_true e)] at q
      exact ⟨_, rfl, q⟩
    · rw [if_neg (fun z => e (decide_eq_true z))] at q
      refine ⟨_, rfl, _, rfl, _, _, rfl, rfl, _, rfl, ite2 (fun e => ?_) (fun e => ?_)⟩
      · rw [if_pos (of_decide_eq_true e)] at q
        exact ⟨_, rfl, q⟩
      · rw [if_neg (fun z => e (decide_eq_true z))] at q
        exact ⟨_, rfl, q⟩
def spClamp (K : PySem.W.Frag) : Sp := fun vs H Q _ => ∃ (p i : Addr) (a l h : Int), vs = [.ref p, .ref i] ∧ SqT K H p [.int a] ∧ SqT K H i [.int l, .int h] ∧ Q (.int (lim a l h)) H
theorem scsClamp : FnScope VI VI (defScope sClamp) := ⟨rfl, rfl, rfl, by decide +kernel, rfl, by decide +kernel, by decide +kernel⟩
theorem ok_clamp {f fL : Addr} {fd fdL : FuncData} (F : Fun K "_clamp" "_clamp" sClamp f fd) (FL : Fun K "limit" "limit" sLimit fL fdL) (bL : Binds K fdL ["n", "low", "high"] []) (gL : mg "limit" = some (.ref fL)) : FnOk P w K mg base CX0 2 f fd VI (spClamp K) := by
  have GL : FnOk P w K mg base CX0 1 fL fdL ["n", "low", "high"] spLimit := ok_limit FL
  refine F.ok scsClamp (fun vs H Q E h => ?_) (fun cdv A outer s H vs Q E hr h => ?_)
  · obtain ⟨p, i, _, _, _, rfl, _⟩ := h
    rfl
  · obtain ⟨p, i, a, l, u, rfl, hp, hi, q⟩ := h
    refine ⟨_, pss_one (ps_ret (pe_call GL hr (by rfl) gL FL.kp bL .nil pass0 (pa_cons (pe_ix ix_tup (pv 0) pe_int (fun _ _ => rfl)) (pa_cons (pe_ix ix_tup (pv 1) pe_int (fun _ _ => rfl)) (pa_cons (pe_ix ix_tup (pv 1) pe_int (fun _ _ => rfl)) pa_nil))))), ?_⟩
    exact ⟨_, rfl, p, _, _, _, rfl, rfl, hp, g0, _, rfl, i, _, _, _, rfl, rfl, hi, g0, _, rfl, i, _, _, _, rfl, rfl, hi, g1, a, l, u, rfl, q⟩
def shf (x : Int) (n : Nat) : Int := (x + 2 ^ (n - 1)) / 2 ^ n
def spShift (K : PySem.W.Frag) : Sp := fun vs H Q _ => ∃ (p i : Addr) (a : Int) (n : Nat), vs = [.ref p, .ref i] ∧ SqT K H p [.int a] ∧ SqT K H i [.int (n : Int)] ∧ 1 ≤ n ∧ n ≤ 30 ∧ Q (.int (shf a n)) H
theorem scsShift : FnScope VI VI (defScope sShift) := ⟨rfl, rfl, rfl, by decide +kernel, rfl, by decide +kernel, by decide +kernel⟩
theorem ok_shift {f : Addr} {fd : FuncData} (F : Fun K "_shift" "_shift" sShift f fd) : FnOk P w K mg base CX0 1 f fd VI (spShift K) := by
  refine F.ok scsShift (fun vs H Q E h => ?_) (fun cdv A outer s H vs Q E hr h => ?_)
  · obtain ⟨p, i, _, _, rfl, _⟩ := h
    rfl
  · obtain ⟨p, i, a, n, rfl, hp, hi, n1, n2, q⟩ := h
    refine ⟨_, pss_one (ps_ret (pe_op op_shr (pe_op op_add (pe_ix ix_tup (pv 0) pe_int (fun _ _ => rfl)) (pe_op op_shl pe_int (pe_op op_sub (pe_ix ix_tup (pv 1) pe_int (fun _ _ => rfl)) pe_int))) (pe_ix ix_tup (pv 1) pe_int (fun _ _ => rfl)))), ?_⟩
    refine ⟨_, rfl, p, _, _, _, rfl, rfl, hp, g0, _, rfl, i, _, _, _, rfl, rfl, hi, g0, _, _, rfl, rfl, _, _, rfl, rfl, ⟨by omega, by omega, by decide⟩, _, _, rfl, rfl, _, rfl, i, _, _, _, rfl, rfl, hi, g0, _, _, rfl, rfl, (by show (0 : Int) ≤ n; omega), ?_⟩
    show Q (.int ((a + 1 * 2 ^ ((n : Int) - 1).toNat) / 2 ^ (n : Int).toNat)) H
    rw [Int.one_mul, show ((n : Int) - 1).toNat = n - 1 by omega, Int.toNat_natCast]
    exact q
def spWhere (K : PySem.W.Frag) : Sp := fun vs H Q _ => ∃ (p i : Addr) (c a b : Int), vs = [.ref p, .ref i] ∧ SqT K H p [.int c, .int a, .int b] ∧ Q (.int (if c = 0 then b else a)) H
theorem scsWhere : FnScope VI VI (defScope sWhere) := ⟨rfl, rfl, rfl, by decide +kernel, rfl, by decide +kernel, by decide +kernel⟩
theorem ok_where {f : Addr} {fd : FuncData} (F : Fun K "_where" "_where" sWhere f fd) : FnOk P w K mg base CX0 1 f fd VI (spWhere K) := by
  refine F.ok scsWhere (fun vs H Q E h => ?_) (fun cdv A outer s H vs Q E hr h => ?_)
  · obtain ⟨p, i, _, _, _, rfl, _⟩ := h
    rfl
  · obtain ⟨p, i, c, a, b, rfl, hp, q⟩ := h
    refine ⟨_, pss_one (ps_ret (pe_ifExp (pt_cmpR op_ne (pe_ix ix_tup (pv 0) pe_int (fun _ _ => rfl)) pe_int (nomark _)) (pe_ix ix_tup (pv 0) pe_int (fun _ _ => rfl)) (pe_ix ix_tup (pv 0) pe_int (fun _ _ => rfl)))), ?_⟩
    refine ⟨_, rfl, p, _, _, _, rfl, rfl, hp, g0, rfl, _, rfl, ?_⟩
    by_cases e : c = 0
    · subst e
      rw [if_pos rfl] at q
      exact iteF ⟨_, rfl, p, _, _, _, rfl, rfl, hp, g2, q⟩
    · rw [if_neg e] at q
      rw [decide_eq_false (fun z => e (V.int.inj z))]
      exact iteT ⟨_, rfl, p, _, _, _, rfl, rfl, hp, g1, q⟩
/-! ### pointwise -/
/-- the table has a maker with this promise -/
def Mak (P : Program) (w : World) (K : PySem.W.Frag) (mg : Str → Option Value) (base : Heap) (aM : Addr) (kind : Str) (sp : Sp) : Prop :=
  ∃ (f : Addr) (fd : FuncData), FnOk P w K mg base CX0 2 f fd VI sp ∧ PySem.W.keepIn K (.ref f) = true ∧ Binds K fd VI [] ∧ KDct K w aM kind (.ref f)
def spPw (P : Program) (w : World) (K : PySem.W.Frag) (mg : Str → Option Value) (base : Heap) (aM : Addr) : Sp := fun vs H Q _ => ∃ (kind : Str) (p i : Addr) (sp : Sp), vs = [.str kind, .ref p, .ref i] ∧ Mak P w K mg base aM kind sp ∧ sp [.ref p, .ref i] H Q E0
theorem scsPw : FnScope ["kind", "values", "info", "maker"] ["kind", "values", "info"] (defScope sPw) := ⟨rfl, rfl, rfl, by decide +kernel, rfl, by decide +kernel, by decide +kernel⟩
theorem ok_pw {f aM : Addr} {fd : FuncData} (F : Fun K "pointwise" "pointwise" sPw f fd) (gM : mg "MAKERS_kinds" = some (.ref aM)) : FnOk P w K mg base CX0 3 f fd ["kind", "values", "info"] (spPw P w K mg base aM) := by
  refine F.ok scsPw (fun vs H Q E h => ?_) (fun cdv A outer s H vs Q E hr h => ?_)
  · obtain ⟨kind, p, i, sp, rfl, _⟩ := h
    rfl
  · obtain ⟨kind, p, i, sp, rfl, ⟨fm, fdm, G, km, bm, kd⟩, q⟩ := h
    refine ⟨_, pss_cons (ps_set (i := 3) scsPw.nd rfl (.inl rfl) (pe_ix ix_kdict (pe_glob (v := .ref aM) (by rfl) gM rfl) (pv 0) (fun _ _ => rfl)))
      (pss_one (ps_ret (pe_callL (i := 3) (f := fm) (sp := sp) (dvs := []) (E := E0) G hr rfl (Or.inl rfl) km bm .nil pass0 (pa_cons (pv 1) (pa_cons (pv 2) pa_nil))))), ?_⟩
    exact ⟨_, rfl, aM, kind, _, rfl, rfl, kd, rfl, _, rfl, _, rfl, q⟩

end
abbrev sMinit : Stmt := inClass (topS 49) 0
abbrev sMlen : Stmt := inClass (topS 49) 1
abbrev sMnumber : Stmt := inClass (topS 49) 2
abbrev sMvariable : Stmt := inClass (topS 49) 3
abbrev sMmake : Stmt := inClass (topS 49) 4
abbrev sMpick : Stmt := inClass (topS 49) 5
abbrev sMrow : Stmt := inClass (topS 49) 6
abbrev sMspan : Stmt := inClass (topS 49) 7
abbrev sMvalue : Stmt := inClass (topS 49) 8
abbrev sMform : Stmt := inClass (topS 49) 9
abbrev sMplace : Stmt := inClass (topS 49) 10
abbrev sMneeded : Stmt := inClass (topS 49) 11

theorem iteTd {b : Bool} {P Q : Prop} (h : b = true) (p : P) : if b = true then P else Q := by rw [if_pos h]; exact p
theorem iteFd {b : Bool} {P Q : Prop} (h : b = false) (q : Q) : if b = true then P else Q := by rw [if_neg (by rw [h]; exact Bool.false_ne_true)]; exact q
theorem i0 {a : V} {r : List V} : atI (a :: r) ((0 : Nat) : Int) = some a := atI_nat rfl
theorem i1 {a b : V} {r : List V} : atI (a :: b :: r) ((1 : Nat) : Int) = some b := atI_nat rfl
theorem i2 {a b c : V} {r : List V} : atI (a :: b :: c :: r) ((2 : Nat) : Int) = some c := atI_nat rfl
inductive Bk | add | sub | mul | max | min | less | equal | neg | clamp (lo hi : Int) | shift (n : Nat) | wher
  deriving DecidableEq
def Bk.nm : Bk → Str
  | .add => "add" | .sub => "sub" | .mul => "mul" | .max => "max" | .min => "min" | .less => "less" | .equal => "equal" | .neg => "neg" | .clamp _ _ => "clamp" | .shift _ => "shift" | .wher => "where"
def Bk.is : Bk → List Int
  | .clamp lo hi => [lo, hi] | .shift n => [(n : Int)] | _ => []
def Bk.ar : Bk → Nat
  | .neg => 1 | .clamp _ _ => 1 | .shift _ => 1 | .wher => 3 | _ => 2
def asInts (as : List Nat) : List Int := as.map fun (n : Nat) => (n : Int)
def ptK : Bk → List Int → Int
  | .add, [a, b] => a + b | .sub, [a, b] => a - b | .mul, [a, b] => a * b | .max, [a, b] => mx a b | .min, [a, b] => mn a b
  | .less, [a, b] => if a < b then 1 else 0 | .equal, [a, b] => if a = b then 1 else 0 | .neg, [a] => -a | .clamp lo hi, [a] => lim a lo hi | .shift n, [a] => shf a n
  | .wher, [c, a, b] => if c = 0 then b else a | _, _ => 0
def BkC : Bk → List Int → Prop
  | .mul, [a, b] => CMulW a b
  | .shift n, _ => 1 ≤ n ∧ n ≤ 30
  | _, _ => True
section
variable {P : Program} {w : World} {K : PySem.W.Frag} {mg : Str → Option Value} {base : Heap} {aM : Addr}
structure PtT (P : Program) (w : World) (K : PySem.W.Frag) (mg : Str → Option Value) (base : Heap) (aM : Addr) : Prop where
  add : Mak P w K mg base aM "add" (sp2 K (fun _ _ => True) fun a b => a + b)
  sub : Mak P w K mg base aM "sub" (sp2 K (fun _ _ => True) fun a b => a - b)
  mul : Mak P w K mg base aM "mul" (sp2 K CMulW fun a b => a * b)
  max : Mak P w K mg base aM "max" (sp2 K (fun _ _ => True) mx)
  min : Mak P w K mg base aM "min" (sp2 K (fun _ _ => True) mn)
  less : Mak P w K mg base aM "less" (sp2 K (fun _ _ => True) fun a b => if a < b then 1 else 0)
  equal : Mak P w K mg base aM "equal" (sp2 K (fun _ _ => True) fun a b => if a = b then 1 else 0)
  neg : Mak P w K mg base aM "neg" (sp1 K fun a => -a)
  clamp : Mak P w K mg base aM "clamp" (spClamp K)
  shift : Mak P w K mg base aM "shift" (spShift K)
  «where» : Mak P w K mg base aM "where" (spWhere K)
theorem one_ints {xs : List Int} (h : xs.length = 1) : ∃ a, xs = [a] := by
  match xs, h with
  | [a], _ => exact ⟨a, rfl⟩
theorem two_ints {xs : List Int} (h : xs.length = 2) : ∃ a b, xs = [a, b] := by
  match xs, h with
  | [a, b], _ => exact ⟨a, b, rfl⟩
theorem three_ints {xs : List Int} (h : xs.length = 3) : ∃ a b c, xs = [a, b, c] := by
  match xs, h with
  | [a, b, c], _ => exact ⟨a, b, c, rfl⟩
theorem pt_link (M : PtT P w K mg base aM) {k : Bk} {xs : List Int} {H : Hp} {pt pi : Addr} {Q : VK} (ht : SqT K H pt (xs.map V.int)) (hi : SqT K H pi (k.is.map V.int)) (hl : xs.length = k.ar) (hb : BkC k xs) (q : Q (.int (ptK k xs)) H) : ∃ sp, Mak P w K mg base aM k.nm sp ∧ sp [.ref pt, .ref pi] H Q E0 := by
  cases k with
  | neg =>
    obtain ⟨a, rfl⟩ := one_ints hl
    exact ⟨_, M.neg, pt, pi, a, rfl, ht, q⟩
  | clamp lo hi' =>
    obtain ⟨a, rfl⟩ := one_ints hl
    exact ⟨_, M.clamp, pt, pi, a, lo, hi', rfl, ht, hi, q⟩
  | shift n =>
    obtain ⟨a, rfl⟩ := one_ints hl
    exact ⟨_, M.shift, pt, pi, a, n, rfl, ht, hi, hb.1, hb.2, q⟩
  | wher =>
    obtain ⟨c, a, b, rfl⟩ := three_ints hl
    exact ⟨_, M.«where», pt, pi, c, a, b, rfl, ht, q⟩
  | mul =>
    obtain ⟨a, b, rfl⟩ := two_ints hl
    exact ⟨_, M.mul, pt, pi, a, b, rfl, ht, hb, q⟩
  | add =>
    obtain ⟨a, b, rfl⟩ := two_ints hl
    exact ⟨_, M.add, pt, pi, a, b, rfl, ht, trivial, q⟩
  | sub =>
    obtain ⟨a, b, rfl⟩ := two_ints hl
    exact ⟨_, M.sub, pt, pi, a, b, rfl, ht, trivial, q⟩
  | max =>
    obtain ⟨a, b, rfl⟩ := two_ints hl
    exact ⟨_, M.max, pt, pi, a, b, rfl, ht, trivial, q⟩
  | min =>
    obtain ⟨a, b, rfl⟩ := two_ints hl
    exact ⟨_, M.min, pt, pi, a, b, rfl, ht, trivial, q⟩
  | less =>
    obtain ⟨a, b, rfl⟩ := two_ints hl
    exact ⟨_, M.less, pt, pi, a, b, rfl, ht, trivial, q⟩
  | equal =>
    obtain ⟨a, b, rfl⟩ := two_ints hl
    exact ⟨_, M.equal, pt, pi, a, b, rfl, ht, trivial, q⟩
/-- pointwise(kind, values, info) -/
def spPwK (K : PySem.W.Frag) : Sp := fun vs H Q _ => ∃ (k : Bk) (pt pi : Addr) (xs : List Int), vs = [.str k.nm, .ref pt, .ref pi] ∧ SqT K H pt (xs.map V.int) ∧ SqT K H pi (k.is.map V.int) ∧ xs.length = k.ar ∧ BkC k xs ∧ Q (.int (ptK k xs)) H
theorem ok_pwK {f : Addr} {fd : FuncData} (F : Fun K "pointwise" "pointwise" sPw f fd) (gM : mg "MAKERS_kinds" = some (.ref aM)) (M : PtT P w K mg base aM) : FnOk P w K mg base CX0 3 f fd ["kind", "values", "info"] (spPwK K) := by
  refine F.ok scsPw (fun vs H Q E h => ?_) (fun cdv A outer s H vs Q E hr h => ?_)
  · obtain ⟨_, _, _, _, rfl, _⟩ := h
    rfl
  · obtain ⟨k, p, i, xs, rfl, ht, hi, hl, hb, q⟩ := h
    obtain ⟨sp, ⟨fm, fdm, G, km, bm, kd⟩, q⟩ := pt_link M ht hi hl hb q
    refine ⟨_, pss_cons (ps_set (i := 3) scsPw.nd rfl (.inl rfl) (pe_ix ix_kdict (pe_glob (v := .ref aM) (by rfl) gM rfl) (pv 0) (fun _ _ => rfl)))
      (pss_one (ps_ret (pe_callL (i := 3) (f := fm) (sp := sp) (dvs := []) (E := E0) G hr rfl (Or.inl rfl) km bm .nil pass0 (pa_cons (pv 1) (pa_cons (pv 2) pa_nil))))), ?_⟩
    exact ⟨_, rfl, aM, k.nm, _, rfl, rfl, kd, rfl, _, rfl, _, rfl, q⟩
end
section
variable {P : Program} {w : World} {K : PySem.W.Frag} {mg : Str → Option Value} {base : Heap}
theorem two_line : 2 ≤ sizeLine := by decide
def IvQ (K : PySem.W.Frag) (lo hi : Int) (Q : VK) (H : Hp) : Prop := ∀ H' p, Same H H' → SqT K H' p [.int lo, .int hi] → Q (.ref p) H'
def lst : List Int → Int
  | [] => 0
  | [a] => a
  | a :: l => mn a (lst l)
def grt : List Int → Int
  | [] => 0
  | [a] => a
  | a :: l => mx a (grt l)
theorem lst_le : ∀ (l : List Int), ∀ y ∈ l, lst l ≤ y
  | [], y, h => by cases h
  | [a], y, h => by
    rw [List.mem_singleton] at h
    rw [h]
    exact Int.le_refl _
  | a :: b :: l, y, h => by
    show mn a (lst (b :: l)) ≤ y
    unfold mn
    rcases List.mem_cons.mp h with rfl | h
    · split <;> omega
    · have := lst_le (b :: l) y h
      split <;> omega
theorem lst_mem : ∀ (l : List Int), l ≠ [] → lst l ∈ l
  | [], h => absurd rfl h
  | [a], _ => List.mem_cons_self
  | a :: b :: l, _ => by
    show mn a (lst (b :: l)) ∈ _
    unfold mn
    split
    · exact List.mem_cons_of_mem _ (lst_mem (b :: l) (List.cons_ne_nil _ _))
    · exact List.mem_cons_self
theorem le_grt : ∀ (l : List Int), ∀ y ∈ l, y ≤ grt l
  | [], y, h => by cases h
  | [a], y, h => by
    rw [List.mem_singleton] at h
    rw [h]
    exact Int.le_refl _
  | a :: b :: l, y, h => by
    show y ≤ mx a (grt (b :: l))
    unfold mx
    rcases List.mem_cons.mp h with rfl | h
    · split <;> omega
    · have := le_grt (b :: l) y h
      split <;> omega
theorem grt_mem : ∀ (l : List Int), l ≠ [] → grt l ∈ l
  | [], h => absurd rfl h
  | [a], _ => List.mem_cons_self
  | a :: b :: l, _ => by
    show mx a (grt (b :: l)) ∈ _
    unfold mx
    split
    · exact List.mem_cons_of_mem _ (grt_mem (b :: l) (List.cons_ne_nil _ _))
    · exact List.mem_cons_self
theorem lst_is {l : List Int} {m : Int} (h : m ∈ l) (h2 : ∀ y ∈ l, m ≤ y) : m = lst l := by
  have h0 : l ≠ [] := fun e => by rw [e] at h; cases h
  have := lst_le l m h
  have := h2 _ (lst_mem l h0)
  omega
theorem grt_is {l : List Int} {m : Int} (h : m ∈ l) (h2 : ∀ y ∈ l, y ≤ m) : m = grt l := by
  have h0 : l ≠ [] := fun e => by rw [e] at h; cases h
  have := le_grt l m h
  have := h2 _ (grt_mem l h0)
  omega
def corn (l h p q : Int) : List Int := [l * p, l * q, h * p, h * q]
theorem sc_corners : FnScope ["one", "other", "ends"] ["one", "other"] (defScope scorners) := ⟨rfl, rfl, rfl, by decide +kernel, rfl, by decide +kernel, by decide +kernel⟩
def spCorners (K : PySem.W.Frag) : Sp := fun vs H Q _ => ∃ (p1 p2 : Addr) (l h p q : Int), vs = [.ref p1, .ref p2] ∧ SqT K H p1 [.int l, .int h] ∧ SqT K H p2 [.int p, .int q] ∧ Bg 400000 l ∧ Bg 400000 h ∧ Bg 400000 p ∧ Bg 400000 q ∧ IvQ K (lst (corn l h p q)) (grt (corn l h p q)) Q H
theorem ok_corners {f : Addr} {fd : FuncData} (F : Fun K "corners" "corners" scorners f fd) (mi : mg "min" = none) (ma : mg "max" = none) : FnOk P w K mg base CX0 1 f fd ["one", "other"] (spCorners K) := by
  refine F.ok sc_corners (fun vs H Q E h => ?_) (fun cdv A outer s H vs Q E hr h => ?_)
  · obtain ⟨p1, p2, l, h, p, q, rfl, _⟩ := h
    rfl
  · obtain ⟨p1, p2, l, h, p, q, rfl, hp1, hp2, b1, b2, b3, b4, hq⟩ := h
    have c : ∀ {x y : Int}, Bg 400000 x → Bg 400000 y → CMulW x y := fun a b => Bg.cmul a b (by decide) (by decide) (by decide)
    refine ⟨_, (pss_cons (ps_set (i := 2) sc_corners.nd rfl (.inl rfl) (pe_lst (pa_cons (pe_op op_mulW (pe_ix ix_tup (pv 0) pe_int (fun _ _ => rfl)) (pe_ix ix_tup (pv 1) pe_int (fun _ _ => rfl))) (pa_cons (pe_op op_mulW (pe_ix ix_tup (pv 0) pe_int (fun _ _ => rfl)) (pe_ix ix_tup (pv 1) pe_int (fun _ _ => rfl))) (pa_cons (pe_op op_mulW (pe_ix ix_tup (pv 0) pe_int (fun _ _ => rfl)) (pe_ix ix_tup (pv 1) pe_int (fun _ _ => rfl))) (pa_cons (pe_op op_mulW (pe_ix ix_tup (pv 0) pe_int (fun _ _ => rfl)) (pe_ix ix_tup (pv 1) pe_int (fun _ _ => rfl))) pa_nil))))))
      (pss_one (ps_ret (pe_tup (pa_cons (pe_callB (cr_min (by rfl)) (by rfl) mi (by decide +kernel) (pa_cons (pv 2) pa_nil)) (pa_cons (pe_callB (cr_max (by rfl)) (by rfl) ma (by decide +kernel) (pa_cons (pv 2) pa_nil)) pa_nil)))))), ?_⟩
    refine ⟨_, rfl, p1, _, (0 : Nat), _, rfl, rfl, hp1, i0, _, rfl, p2, _, (0 : Nat), _, rfl, rfl, hp2, i0, _, _, rfl, rfl, c b1 b3, ?_⟩
    refine ⟨_, rfl, p1, _, (0 : Nat), _, rfl, rfl, hp1, i0, _, rfl, p2, _, (1 : Nat), _, rfl, rfl, hp2, i1, _, _, rfl, rfl, c b1 b4, ?_⟩
    refine ⟨_, rfl, p1, _, (1 : Nat), _, rfl, rfl, hp1, i1, _, rfl, p2, _, (0 : Nat), _, rfl, rfl, hp2, i0, _, _, rfl, rfl, c b2 b3, ?_⟩
    refine ⟨_, rfl, p1, _, (1 : Nat), _, rfl, rfl, hp1, i1, _, rfl, p2, _, (1 : Nat), _, rfl, rfl, hp2, i1, _, _, rfl, rfl, c b2 b4, by show 4 ≤ sizeLine; decide, fun pe npe => ?_⟩
    have hpe : SqL K (upd H pe (.lst ((corn l h p q).map V.int))) pe ((corn l h p q).map V.int) := SqL.of upd_same
    have s1 := same_upd (o := .lst ((corn l h p q).map V.int)) npe
    refine ⟨_, rfl, pe, corn l h p q, rfl, hpe, (by show 0 < 4; decide), fun m1 e1 e2 => ⟨_, rfl, pe, corn l h p q, rfl, hpe, (by show 0 < 4; decide), fun m2 e3 e4 => ⟨two_line, fun p5 np5 => hq _ p5 (s1.trans (same_upd np5)) ?_⟩⟩⟩
    rw [lst_is e1 e2, grt_is e3 e4]
    exact SqT.of upd_same
end
/-! ### dicts whose keys are nested tuples -/
def rawD (P : Program) (w : World) (a : Addr) (xs : List (NestedKey × Addr × Value)) (h : Heap) : Prop :=
  (a == sysModules) = false ∧ ∃ o es ep, h.get? a = some o ∧ o.ExactDict ∧ o.data = Data.dict es ep ∧ es.toList = xs.map (entryOfKey (nestedKind P w)) ∧ (xs.map (·.1)).Nodup
theorem raw_ok {P : Program} {w : World} {H : Hp} {h : Heap} {a : Addr} {xs : List (NestedKey × Addr × Value)} (r : rawD P w a xs h) : ObjOk P w H h a (.ext (rawD P w a xs)) := by
  obtain ⟨l, o, es, ep, h1, h2⟩ := id r
  exact ⟨r, ⟨o, h1⟩, fun k1 k2 ⟨l, o, es, ep, h1, h2⟩ k => ⟨l, o, es, ep, k o h1, h2⟩⟩
theorem pe_dnewN {X : Cx} {pos : Pos} : PE X (Expr.Dict [] [] pos) (fun σ H Q => ∀ p, H p = none → Q (.ref p) (upd H p (.ext (rawD X.prog X.w p [])))) := ⟨fun pins s σ H Q I h => by
  have hb := Inv.big I
  refine wpAny_Dict_empty ⟨.ref s.heap.objs.size, upd H s.heap.objs.size (.ext (rawD X.prog X.w s.heap.objs.size [])), Inv.laid I (fun x x_1 q => Heap.get?_push_of_some _ q) (Nat.le_refl _) (raw_ok ⟨?_, _, _, _, Heap.get?_push_size s.heap rfl, ⟨rfl, rfl, rfl⟩, rfl, rfl, List.nodup_nil⟩), rfl, h _ (HOk.fresh I.hok (Nat.le_refl _))⟩
  exact beq_eq_false_iff_ne.mpr (Nat.ne_of_gt hb)⟩
mutual
def keyD : PyData → NestedKey
  | .int i => .num i
  | .str x => .text x
  | .tuple ds => .tup (keyDs ds)
  | _ => .none
def keyDs : List PyData → List NestedKey
  | [] => []
  | d :: ds => keyD d :: keyDs ds
end
mutual
def plainD : PyData → Bool
  | .int _ => true
  | .str _ => true
  | .tuple ds => plainDs ds
  | _ => false
def plainDs : List PyData → Bool
  | [] => true
  | d :: ds => plainD d && plainDs ds
end
mutual
theorem keyD_inj : ∀ {d e : PyData}, plainD d = true → plainD e = true → keyD d = keyD e → d = e
  | .int i, .int j, _, _, h => by simp only [keyD, NestedKey.num.injEq] at h; rw [h]
  | .str i, .str j, _, _, h => by simp only [keyD, NestedKey.text.injEq] at h; rw [h]
  | .tuple ds, .tuple es, hd, he, h => by
    simp only [keyD, NestedKey.tup.injEq] at h
    simp only [plainD] at hd he
    rw [keyDs_inj hd he h]
  | .int _, .str _, _, _, h => by simp [keyD] at h
  | .int _, .tuple _, _, _, h => by simp [keyD] at h
  | .str _, .int _, _, _, h => by simp [keyD] at h
  | .str _, .tuple _, _, _, h => by simp [keyD] at h
  | .tuple _, .int _, _, _, h => by simp [keyD] at h
  | .tuple _, .str _, _, _, h => by simp [keyD] at h
  | .none, _, h, _, _ => by simp [plainD] at h
  | .bool _, _, h, _, _ => by simp [plainD] at h
  | .list _, _, h, _, _ => by simp [plainD] at h
  | .dict _, _, h, _, _ => by simp [plainD] at h
  | .int _, .none, _, h, _ => by simp [plainD] at h
  | .int _, .bool _, _, h, _ => by simp [plainD] at h
  | .int _, .list _, _, h, _ => by simp [plainD] at h
  | .int _, .dict _, _, h, _ => by simp [plainD] at h
  | .str _, .none, _, h, _ => by simp [plainD] at h
  | .str _, .bool _, _, h, _ => by simp [plainD] at h
  | .str _, .list _, _, h, _ => by simp [plainD] at h
  | .str _, .dict _, _, h, _ => by simp [plainD] at h
  | .tuple _, .none, _, h, _ => by simp [plainD] at h
  | .tuple _, .bool _, _, h, _ => by simp [plainD] at h
  | .tuple _, .list _, _, h, _ => by simp [plainD] at h
  | .tuple _, .dict _, _, h, _ => by simp [plainD] at h
theorem keyDs_inj : ∀ {ds es : List PyData}, plainDs ds = true → plainDs es = true → keyDs ds = keyDs es → ds = es
  | [], [], _, _, _ => rfl
  | d :: ds, e :: es, hd, he, h => by
    simp only [plainDs, Bool.and_eq_true] at hd he
    simp only [keyDs, List.cons.injEq] at h
    rw [keyD_inj hd.1 he.1 h.1, keyDs_inj hd.2 he.2 h.2]
  | [], _ :: _, _, _, h => by simp [keyDs] at h
  | _ :: _, [], _, _, h => by simp [keyDs] at h
end
mutual
theorem nkD {X : Cx} {pins : List (Addr × Obj)} {σ : St} {H : Hp} {s : Shared} (I : Inv X pins σ H s) : ∀ {d : PyData} {v : V} {u : Value}, Dp X.K H v d → plainD d = true → RelV v u → NestedIs s.heap (keyD d) u
  | .int i, v, u, h, _, r => by
    cases h
    obtain ⟨t, rfl⟩ := r
    simp only [keyD]
    exact .int i t
  | .str i, v, u, h, _, r => by
    cases h
    obtain ⟨t, rfl⟩ := r
    simp only [keyD]
    exact .text i t
  | .tuple ds, v, u, h, hp, r => by
    cases h with
    | tup hq ha =>
      cases r
      simp only [plainD] at hp
      obtain ⟨its, rv, ⟨o, h1, h2, n, h3⟩, _⟩ := I.tuple hq
      simp only [keyD]
      exact .tup h1 h2 h3 (nkDs I ha hp rv)
  | .none, _, _, _, h, _ => by simp [plainD] at h
  | .bool _, _, _, _, h, _ => by simp [plainD] at h
  | .list _, _, _, _, h, _ => by simp [plainD] at h
  | .dict _, _, _, _, h, _ => by simp [plainD] at h
theorem nkDs {X : Cx} {pins : List (Addr × Obj)} {σ : St} {H : Hp} {s : Shared} (I : Inv X pins σ H s) : ∀ {ds : List PyData} {vs : List V} {us : List Value}, DpAll X.K H vs ds → plainDs ds = true → Vals vs us → NestedAll s.heap (keyDs ds) us
  | [], vs, us, h, _, r => by
    cases h
    cases r
    simp only [keyDs]
    exact .nil
  | d :: ds, vs, us, h, hp, r => by
    cases h with
    | cons h1 h2 =>
      cases r with
      | cons r1 r2 =>
        simp only [plainDs, Bool.and_eq_true] at hp
        simp only [keyDs]
        exact .cons (nkD I h1 hp.1 r1) (nkDs I h2 hp.2 r2)
end
/-- tuples are kept -/
def KeepT (K : PySem.W.Frag) (H H' : Hp) : Prop := ∀ a xs, SqT K H a xs → SqT K H' a xs
theorem KeepT.trans {K : PySem.W.Frag} {H H1 H2 : Hp} (a : KeepT K H H1) (b : KeepT K H1 H2) : KeepT K H H2 := fun p xs h => b p xs (a p xs h)
mutual
theorem dp_kt {K : PySem.W.Frag} {H H' : Hp} (k : KeepT K H H') : ∀ {d : PyData} {v : V}, Dp K H v d → plainD d = true → Dp K H' v d
  | .int i, v, h, _ => by
    cases h
    exact .int i
  | .str i, v, h, _ => by
    cases h
    exact .str i
  | .tuple ds, v, h, hp => by
    cases h with
    | tup hq ha =>
      simp only [plainD] at hp
      exact .tup (k _ _ hq) (dps_kt k ha hp)
  | .none, _, _, h => by simp [plainD] at h
  | .bool _, _, _, h => by simp [plainD] at h
  | .list _, _, _, h => by simp [plainD] at h
  | .dict _, _, _, h => by simp [plainD] at h
theorem dps_kt {K : PySem.W.Frag} {H H' : Hp} (k : KeepT K H H') : ∀ {ds : List PyData} {vs : List V}, DpAll K H vs ds → plainDs ds = true → DpAll K H' vs ds
  | [], vs, h, _ => by
    cases h
    exact .nil
  | d :: ds, vs, h, hp => by
    cases h with
    | cons h1 h2 =>
      simp only [plainDs, Bool.and_eq_true] at hp
      exact .cons (dp_kt k h1 hp.1) (dps_kt k h2 hp.2)
end

def DVs (K : PySem.W.Frag) (H : Hp) : List (NestedKey × Addr × Value) → List (PyData × V) → Prop
  | [], [] => True
  | x :: xs, p :: ps => (x.1 = keyD p.1 ∧ plainD p.1 = true ∧ (keyD p.1).depth ≤ 8 ∧ Dp K H (.ref x.2.1) p.1 ∧ RelV p.2 x.2.2) ∧ DVs K H xs ps
  | _, _ => False
/-- a dict whose keys are nested tuples, with its values -/
def DV (P : Program) (w : World) (K : PySem.W.Frag) (H : Hp) (G : Addr) (kvs : List (PyData × V)) : Prop := ∃ xs, H G = some (.ext (rawD P w G xs)) ∧ DVs K H xs kvs
theorem DVs.kt {K : PySem.W.Frag} {H H' : Hp} (k : KeepT K H H') : ∀ {xs : List (NestedKey × Addr × Value)} {kvs : List (PyData × V)}, DVs K H xs kvs → DVs K H' xs kvs
  | [], [], h => h
  | x :: xs, p :: ps, h => ⟨⟨h.1.1, h.1.2.1, h.1.2.2.1, dp_kt k h.1.2.2.2.1 h.1.2.1, h.1.2.2.2.2⟩, DVs.kt k h.2⟩
  | [], _ :: _, h => h.elim
  | _ :: _, [], h => h.elim
theorem DV.kt {P : Program} {w : World} {K : PySem.W.Frag} {H H' : Hp} {G : Addr} {kvs : List (PyData × V)} (k : KeepT K H H') (e : ∀ o, H G = some o → H' G = some o) : DV P w K H G kvs → DV P w K H' G kvs
  | ⟨xs, h1, h2⟩ => ⟨xs, e _ h1, h2.kt k⟩
theorem DVs.len {K : PySem.W.Frag} {H : Hp} : ∀ {xs : List (NestedKey × Addr × Value)} {kvs : List (PyData × V)}, DVs K H xs kvs → xs.length = kvs.length
  | [], [], _ => rfl
  | x :: xs, p :: ps, h => by rw [List.length_cons, List.length_cons, DVs.len h.2]
  | [], _ :: _, h => h.elim
  | _ :: _, [], h => h.elim
def lookV (kvs : List (PyData × V)) (d : PyData) : Option V := (kvs.find? fun p => decide (keyD p.1 = keyD d)).map (·.2)
def putV (kvs : List (PyData × V)) (d : PyData) (n : V) : List (PyData × V) := if (lookV kvs d).isSome = true then kvs.map (fun p => if keyD p.1 = keyD d then (p.1, n) else p) else kvs ++ [(d, n)]
theorem lookV_at {K : PySem.W.Frag} {H : Hp} {d : PyData} : ∀ {xs : List (NestedKey × Addr × Value)} {kvs : List (PyData × V)}, DVs K H xs kvs →
    (lookV kvs d = none ∧ atKey xs (keyD d) = none) ∨ ∃ n a u, lookV kvs d = some n ∧ atKey xs (keyD d) = some (a, u) ∧ RelV n u
  | [], [], _ => .inl ⟨rfl, rfl⟩
  | x :: xs, p :: ps, h => by
    obtain ⟨⟨h1, _, _, _, h2⟩, h3⟩ := h
    unfold lookV atKey
    by_cases e : keyD p.1 = keyD d
    · rw [List.find?_cons_of_pos (by exact decide_eq_true e), List.find?_cons_of_pos (by rw [h1]; exact decide_eq_true e)]
      exact .inr ⟨p.2, x.2.1, x.2.2, rfl, rfl, h2⟩
    · rw [List.find?_cons_of_neg (by rw [decide_eq_false e]; exact Bool.false_ne_true), List.find?_cons_of_neg (by rw [h1, decide_eq_false e]; exact Bool.false_ne_true)]
      exact lookV_at h3
  | [], _ :: _, h => h.elim
  | _ :: _, [], h => h.elim
theorem DVs.append {K : PySem.W.Frag} {H : Hp} : ∀ {xs : List (NestedKey × Addr × Value)} {kvs : List (PyData × V)} {ys : List (NestedKey × Addr × Value)} {lvs : List (PyData × V)}, DVs K H xs kvs → DVs K H ys lvs → DVs K H (xs ++ ys) (kvs ++ lvs)
  | [], [], _, _, _, h => h
  | x :: xs, p :: ps, _, _, h, h' => ⟨h.1, DVs.append h.2 h'⟩
  | [], _ :: _, _, _, h, _ => h.elim
  | _ :: _, [], _, _, h, _ => h.elim
theorem DVs.put {K : PySem.W.Frag} {H : Hp} {d : PyData} {n : V} {u : Value} (r : RelV n u) : ∀ {xs : List (NestedKey × Addr × Value)} {kvs : List (PyData × V)}, DVs K H xs kvs → DVs K H (xs.map (putAt (keyD d) u)) (kvs.map fun p => if keyD p.1 = keyD d then (p.1, n) else p)
  | [], [], h => h
  | x :: xs, p :: ps, h => by
    obtain ⟨⟨h1, h2, h3, h4, h5⟩, h6⟩ := h
    refine ⟨?_, DVs.put r h6⟩
    unfold putAt
    dsimp only
    by_cases e : keyD p.1 = keyD d
    · rw [if_pos e, if_pos (h1.trans e)]
      exact ⟨h1, h2, h3, h4, r⟩
    · rw [if_neg e, if_neg (fun z => e (h1.symm.trans z))]
      exact ⟨h1, h2, h3, h4, h5⟩
  | [], _ :: _, h => h.elim
  | _ :: _, [], h => h.elim
theorem DVs.is {X : Cx} {pins : List (Addr × Obj)} {σ : St} {H : Hp} {s : Shared} (I : Inv X pins σ H s) : ∀ {xs : List (NestedKey × Addr × Value)} {kvs : List (PyData × V)}, DVs X.K H xs kvs → ∀ x ∈ xs, (nestedKind X.prog X.w).is s.heap x.1 x.2.1
  | [], [], _, x, h => absurd h (List.not_mem_nil)
  | y :: ys, p :: ps, h, x, hx => by
    rcases List.mem_cons.mp hx with rfl | hx
    · obtain ⟨⟨h1, h2, h3, h4, _⟩, _⟩ := h
      rw [h1]
      exact ⟨nkD I h4 h2 rfl, h3⟩
    · exact DVs.is I h.2 x hx
  | [], _ :: _, h, _, _ => h.elim
  | _ :: _, [], h, _, _ => h.elim
theorem DV.at {X : Cx} {pins : List (Addr × Obj)} {σ : St} {H : Hp} {s : Shared} (I : Inv X pins σ H s) {G : Addr} {xs : List (NestedKey × Addr × Value)} {kvs : List (PyData × V)} (hG : H G = some (.ext (rawD X.prog X.w G xs))) (h : DVs X.K H xs kvs) :
    (G == sysModules) = false ∧ Heap.DictOfH (nestedKind X.prog X.w) s.heap G xs := by
  obtain ⟨⟨l, o, es, ep, h1, h2, h3, h4, h5⟩, _⟩ := I.hok G _ hG
  exact ⟨l, o, es, ep, h1, h2, h3, h4, h.is I, h5⟩
/-- a key: plain, not deep -/
def KeyV (K : PySem.W.Frag) (H : Hp) (a : Addr) (d : PyData) : Prop := Dp K H (.ref a) d ∧ plainD d = true ∧ (keyD d).depth ≤ 8
theorem op_inV {X : Cx} (hu : X.A.units + 64 < cLine) : OpR X (compareOp .In) (fun x y H Q => ∃ (a G : Addr) (d : PyData) (kvs : List (PyData × V)), x = .ref a ∧ y = .ref G ∧ KeyV X.K H a d ∧ DV X.prog X.w X.K H G kvs ∧ Q (.bl (lookV kvs d).isSome) H) := fun pins s σ H x y v u Q I rx ry h => by
  obtain ⟨a, G, d, kvs, rfl, rfl, ⟨h1, h2, h3⟩, ⟨xs, hG, hx⟩, q⟩ := h
  cases rx
  cases ry
  obtain ⟨l, dd⟩ := DV.at I hG hx
  refine wpAny_in_heap (knd := nestedKind X.prog X.w) (by show X.A.units + 1 + 8 < cLine; omega) ⟨nkD I h1 h2 rfl, h3⟩ l dd ?_
  refine ⟨.bl (lookV kvs d).isSome, H, Inv.tok I _, ?_, q⟩
  rcases lookV_at hx (d := d) with ⟨e1, e2⟩ | ⟨n, b, t, e1, e2, _⟩
  · rw [e1, e2]; rfl
  · rw [e1, e2]; rfl
theorem op_notInV {X : Cx} (hu : X.A.units + 64 < cLine) : OpR X (compareOp .NotIn) (fun x y H Q => ∃ (a G : Addr) (d : PyData) (kvs : List (PyData × V)), x = .ref a ∧ y = .ref G ∧ KeyV X.K H a d ∧ DV X.prog X.w X.K H G kvs ∧ Q (.bl (!(lookV kvs d).isSome)) H) := fun pins s σ H x y v u Q I rx ry h => by
  obtain ⟨a, G, d, kvs, rfl, rfl, ⟨h1, h2, h3⟩, ⟨xs, hG, hx⟩, q⟩ := h
  cases rx
  cases ry
  obtain ⟨l, dd⟩ := DV.at I hG hx
  refine PyProof.Rows.wpAny_notIn_heap (knd := nestedKind X.prog X.w) (by show X.A.units + 1 + 8 < cLine; omega) ⟨nkD I h1 h2 rfl, h3⟩ l dd ?_
  refine ⟨.bl (!(lookV kvs d).isSome), H, Inv.tok I _, ?_, q⟩
  rcases lookV_at hx (d := d) with ⟨e1, e2⟩ | ⟨n, b, t, e1, e2, _⟩
  · rw [e1, e2]; rfl
  · rw [e1, e2]; rfl
theorem pe_dgetV {X : Cx} {o i : Expr} {pos : Pos} {td ty : TE} (hu : X.A.units + 64 < cLine) (ho : PE X o td) (hi : PE X i ty) (hs : NoSl i) :
    PE X (o.Subscript i pos) (fun σ H Q => td σ H fun x H1 => ty σ H1 fun y H2 => ∃ (a G : Addr) (d : PyData) (kvs : List (PyData × V)) (n : V), x = .ref G ∧ y = .ref a ∧ KeyV X.K H2 a d ∧ DV X.prog X.w X.K H2 G kvs ∧ lookV kvs d = some n ∧ Q n H2) := ⟨fun pins s σ H Q I h => by
  refine subD_of F.slot_dict_getitem.lookup hs (thn (ho.run pins s σ H _ I h) ?_)
  rintro u s1 ⟨x, H1, I1, rx, q1⟩
  refine thn (hi.run pins s1 σ H1 _ I1 q1) ?_
  rintro iv s2 ⟨y, H2, I2, ry, a, G, d, kvs, n, rfl, rfl, ⟨h1, h2, h3⟩, ⟨xs, hG, hx⟩, e, q2⟩
  cases rx
  cases ry
  obtain ⟨l, dd⟩ := DV.at I2 hG hx
  obtain ⟨ob, es, ep, g1, g2, g3⟩ := id dd
  refine ⟨⟨ob, g1, g2.1⟩, ?_⟩
  rcases lookV_at hx (d := d) with ⟨e1, e2⟩ | ⟨n', b, t, e1, e2, r⟩
  · rw [e] at e1
    cases e1
  · rw [e] at e1
    cases e1
    exact wpAny_getItem_heap (knd := nestedKind X.prog X.w) (by show X.A.units + 1 + 8 < cLine; omega) ⟨nkD I2 h1 h2 rfl, h3⟩ dd e2 ⟨n, H2, Inv.tok I2 _, r, q2⟩⟩
/-- d.get(k) -/
theorem pe_dget1V {X : Cx} {o e : Expr} {apos cpos : Pos} {td ty : TE} (hu : X.A.units + 64 < cLine) (ho : PE X o td) (he : PE X e ty) (m : M1 X o "get" apos e cpos) :
    PE X (.Call (.Attribute o "get" apos) [e] [] cpos) (fun σ H Q => td σ H fun x H1 => ∃ G kvs, x = .ref G ∧ DV X.prog X.w X.K H1 G kvs ∧ ty σ H1 fun y H2 => ∃ (a : Addr) (d : PyData) (kvs : List (PyData × V)), y = .ref a ∧ KeyV X.K H2 a d ∧ DV X.prog X.w X.K H2 G kvs ∧ Q ((lookV kvs d).getD .non) H2) := by
  refine ⟨fun pins s σ H Q I h => ?_⟩
  refine wpAny_Call_method m.base m.few m.line PySem.F.plainAttrs_dict PySem.F.slot_dict_get PySem.F.type_dict_get (thn (ho.run pins s σ H _ I h) fun u s1 ⟨x, H1, I1, rx, G, kvs0, ex, ⟨xs0, hG0, hx0⟩, q1⟩ => ?_)
  subst ex
  obtain rfl : u = Value.ref G := rx
  obtain ⟨l0, ob0, es0, ep0, g1, g2, g3⟩ := DV.at I1 hG0 hx0
  refine ⟨⟨ob0, g1, g2.1⟩, ?_⟩
  refine ⟨fun a ha => by cases ha; exact ⟨ob0, g1, g2.2.1⟩, ?_⟩
  rw [m.trees]
  refine Calls.callWith_builtin rfl (Calls.evalArgs_plain (Calls.spliced_cons (thn (he.run pins s1 σ H1 _ I1 q1) fun iv s2 ⟨y, H2, I2, ry, a, d, kvs, ey, ⟨h1, h2, h3⟩, ⟨xs, hG, hx⟩, q2⟩ => Calls.spliced_nil ?_)))
  subst ey
  obtain rfl : iv = Value.ref a := ry
  obtain ⟨l, dd⟩ := DV.at I2 hG hx
  refine call_meetsIn F.slot_dict_get dd.typeIs F.entry_dict_get (F.args_dict_get_2 _ _) (meetsH_dict_get (nestedKind X.prog X.w) G a l) ⟨by show X.A.units + 1 + 8 < cLine; omega, keyD d, xs, ⟨nkD I2 h1 h2 rfl, h3⟩, dd, ?_⟩
  refine ⟨(lookV kvs d).getD .non, H2, Inv.tok I2 _, ?_, q2⟩
  rcases lookV_at hx (d := d) with ⟨e1, e2⟩ | ⟨n, b, t, e1, e2, r⟩
  · rw [e1, e2]; exact rfl
  · rw [e1, e2]; exact r
theorem ext_kt {K : PySem.W.Frag} {H : Hp} {G : Addr} {o : HO} {φ : Heap → Prop} (h : H G = some (.ext φ)) : KeepT K H (upd H G o) := fun a xs hq => by
  rcases hq with (hq | ⟨o, hq⟩) | hq
  · exact .inl (.inl (by rw [upd_ne (ne_of hq h (fun z => nomatch z))]; exact hq))
  · exact .inl (.inr ⟨o, by rw [upd_ne (ne_of hq h (fun z => nomatch z))]; exact hq⟩)
  · exact .inr hq
theorem storedV {K : PySem.W.Frag} {H1 : Hp} {a : Addr} {d : PyData} {v : V} {u : Value} {xs : List (NestedKey × Addr × Value)} {kvs : List (PyData × V)} (h : KeyV K H1 a d) (r : RelV v u) (hx : DVs K H1 xs kvs) : DVs K H1 (storedH xs (keyD d) a u) (putV kvs d v) := by
  obtain ⟨h1, h2, h3⟩ := h
  unfold storedH putV
  rcases lookV_at hx (d := d) with ⟨e1, e2⟩ | ⟨n', b, t', e1, e2, _⟩
  · rw [if_neg (by rw [e2]; exact Bool.false_ne_true), if_neg (by rw [e1]; exact Bool.false_ne_true)]
    exact DVs.append hx (ys := [(keyD d, a, u)]) (lvs := [(d, v)]) ⟨⟨rfl, h2, h3, h1, r⟩, True.intro⟩
  · rw [if_pos (by rw [e2]; rfl), if_pos (by rw [e1]; rfl)]
    exact hx.put r
theorem KeyV.kt {K : PySem.W.Frag} {H H' : Hp} (k : KeepT K H H') {a : Addr} {d : PyData} (h : KeyV K H a d) : KeyV K H' a d := ⟨dp_kt k h.1 h.2.1, h.2⟩
theorem set_dictV {X : Cx} (hu : X.A.units + 64 < cLine) : PSet X (fun o i v H Q => ∃ (a G : Addr) (d : PyData) (kvs : List (PyData × V)), o = .ref G ∧ i = .ref a ∧ KeyV X.K H a d ∧ DV X.prog X.w X.K H G kvs ∧ kvs.length ≤ 1000 ∧
    ∀ H', But G H H' → KeepT X.K H H' → DV X.prog X.w X.K H' G (putV kvs d v) → Q H') := fun pins s σ H o i v ov iv u Q I ro ri rv h => by
  obtain ⟨a, G, d, kvs, rfl, rfl, hk0, ⟨xs, hG, hx⟩, hl, q⟩ := h
  obtain ⟨h1, h2, h3⟩ := id hk0
  cases ro
  cases ri
  obtain ⟨l, dd⟩ := DV.at I hG hx
  refine wpAny_setItem_heap (knd := nestedKind X.prog X.w) (by show X.A.units + 1 + 8 < cLine; omega) ⟨nkD I h1 h2 rfl, h3⟩ dd (fun h' dd' hs => ?_) (by rw [hx.len]; exact Nat.le_trans hl (by decide))
  obtain ⟨ob, es, ep, g1, g2, g3, g4, g5, g6⟩ := dd'
  have hk : KeepT X.K H (upd H G (.ext (rawD X.prog X.w G (storedH xs (keyD d) a u)))) := ext_kt hG
  exact ⟨upd H G (.ext (rawD X.prog X.w G (storedH xs (keyD d) a u))), d_write I (by rw [hG]; exact True.intro) hs ⟨ob, g1⟩ (raw_ok ⟨l, ob, es, ep, g1, g2, g3, g4, g6⟩), q _ But.upd hk ⟨_, upd_same, storedV (hk0.kt hk) rv (hx.kt hk)⟩⟩
/-- d.setdefault(k, x) -/
theorem pe_dsetdV {X : Cx} {o e f : Expr} {apos cpos : Pos} {td ty tx : TE} (hu : X.A.units + 64 < cLine) (ho : PE X o td) (he : PE X e ty) (hf : PE X f tx) (m : M2 X o "setdefault" apos e f cpos) :
    PE X (.Call (.Attribute o "setdefault" apos) [e, f] [] cpos) (fun σ H Q => td σ H fun x H1 => ∃ G kvs, x = .ref G ∧ DV X.prog X.w X.K H1 G kvs ∧ ty σ H1 fun y H2 => tx σ H2 fun z H3 => ∃ (a : Addr) (d : PyData) (kvs : List (PyData × V)), y = .ref a ∧ KeyV X.K H3 a d ∧ DV X.prog X.w X.K H3 G kvs ∧ kvs.length ≤ 1000 ∧
      (∀ v, lookV kvs d = some v → Q v H3) ∧ (lookV kvs d = none → ∀ H', But G H3 H' → KeepT X.K H3 H' → DV X.prog X.w X.K H' G (putV kvs d z) → Q z H')) := by
  refine ⟨fun pins s σ H Q I h => ?_⟩
  refine wpAny_Call_method m.base m.few m.line PySem.F.plainAttrs_dict PySem.F.slot_dict_setdefault PySem.F.type_dict_setdefault (thn (ho.run pins s σ H _ I h) fun u s1 ⟨x, H1, I1, rx, G, kvs0, ex, ⟨xs0, hG0, hx0⟩, q1⟩ => ?_)
  subst ex
  obtain rfl : u = Value.ref G := rx
  obtain ⟨l0, ob0, es0, ep0, g1, g2, g3⟩ := DV.at I1 hG0 hx0
  refine ⟨⟨ob0, g1, g2.1⟩, ?_⟩
  refine ⟨fun a ha => by cases ha; exact ⟨ob0, g1, g2.2.1⟩, ?_⟩
  rw [m.trees]
  refine Calls.callWith_builtin rfl (Calls.evalArgs_plain (Calls.spliced_cons (thn (he.run pins s1 σ H1 _ I1 q1) fun iv s2 ⟨y, H2, I2, ry, q2⟩ =>
    Calls.spliced_cons (thn (hf.run pins s2 σ H2 _ I2 q2) fun fv s3 ⟨z, H3, I3, rz, a, d, kvs, ey, hk0, ⟨xs, hG, hx⟩, hl, q3, q4⟩ => Calls.spliced_nil ?_))))
  obtain ⟨h1, h2, h3⟩ := id hk0
  subst ey
  obtain rfl : iv = Value.ref a := ry
  obtain ⟨l, dd⟩ := DV.at I3 hG hx
  refine call_setdefault_heap (knd := nestedKind X.prog X.w) (by show X.A.units + 1 + 8 < cLine; omega) ⟨nkD I3 h1 h2 rfl, h3⟩ l dd (fun p hp => ?_) (fun hn h' dd' hs => ?_) (by rw [hx.len]; exact Nat.le_trans hl (by decide))
  · rcases lookV_at hx (d := d) with ⟨e1, e2⟩ | ⟨n, b, t, e1, e2, r⟩
    · rw [e2] at hp
      cases hp
    · rw [e2] at hp
      cases hp
      exact ⟨n, H3, Inv.tok I3 _, r, q3 n e1⟩
  · obtain ⟨ob, es, ep, g1, g2, g3, g4, g5, g6⟩ := dd'
    have hk : KeepT X.K H3 (upd H3 G (.ext (rawD X.prog X.w G (storedH xs (keyD d) a fv)))) := ext_kt hG
    have e1 : lookV kvs d = none := by
      rcases lookV_at hx (d := d) with ⟨e1, e2⟩ | ⟨n, b, t, e1, e2, r⟩
      · exact e1
      · rw [e2] at hn
        cases hn
    exact ⟨z, upd H3 G (.ext (rawD X.prog X.w G (storedH xs (keyD d) a fv))), d_write I3 (by rw [hG]; exact True.intro) hs ⟨ob, g1⟩ (raw_ok ⟨l, ob, es, ep, g1, g2, g3, g4, g6⟩), rz, q4 e1 _ But.upd hk ⟨_, upd_same, storedV (hk0.kt hk) rz (hx.kt hk)⟩⟩
/-! ### d.values(), sorted of it; set(list); len of an own instance -/
def valsO (p d : Addr) : HO := .ext fun h => h.IsValuesView p d
theorem valsO_ok {P : Program} {w : World} {H : Hp} {h : Heap} {p d : Addr} (e : h.get? p = some { cls := .type "dict_values", data := .fields #[.ref d] }) : ObjOk P w H h p (valsO p d) :=
  ⟨⟨_, e, rfl, rfl⟩, ⟨_, e⟩, fun h1 h2 x k => let ⟨o, ho, r⟩ := x; ⟨o, k o ho, r⟩⟩
def rValuesK : V → List V → Hp → VK → Prop := fun x xs H Q => ∃ (a : Addr) (kvs : List (L2.Key × V)), x = .ref a ∧ xs = [] ∧ H a = some (.dK kvs) ∧ ∀ p, H p = none → Q (.ref p) (upd H p (valsO p a))
theorem mt_valuesK {X : Cx} : MtR X "dict.values" rValuesK := by
  intro pins s σ H x xs v us Q I rx rxs h
  obtain ⟨a, kvs, rfl, rfl, ha, q⟩ := h
  cases rx
  cases rxs
  obtain ⟨z, hd, vs, rel, dd⟩ := dk_of I.hok ha
  refine call_meetsIn PySem.F.slot_dict_values dd.typeIs PySem.F.entry_dict_values (PySem.F.args_dict_values_1 _) (meets_dict_values (mixKind X.prog X.w) a hd) ⟨⟨vs, dd⟩, ?_⟩
  have hf : H s.heap.objs.size = none := I.hok.fresh (Nat.le_refl _)
  exact ⟨.ref s.heap.objs.size, upd H s.heap.objs.size (valsO s.heap.objs.size a), I.laid (t' := s.toks) (fun b u e => Heap.get?_push_of_some _ e) (Nat.le_refl _) (valsO_ok (Heap.get?_push_size _ rfl)), rfl, q _ hf⟩
theorem paired_vals {κ : Type} {kvs : List (κ × V)} {vs : List (κ × Value)} (r : KV kvs vs) : Vals (kvs.map (·.2)) (vs.map (·.2)) := by
  induction r with
  | nil => exact .nil
  | cons h _ ih => exact .cons h.2 ih
section
open PySem.Spec PyProof.Rows
/-- sorted(d.values()), pairs of ints -/
def rSortVals : List V → Hp → VK → Prop := fun vs H Q => ∃ (p a : Addr) (kvs : List (L2.Key × V)) (k : V → Int × Int), vs = [V.ref p] ∧ H p = some (valsO p a) ∧ H a = some (.dK kvs) ∧
  (∀ x ∈ kvs.map (·.2), ∃ t, x = V.ref t ∧ H t = some (.tup [.int (k x).1, .int (k x).2])) ∧
  ∀ ys p', SrtO.Srtd (ltP k) ys → SrtO.Stb (ltP k) ys (kvs.map (·.2)) → H p' = none → Q (.ref p') (upd H p' (.lst ys))
theorem cr_sortVals {X : Cx} (hcalm : X.calm = true) : CallR X (.builtin "sorted") rSortVals := by
  intro pins s σ H xs us Q I r h
  obtain ⟨p, a, kvs, k, rfl, hp, ha, hx, q⟩ := h
  obtain ⟨u, rfl, ru⟩ := vals1 r
  obtain rfl : u = Value.ref p := ru
  obtain ⟨z, lo, vs, rel, dd⟩ := dk_of I.hok ha
  obtain ⟨ep, hat⟩ := dd.dictAt
  have view : s.heap.IsValuesView p a := (show ObjOk X.prog X.w H s.heap p (valsO p a) from I.hok p _ hp).1
  have rv : Vals (kvs.map (·.2)) (vs.map (·.2)) := paired_vals rel
  have hlen : vs.length = kvs.length := (KV.length rel).symm
  have hz : vs.length ≤ sizeLine := by rw [hlen]; exact z
  refine Calls.call_function_entry PyProof.Rows.kind_sorted PyProof.Rows.plain_sorted PyProof.Rows.entry_sorted (PyProof.Rows.args_sorted1 _) ?_
  unfold Builtin.«sorted»
  refine wpAny_bind (m := checkCount "sorted" 1 1 _) (wpAny_pure ?_)
  refine wpAny_bind (PySem.W.kdu_collect (A := X.A.in1) (PySem.W.kdl_values (knd := mixKind X.prog X.w) (kvs := vs) (ep := ep)) (I.ok.hd hcalm) ⟨view, hat⟩ hz fun h' tk acc hk hacc => ?_)
  have hal : acc.toList = vs.map (·.2) := PySem.W.kdl_vals_eq (kvs := vs) acc.toList (by rw [Array.length_toList, hacc.1]) fun j v e => hacc.2 j v (by rw [← Array.getElem?_toList]; exact e)
  rw [hal]
  have I1 : Inv X pins σ H { s with heap := h', toks := tk } := I.kept hk
  have hz2 : (vs.map (·.2)).length ≤ sizeLine := by rw [List.length_map]; exact hz
  refine wpAny_bind (wpAny_newList ?_ hz2)
  have hoL : (h'.push (seqObj "list" (vs.map (·.2)).toArray 0)).get? h'.objs.size = some (seqObj "list" (vs.map (·.2)).toArray 0) := Heap.get?_push_size _ rfl
  obtain ⟨e1, e2⟩ := refs_back rv fun x m => by
    obtain ⟨t, e, _⟩ := hx x m
    exact ⟨t, e⟩
  have pairs : ∀ v ∈ vs.map (·.2), Srt.IsPair (h'.push (seqObj "list" (vs.map (·.2)).toArray 0)) v (k (backV v)).1 (k (backV v)).2 := fun v hv => by
    obtain ⟨t, rfl⟩ := e2 v hv
    have hm : V.ref t ∈ kvs.map (·.2) := by rw [e1]; exact List.mem_map.mpr ⟨_, hv, rfl⟩
    obtain ⟨t', e, ht⟩ := hx _ hm
    cases e
    obtain ⟨_, its2, r2, o, ho, hc, n, hd⟩ := I1.hok _ _ ht
    obtain ⟨u1, u2, rfl, ri, rj⟩ := vals2 r2
    obtain ⟨t1, rfl⟩ := ri
    obtain ⟨t2, rfl⟩ := rj
    exact ⟨t, o, t1, t2, n, rfl, Heap.get?_push_of_some _ ho, hc, hd⟩
  show wpAny _ _ _ _ _ { s with heap := h'.push (seqObj "list" (vs.map (·.2)).toArray 0), toks := tk }
  refine wpAny_bind (wpAny_holding (wpAny_call_entry PyProof.Rows.slot_list_sort ⟨_, hoL, rfl⟩ PyProof.Rows.entry_list_sort (SrtO.list_sort_ord (SrtO.swo_lex fun u => k (backV u)) hoL hz2 (fun h2 => ?_) fun out hs hb => ⟨_, rfl, ?_⟩) (PyProof.Rows.args_list_sort _)))
  · refine SrtO.pairs_sortableO (s := { s with heap := h'.push (seqObj "list" (vs.map (·.2)).toArray 0), toks := tk }) (k := fun u => k (backV u)) (by omega) pairs fun o e => ?_
    have e' : some o = some (seqObj "list" (vs.map (·.2)).toArray 0) := e.symm.trans hoL
    cases e'
    intro c
    exact absurd (Value.type.inj c) (by decide)
  · obtain ⟨e', he'⟩ := PyProof.Rows.sortedHeap_at (vs := vs.map (·.2)) (out := out.toArray) hoL
    have h3 : ∀ u ∈ out, ∃ a, u = Value.ref a := fun u hu => e2 u (hb.perm.mem_iff.mp hu)
    have hb2 : SrtO.Stb (ltP k) (out.map backV) (kvs.map (·.2)) := by
      rw [e1]
      exact SrtO.Stb.map (ltP_swo k) backV hb
    refine wpAny_pure ⟨_, rfl, .ref h'.objs.size, upd H h'.objs.size (.lst (out.map backV)), I1.laid (t' := tk) (fun b u e => ?_) (Nat.le_refl _)
      (show ObjOk X.prog X.w _ _ _ (.lst (out.map backV)) from ⟨?_, out, e', vals_back h3, he'⟩), rfl, q _ _ (SrtO.srtd_map hs) hb2 (I1.hok.fresh (Nat.le_refl _))⟩
    · have hb : b < h'.objs.size := Heap.lt_size e
      rw [PyProof.Rows.sortedHeap_old (Nat.ne_of_lt hb) (by rw [size_push']; exact Nat.lt_succ_of_lt hb)]
      exact Heap.get?_push_of_some _ e
    · rw [hb2.len, List.length_map]
      exact z
end
section
open PySem.Spec PyProof.Rows
/-- a new empty set -/
def newSet (w : World) : Obj := { cls := .type "set", dict := none, data := .set #[] 0 (.fresh 0 0 (!w.params.followText "set-order")) }
set_option maxRecDepth 100000 in
set_option maxHeartbeats 3200000 in
/-- set(l), l a list of ints, with the order that sorted wants of it -/
theorem set_of_list {P : Program} {w : World} {A : Around} {E : Value → Shared → Prop} {s : Shared} {l : Addr} {items : Array Value} (ns : List Int) {Q : Value → Shared → Prop} (free : A.handled = none) (isl : s.heap.IsList l items) (hin : IntsAre items.toList ns) (few : ns.length + 1 < scanBound)
    (q : ∀ (h' : Heap) (tk c : Nat), SetR w h' s.heap.objs.size (fun j => decide (j ∈ ns)) c → c ≤ ns.length → (∀ b o, s.heap.get? b = some o → h'.get? b = some o) → Q (.ref s.heap.objs.size) { s with heap := h', toks := tk }) :
    wpAny (model P w) A (call (.type "set") [.ref l]) Q E s := by
  have many : items.size = ns.length := Array.length_toList.symm.trans (IntsAre.length hin)
  obtain ⟨c0, tl0, mro0⟩ := F.called_set.mro
  have made0 := F.called_set.made
  have sub0 := F.called_set.sub
  refine wpAny_call (codeAny_of_tree ?_)
  show wpAny _ _ (callAny (.type "set") _) _ _ _
  refine wpAny_pure ⟨Code.quiet_builtin _ (by decide +kernel), codeAny_builtin F.entry_type_call ?_⟩
  rw [Around.under_plain (weight_type_call_type "set" [.ref l] []) rfl]
  have nt := F.called_set.notType
  have cc := F.called_set.canCreate
  have tc := F.typeCall_set_1 (.ref l)
  repeat (any_goals (first | assumption | wp_step))
  refine codeAny_mono (code_set_led1 (.ref l) (E := E) (Q₁ := fun x s1 => x = .ref s.heap.objs.size ∧ s1 = { s with heap := s.heap.push (newSet w) }) ⟨rfl, rfl⟩) fun r s1 hr => ?_
  cases r with
  | error e => exact hr
  | ok fl =>
    cases fl with
    | ret x =>
      obtain ⟨rfl, rfl⟩ := hr
      have at0 : (s.heap.push (newSet w)).get? s.heap.objs.size = some (newSet w) := Heap.get?_push_size _ rfl
      have ty0 : Shared.TypeIs { s with heap := s.heap.push (newSet w) } (.ref s.heap.objs.size) "set" := ⟨_, at0, rfl⟩
      have li := F.called_set.init.lookup
      have bi := F.called_set.init.bind (.ref s.heap.objs.size)
      repeat (any_goals (first | assumption | wp_step))
      refine codeAny_mono (codeAny_call_builtin (R := wants (fun r s2 => r = .none ∧ ∃ h' tk c, s2 = { s with heap := h', toks := tk } ∧ SetR w h' s.heap.objs.size (fun j => decide (j ∈ ns)) c ∧ c ≤ ns.length ∧
          (∀ b o, s.heap.get? b = some o → h'.get? b = some o)) E) F.called_set.init.plain F.entry_set_init (check_set_init_1 ty0 ?_)) fun r2 s2 hr2 => ?_
      · obtain ⟨⟨oc, od, odt, osl⟩, hol, hcl, nl, hdl⟩ := isl
        simp only at hcl hdl
        subst hcl; subst hdl
        have hol' : (s.heap.push (newSet w)).get? l = some { cls := .type "list", dict := od, data := .seq items nl, slots := osl } := Heap.get?_push_of_some _ hol
        have n1 := F.sub_list_set
        have n2 := F.sub_list_frozenset
        have n3 : (Value.type "list" == Value.type "dict") = false := by decide
        have isl' : (s.heap.push (newSet w)).IsList l items := ⟨_, hol', rfl, nl, rfl⟩
        unfold Builtin.«set.__init__» noKeywords Builtin.Frozenset.updateFrom
        generalize hPI : pyIter = PI
        wp_walk
        subst hPI
        refine wpAny_pyIter_list isl' ?_
        refine wpAny_bind (wpAny_runValue ?_)
        have lS : l < s.heap.objs.size := Heap.lt_size hol
        have free3 : A.in1.in1.in1.handled = none := by simp [free]
        have sz1 : (s.heap.push (newSet w)).objs.size = s.heap.objs.size + 1 := Heap.size_push ..
        have neI : l ≠ (s.heap.push (newSet w)).objs.size := by
          rw [sz1]
          exact Nat.ne_of_lt (Nat.lt_succ_of_lt lS)
        have notS : s.heap.objs.size ∉ [(s.heap.push (newSet w)).objs.size, l] := by
          rw [sz1]
          intro z
          rcases List.mem_cons.mp z with z | z
          · exact Nat.ne_of_lt (Nat.lt_succ_self _) z
          · exact Nat.ne_of_gt lS (List.mem_singleton.mp z)
        have val : ∀ (i : Nat) (v : Value), items[i]? = some v → ∃ k t, ns[i]? = some k ∧ v = .int k t := fun i v hv => by
          have hi : i < ns.length := by rw [← many]; exact (Array.getElem?_eq_some_iff.mp hv).1
          obtain ⟨t, e⟩ := PyProof.Rows.IntsAre.int_at hin i v (by rw [Array.getElem?_toList]; exact hv)
          refine ⟨ns[i], t, List.getElem?_eq_getElem hi, ?_⟩
          rw [e, List.getD_eq_getElem?_getD, List.getElem?_eq_getElem hi] <;> rfl
        refine set_update_ints ((Walks.list free3 _ l neI items).toS) s.heap.objs.size notS ns many few val (items.size - 0) 0 _ (by omega) (Nat.zero_le _) ⟨⟨_, Heap.get?_push_size _ rfl, rfl, rfl⟩, (isl'.push _)⟩ ⟨0, Nat.le_refl 0, setR_new_at (Heap.get?_push_of_some _ at0)⟩ ?_
        rintro ⟨h', g2, d', tk', os'⟩ c' hm hc' hS'
        have eg : g2 = s.gens := hm.gens
        have ed : d' = s.drawn := hm.drawn
        have eo : os' = s.os := hm.os
        subst eg; subst ed; subst eo
        show wpAny _ _ _ _ _ _
        refine wpAny_pure ?_
        show wpAny _ _ (ret Value.none) _ _ _
        rw [many] at hc'
        refine wpAny_pure ⟨rfl, h', tk', c', rfl, hS', hc', fun b o e => ?_⟩
        have b0 : b < s.heap.objs.size := Heap.lt_size e
        refine hm.heap b o (fun z => ?_) (Heap.get?_push_of_some _ (Heap.get?_push_of_some _ e))
        rcases List.mem_cons.mp z with z | z
        · exact Nat.ne_of_lt b0 z
        · have z := List.mem_singleton.mp z
          rw [sz1] at z
          exact Nat.ne_of_lt (Nat.lt_succ_of_lt b0) z
      · cases r2 with
        | error e => exact hr2
        | ok fl2 =>
          cases fl2 with
          | ret r =>
            obtain ⟨rfl, h', tk, c', rfl, hS', hc', hk'⟩ := hr2
            repeat (any_goals (first | assumption | wp_step))
            exact q _ _ _ hS' hc' hk'
          | _ => exact hr2.elim
    | _ => exact hr.elim
/-- set(list of ints) -/
def rSetL (K : PySem.W.Frag) (w : World) : List V → Hp → VK → Prop := fun vs H Q => ∃ (l : Addr) (ns : List Int), vs = [V.ref l] ∧ SqL K H l (ns.map V.int) ∧ ns.length ≤ 1000 ∧
  ∀ p n, (∃ ks : List Int, ks.Nodup ∧ ks.length = n ∧ ∀ k, k ∈ ks ↔ k ∈ ns) → H p = none → Q (.ref p) (upd H p (SetO w p (fun k => decide (k ∈ ns)) n))
theorem cr_setL {X : Cx} (hc : X.calm = true) : CallR X (.type "set") (rSetL X.K X.w) := by
  intro pins s σ H xs us Q I r h
  obtain ⟨l, ns, rfl, hq, hl, q⟩ := h
  obtain ⟨u, rfl, ru⟩ := vals1 r
  obtain rfl : u = Value.ref l := ru
  obtain ⟨its, r, pl, hz⟩ := I.list hq
  refine set_of_list ns (I.ok.hd hc) pl.isList (by simpa using RZ.intsAre_vals r) (by unfold scanBound; omega) fun h' tk c hS hcn hk => ?_
  refine ⟨.ref s.heap.objs.size, upd H s.heap.objs.size (SetO X.w s.heap.objs.size (fun k => decide (k ∈ ns)) c), I.laid (t' := tk) hk (Nat.le_refl _) (setO_new hS), rfl, q _ c ?_ (I.hok.fresh (Nat.le_refl _))⟩
  obtain ⟨o, es, ep, t, ho, hex, hdt, g, nd, hm2, hb, hf, hn, _⟩ := hS
  exact ⟨es.toList.map keyOf, nd, by rw [List.length_map, Array.length_toList, hn], fun k => by rw [← hm2 k, decide_eq_true_eq]⟩
end
/-- a special method of the class itself -/
theorem special_K {prog : Program} {w : World} {A : Around} {E : Value → Shared → Prop} {s : Shared} {K : PySem.W.Frag} {a C f : Addr} {ox : Obj} {od : Option Obj} {name : Str} {args : List Value} {Q : Option Value → Shared → Prop} (X : K.In s.heap) (I : PySem.W.InstAt s.heap a ox C od)
    (hs : PySem.W.findIn K (.ref C) name = some (some (.ref f))) (hf : PySem.W.isFn K (.ref f) = true) (h : wpAny (model prog w) A (call (.ref f) (.ref a :: args)) (fun v => Q (some v)) E s) : wpAny (model prog w) A (callSpecial? (.ref a) name args) Q E s := by
  unfold callSpecial? specialOf
  refine wpAny_bind (wpAny_bind (I.type.here ((PySem.W.looks_findIn X hs).here ?_)))
  refine wpAny_holding (wpAny_bind ((PySem.W.bind_fn X _ (beq_iff_eq.mp hf)).here ?_))
  exact wpAny_bind (wpAny_mono h (fun v s' h' => wpAny_pure h') fun _ _ h' => h')
/-- len(o), o an instance of a class with the text's own __len__ -/
def rLenOwn (C : Addr) (sp : Sp) : List V → Hp → VK → Prop := fun vs H Q => ∃ (a dx : Addr) (fs : List (Str × V)), vs = [V.ref a] ∧ H a = some (.ins C dx fs) ∧ sp [.ref a] H (fun v H' => ∃ i : Int, v = .int i ∧ 0 ≤ i ∧ i < 2 ^ 63 ∧ Q (.int i) H') E0
theorem cr_lenOwn {X : Cx} {n : Nat} {C f : Addr} {fd : FuncData} {sp : Sp} (F : FnOk X.prog X.w X.K X.mg X.base CX0 n f fd ["self"] sp)
    (hs : PySem.W.findIn X.K (.ref C) "__len__" = some (some (.ref f))) (hf : PySem.W.isFn X.K (.ref f) = true) (hb : Binds X.K fd ["self"] []) (hr : Room (n + 1) X.A) : CallR X (.builtin "len") (rLenOwn C sp) := by
  intro pins s σ H vs us Q I r h
  obtain ⟨a, dx, fs, rfl, ha, hsp⟩ := h
  obtain ⟨u, rfl, ru⟩ := vals1 r
  obtain rfl : u = Value.ref a := ru
  obtain ⟨mA, J, _⟩ := ins_get I.hok ha
  obtain ⟨od, J, _⟩ := J.look
  have e0 : Env0 X.prog X.w X.K X.mg X.base X.A.in1 X.stack s H := by
    have e := I.env0
    exact ⟨by exact e.frames, e.mod, e.bs, e.bsz, e.funs, e.frf, e.hok, e.bare⟩
  have hl := F.len _ _ _ _ hsp
  have r2 : Vals [V.ref a] [Value.ref a] := .cons rfl .nil
  refine Calls.call_function_entry kind_len plain_len entry_len (args_len1 _) ?_
  unfold Builtin.«len»
  refine wpAny_bind (m := oneArg "len" _) (wpAny_pure ?_)
  refine wpAny_bind (m := callSpecial? (.ref a) (Str.ofString "__len__")) (special_K I.kIn J hs hf ?_)
  refine wpAny_call (codeAny_mono (F.run X.A.in1 X.stack s H ⟨[.ref a], []⟩ [.ref a] [.ref a] _ E0 hr.in1 e0 (by
    have := hb s [.ref a] I.kIn (by simpa using hl)
    simpa using this) r2 hsp) fun r s' hq => ?_)
  cases r with
  | error e => exact pass0 pins σ H s e s' I hq
  | ok fl =>
    cases fl with
    | ret w =>
      obtain ⟨z, H', I', rz, i, ez, i0, i1, q⟩ := I.after hq
      subst ez
      obtain ⟨t, rfl⟩ := rz
      refine wpAny_bind (wpAny_holding (wpAny_pure ?_))
      refine wpAny_bind (wpAny_letGo ?_)
      show wpAny _ _ (if i < 0 then _ else _) _ _ _
      rw [if_neg (by omega)]
      show wpAny _ _ (if i ≥ 2 ^ 63 then _ else _) _ _ _
      rw [if_neg (by omega)]
      exact wpAny_bind (wpAny_mkInt (wpAny_pure ⟨_, rfl, .int i, H', I'.tok _, ⟨_, rfl⟩, q⟩))
    | next => exact False.elim hq
    | brk => exact False.elim hq
    | cont => exact False.elim hq
/-- name = {k: v for ..} on one line, the name a local -/
theorem ps_setDc {X : Cx} {i : Nat} {y : Str} {py : Pos} {kx vx tg iter : Expr} {ifs : List Expr} {scope : Scope} {own : List (Str × Nat)} {pos spos : Pos} {wi : TI} {g : TG} {tt : TT} {tk tv : TE} (calm : X.calm = true) (names : X.N.Nodup) (hy : X.N[i]? = some y) (hyl : X.env.scope.names.lookup y = some .local)
    (sw : swapsWith (.DictComp kx vx [⟨tg, iter, ifs, 0⟩] scope pos) (some (.Name y py)) spos.line X.env = pure true) (hi : PI X tg iter wi) (ok : BlkOk X.N X.env.scope scope own)
    (pg : ∀ (s : Shared) (H : Hp) (C : Addr) (cl : List (Str × Addr)) (fp : List Addr), PG (X.blk s H scope (compEnvC scope cl C X.env) fp) tg g) (pt : ∀ (s : Shared) (H : Hp) (C : Addr) (cl : List (Str × Addr)) (fp : List Addr), PTs (X.blk s H scope (compEnvC scope cl C X.env) fp) ifs tt)
    (pk : ∀ (s : Shared) (H : Hp) (C : Addr) (cl : List (Str × Addr)) (fp : List Addr), PE (X.blk s H scope (compEnvC scope cl C X.env) fp) kx tk)
    (pv : ∀ (s : Shared) (H : Hp) (C : Addr) (cl : List (Str × Addr)) (fp : List Addr), PE (X.blk s H scope (compEnvC scope cl C X.env) fp) vx tv) (fold : ∀ x, foldedSetIterable iter X.env x = pure x := by intro _; rfl) :
    PS X (.Assign [.Name y py] (.DictComp kx vx [⟨tg, iter, ifs, 0⟩] scope pos) spos) (tAsg (tDc wi g tt tk tv (own.map (·.2))) (gName i)) := by
  refine ⟨fun pins s σ H D I q => ?_⟩
  rw [exec_Assign_Name_used _ _ _ _ sw]
  refine wpAny_bind (wpAny_standAt (wpAny_bind ?_))
  show wpAny _ X.A (do let _ ← comprehension (.DictComp kx vx [⟨tg, iter, ifs, 0⟩] scope pos) scope X.env (firstIterPos [⟨tg, iter, ifs, 0⟩] pos) newDict false (eval iter X.env) (some (assign (.Name y py) X.env))) _ _ s
  have q : tDc wi g tt tk tv (own.map (·.2)) σ H (fun x H1 => gName i x σ H1 D.nx) := q
  refine wpAny_bind (thn (dc_core (Qf := fun _ s1 => SP X pins D .next s1) calm names I hi ok pg pt pk pv fold q fun L C s1 m H1 I1 q1 ns f => ?_) fun _ s1 hq => wpAny_pure (wpAny_pure hq))
  show wpAny _ _ (assign (.Name y py) X.env (.ref L)) _ _ _
  refine wpAny_assign_Name (store_ok2 (v := V.ref L) I1 names hy (.inl hyl) rfl (fun s2 I2 ⟨a, sb, ha⟩ => ?_) (.inr hyl))
  obtain ⟨f0, f1, f2, f3, f4, f5⟩ := f
  have ne : C ≠ a := ha.elim (fun z => by rw [z]; exact f1) fun z e => f4 y a z e.symm
  exact ⟨m, ns.sameBut sb ne, fun h3 sb3 => ⟨_, H1, I2.turned (t' := s2.toks) (fun b o hb e => (sb3.2 b hb).trans e) f0 f1 f3 f4 f5, q1⟩⟩
theorem sw_dict {kx vx : Expr} {gs : List Comprehension} {scope : Scope} {pos py : Pos} {y : Str} {l : Nat} {env : Env} (hk : env.scope.kind = .function) (hy : env.scope.names.lookup y = some .local) (hl : (py.line == pos.line) = true)
    (ha : (scope.names.any fun (n, k) => n == y && (k == .local || k == .cell)) = false) : swapsWith (.DictComp kx vx gs scope pos) (some (.Name y py)) l env = pure true := by
  have b1 : env.kindOf y = some .local := hy
  have b2 : env.blockKind = .function := by unfold Env.blockKind; rw [hk]; rfl
  unfold swapsWith
  simp only [b2, b1, ha, Expr.pos, hl]
  rfl
section
open PySem.Spec PyProof.Rows
/-- what an iterator-less walk takes of a tuple -/
theorem collect_tupI {prog : Program} {w : World} {A : Around} {E : Value → Shared → Prop} {s : Shared} {a : Addr} {vs : List Value} {Q : List Value → Shared → Prop} (isT : s.heap.IsTuple a vs.toArray) (small : vs.length ≤ sizeLine)
    (q : Q vs { s with heap := (s.heap.push (seqObj "list" #[] 0)).update s.heap.objs.size (Obj.mapSeq (· ++ vs.toArray)) }) : wpAny (model prog w) A (collect (.ref a)) Q E s := by
  obtain ⟨ob, g1, g2, n, g3⟩ := id isT
  unfold collect
  refine wpAny_bind (wpAny_runValue (codeAny_builtin entry_proto_collect' ?_))
  show wpAny _ _ (do again (.builtin "list.__iadd__" ⟨[← newList [], .ref a], []⟩)) _ _ s
  refine wpAny_bind (wpAny_newList (wpAny_pure ⟨Code.quiet_builtin _ (by decide +kernel), codeAny_builtin entry_list_iadd' ?_⟩))
  show wpAny _ _ (Builtin.List.listExtendWith (.ref s.heap.objs.size) (.ref a) (.ref s.heap.objs.size)) _ _ { s with heap := s.heap.push (seqObj "list" #[] 0) }
  unfold Builtin.List.listExtendWith
  have g1' : (s.heap.push (seqObj "list" #[] 0)).get? a = some ob := Heap.get?_push_of_some _ g1
  refine wpAny_bind (wpAny_typeOf (T := "tuple") ⟨ob, g1', g2⟩ ?_)
  have e1 : (Value.type "tuple" == Value.type "tuple") = true := by rfl
  rw [if_pos (by rw [e1]; simp)]
  refine wpAny_bind (listItems_at g1' g3 ?_)
  refine wpAny_bind (listItems_at (xs := #[]) (n := 0) (Heap.get?_push_size _ rfl) rfl ?_)
  rw [if_neg (by simp)]
  refine wpAny_bind (listUpdate_at (xs := #[]) (n := 0) (Heap.get?_push_size _ rfl) rfl ?_ (Nat.zero_le _) (by show (#[] ++ vs.toArray).size ≤ sizeLine + 1; simp only [Array.size_append, List.size_toArray, List.length_nil]; omega))
  refine wpAny_pure ?_
  refine wpAny_bind (wpAny_load (get?_update_seq (Heap.get?_push_size _ rfl) _) ?_)
  show wpAny _ _ (pure ((#[] : Array Value) ++ vs.toArray).toList) Q E _
  rw [show ((#[] : Array Value) ++ vs.toArray).toList = vs by simp]
  exact wpAny_pure q
/-- sorted(t), t a tuple of whole numbers -/
def rSortTI (K : PySem.W.Frag) : List V → Hp → VK → Prop := fun vs H Q => ∃ (a : Addr) (ns : List Int), vs = [V.ref a] ∧ SqT K H a (ns.map V.int) ∧ ns.length < 64 ∧ ∀ (ys : List Int) (p : Addr), ys.Perm ns → ys.Pairwise (· ≤ ·) → H p = none → Q (.ref p) (upd H p (.lst (ys.map V.int)))
theorem cr_sortTI {X : Cx} : CallR X (.builtin "sorted") (rSortTI X.K) := by
  intro pins s σ H xs us Q I r h
  obtain ⟨a, ns, rfl, hq, h64, q⟩ := h
  obtain ⟨u, rfl, ru⟩ := vals1 r
  obtain rfl : u = Value.ref a := ru
  obtain ⟨its, rv, pt, hz⟩ := I.tuple hq
  have hi : IntsAre its ns := ints_of_vals rv
  have hl : its.length = ns.length := by rw [← rv.length, List.length_map]
  refine Calls.call_function_entry PyProof.Rows.kind_sorted PyProof.Rows.plain_sorted PyProof.Rows.entry_sorted (PyProof.Rows.args_sorted1 _) ?_
  unfold Builtin.«sorted»
  refine wpAny_bind (m := checkCount "sorted" 1 1 _) (wpAny_pure ?_)
  have hz2 : its.length ≤ sizeLine := by rw [hl, sizeLine_eq]; omega
  refine wpAny_bind (collect_tupI (show s.heap.IsTuple a its.toArray from pt) hz2 ?_)
  have kept : ∀ b o, s.heap.get? b = some o → ((s.heap.push (seqObj "list" #[] 0)).update s.heap.objs.size (Obj.mapSeq (· ++ its.toArray))).get? b = some o := fun b o e => by
    rw [Heap.get?_update_ne _ _ _ _ (Nat.ne_of_lt (Heap.lt_size e))]
    exact Heap.get?_push_of_some _ e
  have I1 : Inv X pins σ H { s with heap := (s.heap.push (seqObj "list" #[] 0)).update s.heap.objs.size (Obj.mapSeq (· ++ its.toArray)) } := I.kept (t' := s.toks) kept
  generalize (s.heap.push (seqObj "list" #[] 0)).update s.heap.objs.size (Obj.mapSeq (· ++ its.toArray)) = h1 at *
  refine wpAny_bind (wpAny_newList ?_ hz2)
  have at0 : (h1.push (seqObj "list" its.toArray 0)).get? h1.objs.size = some (seqObj "list" its.toArray 0) := Heap.get?_push_size _ rfl
  show wpAny _ _ _ _ _ { s with heap := h1.push (seqObj "list" its.toArray 0) }
  refine wpAny_bind (wpAny_holding (wpAny_call_entry PyProof.Rows.slot_list_sort ⟨_, at0, rfl⟩ PyProof.Rows.entry_list_sort
    (PyProof.Rows.list_sort_tree (s := { s with heap := h1.push (seqObj "list" its.toArray 0) }) at0 hi (by rw [hl]; exact h64) fun out ys g1 g2 g3 => ⟨_, rfl, ?_⟩) (PyProof.Rows.args_list_sort _)))
  obtain ⟨e', he'⟩ := PyProof.Rows.sortedHeap_at (vs := its) (out := out) at0
  have few : (ys.map V.int).length ≤ sizeLine := by
    rw [List.length_map, g2.length_eq, sizeLine_eq]
    omega
  refine wpAny_pure ⟨_, rfl, .ref h1.objs.size, upd H h1.objs.size (.lst (ys.map V.int)), I1.laid (t' := s.toks) (fun b u e => ?_) (Nat.le_refl _)
    (show ObjOk X.prog X.w _ _ _ (.lst (ys.map V.int)) from ⟨few, out.toList, e', vals_of_ints g1, by rw [Array.toArray_toList]; exact he'⟩), rfl, q ys _ g2 g3 (I1.hok.fresh (Nat.le_refl _))⟩
  have lb : b < h1.objs.size := Heap.lt_size e
  rw [PyProof.Rows.sortedHeap_old (Nat.ne_of_lt lb) (by rw [size_push']; exact Nat.lt_succ_of_lt lb)]
  exact Heap.get?_push_of_some _ e
end
/-! ### terms: forms, tables, what the makers make -/
inductive Fm
  | num (n : Int)
  | var (k : PyData)
  | sum (n : Int) (ps : List (Nat × Int))
  | op (k : Bk) (ids : List Nat)
  | pick (ids : List Nat)
structure Tb where
  fs : List Fm
  sp : List (Int × Int)
  md : List ((Bk × List Nat) × Nat)
  vs : List (PyData × Int × Int)
def Tb.lo (T : Tb) (i : Nat) : Int := (T.sp.getD i (0, 0)).1
def Tb.hi (T : Tb) (i : Nat) : Int := (T.sp.getD i (0, 0)).2
def Tb.fm (T : Tb) (i : Nat) : Fm := T.fs.getD i (.num 0)
def sumOf (T : Tb) (i : Nat) : Int × List (Nat × Int) := match T.fm i with
  | .num n => (n, [])
  | .sum n ps => (n, ps)
  | _ => (0, [(i, 1)])
def fos (T : Tb) (n : Int) : List (Nat × Int) → Fm
  | [(u, c)] => if n = 0 ∧ c = 1 then T.fm u else .sum n [(u, c)]
  | ps => .sum n ps
def putP : List (Nat × Int) → Nat → Int → List (Nat × Int)
  | [], u, c => [(u, c)]
  | p :: r, u, c => if p.1 = u then (u, c) :: r else p :: putP r u c
def getP : List (Nat × Int) → Nat → Int
  | [], _ => 0
  | p :: r, u => if p.1 = u then p.2 else getP r u
def mergeP : List (Nat × Int) → Int → List (Nat × Int) → List (Nat × Int)
  | l, _, [] => l
  | l, s, q :: qs => mergeP (putP l q.1 (getP l q.1 + s * q.2)) s qs
def cancP : Bool → List (Nat × Int) → Int → List (Nat × Int) → Bool
  | c, _, _, [] => c
  | c, l, s, q :: qs => cancP (c || decide (getP l q.1 * s * q.2 < 0)) (putP l q.1 (getP l q.1 + s * q.2)) s qs
def insP (p : Nat × Int) : List (Nat × Int) → List (Nat × Int)
  | [] => [p]
  | q :: r => if p.1 < q.1 then p :: q :: r else q :: insP p r
def sortP : List (Nat × Int) → List (Nat × Int)
  | [] => []
  | p :: r => insP p (sortP r)
def insS (a : Nat) : List Nat → List Nat
  | [] => [a]
  | b :: r => if a < b then a :: b :: r else if a = b then b :: r else b :: insS a r
def sortS : List Nat → List Nat
  | [] => []
  | a :: r => insS a (sortS r)
def sort2 (a b : Nat) : List Nat := if b < a then [b, a] else [a, b]
def cLo (T : Tb) (u : Nat) (c : Int) : Int := lst (corn c c (T.lo u) (T.hi u))
def cHi (T : Tb) (u : Nat) (c : Int) : Int := grt (corn c c (T.lo u) (T.hi u))
def canc (T : Tb) (n : Int) (ps : List (Nat × Int)) : Fm × Int × Int :=
  (fos T n (ps.filter fun p => decide (p.2 ≠ 0)), n + ((ps.filter fun p => decide (p.2 ≠ 0)).map fun p => cLo T p.1 p.2).sum, n + ((ps.filter fun p => decide (p.2 ≠ 0)).map fun p => cHi T p.1 p.2).sum)
def plusF (T : Tb) (a b : Nat) (s : Int) : Fm × Int × Int :=
  if cancP false (sumOf T a).2 s (sumOf T b).2 = true then canc T ((sumOf T a).1 + s * (sumOf T b).1) (sortP (mergeP (sumOf T a).2 s (sumOf T b).2))
  else (fos T ((sumOf T a).1 + s * (sumOf T b).1) (sortP (mergeP (sumOf T a).2 s (sumOf T b).2)), T.lo a + cLo T b s, T.hi a + cHi T b s)
def timesF (T : Tb) (a : Nat) (y : Int) : Fm × Int × Int := (fos T (y * (sumOf T a).1) ((sumOf T a).2.map fun p => (p.1, y * p.2)), cLo T a y, cHi T a y)
def known (T : Tb) (a : Nat) : Fm × Int × Int := (T.fm a, T.lo a, T.hi a)
def settled (n : Int) : Fm × Int × Int := (.num n, n, n)
def mulF (T : Tb) (a b : Nat) : Fm × Int × Int :=
  if T.lo a = T.hi a then timesF T b (T.lo a) else if T.lo b = T.hi b then timesF T a (T.lo b)
  else (.op .mul (sort2 a b), lst (corn (T.lo a) (T.hi a) (T.lo b) (T.hi b)), grt (corn (T.lo a) (T.hi a) (T.lo b) (T.hi b)))
def isNum (T : Tb) (i : Nat) : Bool := match T.fm i with
  | .num _ => true
  | _ => false
def numOf (T : Tb) (i : Nat) : Int := match T.fm i with
  | .num n => n
  | _ => 0
def memb (T : Tb) (k : Bk) (t : Nat) : List Nat := match T.fm t with
  | .op k' is => if k' = k then is else [t]
  | _ => [t]
open Classical in
noncomputable def posF (fs : List Fm) (f : Fm) : Option Nat := fs.findIdx? fun g => decide (g = f)
noncomputable def placeT (T : Tb) (f : Fm) (l h : Int) : Tb × Nat := match posF T.fs f with
  | some i => (T, i)
  | none => ({ T with fs := T.fs ++ [f], sp := T.sp ++ [(l, h)] }, T.fs.length)
noncomputable def numberT (T : Tb) (n : Int) : Tb × Nat := placeT T (.num n) n n
/-- members, numbers joined -/
noncomputable def joined (T : Tb) (k : Bk) (mem : List Nat) : Tb × List Nat :=
  if 1 < (mem.filter (isNum T)).length then ((numberT T (ptK k (((mem.filter (isNum T)).map (numOf T)).take 2))).1, mem.filter (fun m => !isNum T m) ++ [(numberT T (ptK k (((mem.filter (isNum T)).map (numOf T)).take 2))).2]) else (T, mem)
def foldK (k : Bk) (f : Nat → Int) : Int → List Nat → Int
  | x, [] => x
  | x, m :: r => foldK k f (ptK k [x, f m]) r
def extF (T : Tb) (k : Bk) : List Nat → Fm × Int × Int
  | [] => settled 0
  | [m] => known T m
  | m :: r => (.op k (m :: r), foldK k T.lo (T.lo m) r, foldK k T.hi (T.hi m) r)
def lessF (T : Tb) (a b : Nat) : Fm × Int × Int :=
  if T.hi a < T.lo b then settled 1 else if T.lo a ≥ T.hi b ∨ a = b then settled 0 else (.op .less [a, b], 0, 1)
def equalF (T : Tb) (a b : Nat) : Fm × Int × Int :=
  if a = b then settled 1 else if T.hi a < T.lo b ∨ T.hi b < T.lo a then settled 0 else (.op .equal (sort2 a b), 0, 1)
def clampF (T : Tb) (l h : Int) (a : Nat) : Fm × Int × Int :=
  if l ≤ T.lo a ∧ T.hi a ≤ h then known T a else (.op (.clamp l h) [a], lim (T.lo a) l h, lim (T.hi a) l h)
def shiftF (T : Tb) (n a : Nat) : Fm × Int × Int := (.op (.shift n) [a], shf (T.lo a) n, shf (T.hi a) n)
def whereF (T : Tb) (c a b : Nat) : Fm × Int × Int :=
  if T.lo c > 0 ∨ T.hi c < 0 ∨ a = b then known T a else if T.lo c = T.hi c then known T b else (.op .wher [c, a, b], mn (T.lo a) (T.lo b), mx (T.hi a) (T.hi b))
noncomputable def mkForm (T : Tb) : Bk → List Nat → Tb × Fm × Int × Int
  | .add, [a, b] => (T, plusF T a b 1)
  | .sub, [a, b] => (T, plusF T a b (-1))
  | .mul, [a, b] => (T, mulF T a b)
  | .max, [a, b] => ((joined T .max (memb T .max a ++ memb T .max b)).1, extF (joined T .max (memb T .max a ++ memb T .max b)).1 .max (sortS (joined T .max (memb T .max a ++ memb T .max b)).2))
  | .min, [a, b] => ((joined T .min (memb T .min a ++ memb T .min b)).1, extF (joined T .min (memb T .min a ++ memb T .min b)).1 .min (sortS (joined T .min (memb T .min a ++ memb T .min b)).2))
  | .less, [a, b] => (T, lessF T a b)
  | .equal, [a, b] => (T, equalF T a b)
  | .neg, [a] => (T, timesF T a (-1))
  | .clamp l h, [a] => (T, clampF T l h a)
  | .shift n, [a] => (T, shiftF T n a)
  | .wher, [c, a, b] => (T, whereF T c a b)
  | _, _ => (T, settled 0)
/-- a number where the interval is one, else its place -/
noncomputable def putT (T : Tb) (f : Fm) (l h : Int) : Tb × Nat := if l = h then numberT T l else placeT T f l h
noncomputable def makeT (T : Tb) (k : Bk) (ids : List Nat) : Tb × Nat := match T.md.lookup (k, ids) with
  | some i => (T, i)
  | none => ({ (putT (mkForm T k ids).1 (mkForm T k ids).2.1 (mkForm T k ids).2.2.1 (mkForm T k ids).2.2.2).1 with md := (putT (mkForm T k ids).1 (mkForm T k ids).2.1 (mkForm T k ids).2.2.1 (mkForm T k ids).2.2.2).1.md ++ [((k, ids), (putT (mkForm T k ids).1 (mkForm T k ids).2.1 (mkForm T k ids).2.2.1 (mkForm T k ids).2.2.2).2)] }, (putT (mkForm T k ids).1 (mkForm T k ids).2.1 (mkForm T k ids).2.2.1 (mkForm T k ids).2.2.2).2)
/-! ### what a form means -/
def parts : Fm → List Nat
  | .sum _ ps => ps.map (·.1)
  | .op _ ids => ids
  | .pick ids => ids
  | _ => []
def opV : Bk → List Int → Int
  | .max, xs => grt xs
  | .min, xs => lst xs
  | k, xs => ptK k xs
def fmV (ρ : PyData → Int) (v : Nat → Int) : Fm → Int
  | .num n => n
  | .var k => ρ k
  | .sum n ps => n + (ps.map fun p => p.2 * v p.1).sum
  | .op k ids => opV k (ids.map v)
  | .pick ids => (ids.map v).getD ((ids.map v).getLastD 0).toNat 0
theorem fmV_congr {ρ : PyData → Int} {v u : Nat → Int} {f : Fm} (h : ∀ p ∈ parts f, u p = v p) : fmV ρ u f = fmV ρ v f := by
  have mc : ∀ ids : List Nat, (∀ p ∈ ids, u p = v p) → ids.map u = ids.map v := fun ids h => List.map_congr_left h
  cases f with
  | num n => rfl
  | var k => rfl
  | sum n ps =>
    show n + _ = n + _
    congr 2
    exact List.map_congr_left fun p hp => by rw [h p.1 (List.mem_map.mpr ⟨p, hp, rfl⟩)]
  | op k ids =>
    show opV k _ = opV k _
    rw [mc ids h]
  | pick ids =>
    show (ids.map u).getD _ 0 = _
    rw [mc ids h]
    rfl
def Small (T : Tb) (i : Nat) : Prop := Bg 200 (T.lo i) ∧ Bg 200 (T.hi i)
/-- what a form must be to stand in a table -/
structure FOk (b : Nat) (T : Tb) (f : Fm) : Prop where
  pa : ∀ p ∈ parts f, p < T.fs.length
  nu : ∀ n, f = .num n → Bg b n
  su : ∀ n ps, f = .sum n ps → (ps.map (·.1)).Nodup ∧ Bg b n ∧ ∀ p ∈ ps, Bg b p.2 ∧ Small T p.1
  ar : ∀ k ids, f = .op k ids → k ≠ .max → k ≠ .min → ids.length = k.ar
  ex : ∀ k ids, f = .op k ids → k = .max ∨ k = .min → ids ≠ [] ∧ (ids.filter (isNum T)).length ≤ 1 ∧ ids.Nodup
  sh : ∀ n ids, f = .op (.shift n) ids → 1 ≤ n ∧ n ≤ 30
  pk : ∀ ids, f = .pick ids → 2 ≤ ids.length ∧ ids.length ≤ 900 ∧ 0 ≤ T.lo (ids.getLastD 0) ∧ T.hi (ids.getLastD 0) < (ids.length : Int) - 1
  vk : ∀ k, f = .var k → plainD k = true ∧ (keyD k).depth ≤ 7
structure Wf (b : Nat) (T : Tb) : Prop where
  len : T.sp.length = T.fs.length
  nd : T.fs.Nodup
  fo : ∀ i f, T.fs[i]? = some f → FOk b T f ∧ ∀ p ∈ parts f, p < i
  sb : ∀ p ∈ T.sp, Bg b p.1 ∧ Bg b p.2
  md : ∀ e ∈ T.md, e.2 < T.fs.length ∧ ∀ p ∈ e.1.2, p < T.fs.length
structure Sem (T : Tb) (ρ : PyData → Int) (v : Nat → Int) : Prop where
  at_ : ∀ i f, T.fs[i]? = some f → v i = fmV ρ v f
  iv : ∀ i, i < T.fs.length → T.lo i ≤ v i ∧ v i ≤ T.hi i
  md : ∀ e ∈ T.md, v e.2 = ptK e.1.1 (e.1.2.map v)
/-- a table goes on -/
structure Ext (T T' : Tb) : Prop where
  fs : ∃ l, T'.fs = T.fs ++ l
  sp : ∃ l, T'.sp = T.sp ++ l
theorem Ext.refl (T : Tb) : Ext T T := ⟨⟨[], (List.append_nil _).symm⟩, ⟨[], (List.append_nil _).symm⟩⟩
theorem Ext.trans {T T1 T2 : Tb} (a : Ext T T1) (b : Ext T1 T2) : Ext T T2 := by
  obtain ⟨⟨l, e⟩, ⟨m, g⟩⟩ := a
  obtain ⟨⟨l', e'⟩, ⟨m', g'⟩⟩ := b
  exact ⟨⟨l ++ l', by rw [e', e, List.append_assoc]⟩, ⟨m ++ m', by rw [g', g, List.append_assoc]⟩⟩
theorem Ext.len {T T' : Tb} (a : Ext T T') : T.fs.length ≤ T'.fs.length := by
  obtain ⟨⟨l, e⟩, _⟩ := a
  rw [e, List.length_append]
  omega
theorem Ext.at_ {T T' : Tb} (a : Ext T T') {i : Nat} {f : Fm} (h : T.fs[i]? = some f) : T'.fs[i]? = some f := by
  obtain ⟨⟨l, e⟩, _⟩ := a
  rw [e, List.getElem?_append_left (List.getElem?_eq_some_iff.mp h).1, h]
theorem Ext.fm {T T' : Tb} (a : Ext T T') {i : Nat} (h : i < T.fs.length) : T'.fm i = T.fm i := by
  have h1 : T.fs[i]? = some T.fs[i] := List.getElem?_eq_getElem h
  unfold Tb.fm
  rw [List.getD_eq_getElem?_getD, List.getD_eq_getElem?_getD, a.at_ h1, h1]
theorem Ext.span {T T' : Tb} (a : Ext T T') {i : Nat} (h : i < T.sp.length) : T'.sp.getD i (0, 0) = T.sp.getD i (0, 0) := by
  obtain ⟨_, ⟨l, e⟩⟩ := a
  rw [List.getD_eq_getElem?_getD, List.getD_eq_getElem?_getD, e, List.getElem?_append_left h]
theorem Ext.lo {T T' : Tb} (a : Ext T T') {i : Nat} (h : i < T.sp.length) : T'.lo i = T.lo i := by
  unfold Tb.lo
  rw [a.span h]
theorem Ext.hi {T T' : Tb} (a : Ext T T') {i : Nat} (h : i < T.sp.length) : T'.hi i = T.hi i := by
  unfold Tb.hi
  rw [a.span h]
theorem fm_at {T : Tb} {i : Nat} (h : i < T.fs.length) : T.fs[i]? = some (T.fm i) := by
  unfold Tb.fm
  rw [List.getD_eq_getElem?_getD, List.getElem?_eq_getElem h]
  rfl
theorem sp_at {T : Tb} {i : Nat} (h : i < T.sp.length) : T.sp[i]? = some (T.lo i, T.hi i) := by
  unfold Tb.lo Tb.hi
  rw [List.getD_eq_getElem?_getD, List.getElem?_eq_getElem h]
  rfl
theorem FOk.mono {b c : Nat} {T T' : Tb} {f : Fm} (h : FOk b T f) (hl : T.sp.length = T.fs.length) (e : Ext T T') (bc : b ≤ c) : FOk c T' f where
  pa := fun p hp => Nat.lt_of_lt_of_le (h.pa p hp) e.len
  nu := fun n hf => (h.nu n hf).mono bc
  su := fun n ps hf => by
    obtain ⟨h1, h2, h3⟩ := h.su n ps hf
    refine ⟨h1, h2.mono bc, fun p hp => ⟨(h3 p hp).1.mono bc, ?_⟩⟩
    have hlt : p.1 < T.fs.length := h.pa p.1 (by rw [hf]; exact List.mem_map.mpr ⟨p, hp, rfl⟩)
    unfold Small
    rw [e.lo (by rw [hl]; exact hlt), e.hi (by rw [hl]; exact hlt)]
    exact (h3 p hp).2
  ar := h.ar
  ex := fun k ids hf hk => by
    obtain ⟨h1, h2, h3⟩ := h.ex k ids hf hk
    refine ⟨h1, ?_, h3⟩
    have : ids.filter (isNum T') = ids.filter (isNum T) := List.filter_congr fun p hp => by
      unfold isNum
      rw [e.fm (h.pa p (by rw [hf]; exact hp))]
    rw [this]
    exact h2
  sh := h.sh
  pk := fun ids hf => by
    obtain ⟨h1, h9, h2, h3⟩ := h.pk ids hf
    have hm : ids.getLastD 0 ∈ ids := by
      cases ids with
      | nil => simp at h1
      | cons a r =>
        rw [List.getLastD_cons]
        exact List.getLastD_mem_cons ..
    have hlt : ids.getLastD 0 < T.sp.length := by
      rw [hl]
      exact h.pa _ (by rw [hf]; exact hm)
    rw [e.lo hlt, e.hi hlt]
    exact ⟨h1, h9, h2, h3⟩
  vk := h.vk
/-! ### numbers -/
theorem bg_zero (n : Nat) : Bg n 0 := by
  unfold Bg
  exact Nat.pow_pos (by decide)
theorem bg_one {n : Nat} (h : 1 ≤ n) : Bg n 1 := Bg.mono (n := 1) (by unfold Bg; decide) h
theorem bg_neg {n : Nat} {x : Int} (h : Bg n x) : Bg n (-x) := by
  unfold Bg at *
  rw [Int.natAbs_neg]
  exact h
theorem sum_abs {m : Nat} : ∀ {xs : List Int}, (∀ v ∈ xs, Bg m v) → xs.sum.natAbs ≤ xs.length * 2 ^ m
  | [], _ => Nat.zero_le _
  | x :: xs, h => by
    have ih := sum_abs fun v hv => h v (List.mem_cons_of_mem _ hv)
    have hx : x.natAbs < 2 ^ m := h x List.mem_cons_self
    rw [List.sum_cons, List.length_cons, Nat.succ_mul]
    omega
theorem sum_bg64 {m : Nat} {xs : List Int} (h : ∀ v ∈ xs, Bg m v) (hl : xs.length ≤ 64) : Bg (m + 7) xs.sum := by
  unfold Bg
  have h1 := sum_abs h
  have h2 : xs.length * 2 ^ m ≤ 64 * 2 ^ m := Nat.mul_le_mul_right _ hl
  have h3 : 2 ^ (m + 7) = 2 ^ m * 128 := by rw [Nat.pow_add]
  have h4 : 0 < 2 ^ m := Nat.pow_pos (by decide)
  omega
theorem ediv_bg {n : Nat} {y d : Int} (h : Bg n y) (hd : 1 ≤ d) : Bg n (y / d) := by
  unfold Bg at *
  have hB : ((y.natAbs : Nat) : Int) ≤ (y.natAbs : Int) * d := by
    have := Int.mul_le_mul_of_nonneg_left hd (show (0 : Int) ≤ (y.natAbs : Int) by omega)
    rw [Int.mul_one] at this
    exact this
  have h1 : y / d ≤ (y.natAbs : Int) := Int.ediv_le_of_le_mul (by omega) (by omega)
  have h2 : -(y.natAbs : Int) ≤ y / d := Int.le_ediv_of_mul_le (by omega) (by rw [Int.neg_mul]; omega)
  omega
theorem shf_bg {n m : Nat} {x : Int} (h : Bg n x) (hn : 40 ≤ n) (h2 : m ≤ 30) : Bg (n + 1) (shf x m) := by
  unfold shf
  have hp : (1 : Int) ≤ 2 ^ m := by
    have h0 : (0 : Int) < 2 ^ m := Int.pow_pos (by decide)
    omega
  refine ediv_bg ?_ hp
  refine Bg.add h (Bg.mono (n := 40) ?_ hn)
  unfold Bg
  have e : ((2 : Int) ^ (m - 1)).natAbs = 2 ^ (m - 1) := by rw [Int.natAbs_pow]; rfl
  rw [e]
  exact Nat.pow_lt_pow_right (by decide) (by omega)
theorem shf_mono {x y : Int} (n : Nat) (k : x ≤ y) : shf x n ≤ shf y n := by
  unfold shf
  exact Int.ediv_le_ediv (Int.pow_pos (by decide)) (by omega)
theorem lim_mono {x y lo hi : Int} (h : lo ≤ hi) (k : x ≤ y) : lim x lo hi ≤ lim y lo hi := by
  unfold lim
  split <;> split <;> (try split) <;> (try split) <;> omega
/-- products lie between the corners -/
theorem corn_in {l h p q x y : Int} (h1 : l ≤ x) (h2 : x ≤ h) (h3 : p ≤ y) (h4 : y ≤ q) : lst (corn l h p q) ≤ x * y ∧ x * y ≤ grt (corn l h p q) := by
  have m1 : l * p ∈ corn l h p q := by unfold corn; simp
  have m2 : l * q ∈ corn l h p q := by unfold corn; simp
  have m3 : h * p ∈ corn l h p q := by unfold corn; simp
  have m4 : h * q ∈ corn l h p q := by unfold corn; simp
  -- x * y between x * p and x * q; these between the corners
  have up : ∀ a : Int, l ≤ a → a ≤ h → ∀ z : Int, (a * z ≤ l * z ∨ a * z ≤ h * z) ∧ (l * z ≤ a * z ∨ h * z ≤ a * z) := fun a ha hb z => by
    rcases Int.le_total 0 z with hz | hz
    · exact ⟨.inr (Int.mul_le_mul_of_nonneg_right hb hz), .inl (Int.mul_le_mul_of_nonneg_right ha hz)⟩
    · exact ⟨.inl (Int.mul_le_mul_of_nonpos_right ha hz), .inr (Int.mul_le_mul_of_nonpos_right hb hz)⟩
  have uq : (x * y ≤ x * p ∨ x * y ≤ x * q) ∧ (x * p ≤ x * y ∨ x * q ≤ x * y) := by
    rcases Int.le_total 0 x with hz | hz
    · exact ⟨.inr (Int.mul_le_mul_of_nonneg_left h4 hz), .inl (Int.mul_le_mul_of_nonneg_left h3 hz)⟩
    · exact ⟨.inl (Int.mul_le_mul_of_nonpos_left hz h3), .inr (Int.mul_le_mul_of_nonpos_left hz h4)⟩
  have a1 := lst_le _ _ m1
  have a2 := lst_le _ _ m2
  have a3 := lst_le _ _ m3
  have a4 := lst_le _ _ m4
  have b1 := le_grt _ _ m1
  have b2 := le_grt _ _ m2
  have b3 := le_grt _ _ m3
  have b4 := le_grt _ _ m4
  have ep := up x h1 h2 p
  have eq := up x h1 h2 q
  omega
theorem corn_bg {b c : Nat} {l h p q : Int} (h1 : Bg b l) (h2 : Bg b h) (h3 : Bg c p) (h4 : Bg c q) : Bg (b + c) (lst (corn l h p q)) ∧ Bg (b + c) (grt (corn l h p q)) := by
  have all : ∀ x ∈ corn l h p q, Bg (b + c) x := fun x hx => by
    unfold corn at hx
    simp only [List.mem_cons, List.not_mem_nil, or_false] at hx
    rcases hx with rfl | rfl | rfl | rfl
    · exact h1.mul h3
    · exact h1.mul h4
    · exact h2.mul h3
    · exact h2.mul h4
  exact ⟨all _ (lst_mem _ (by unfold corn; exact List.cons_ne_nil _ _)), all _ (grt_mem _ (by unfold corn; exact List.cons_ne_nil _ _))⟩
/-! ### a place in the table -/
theorem Wf.fok {b : Nat} {T : Tb} (W : Wf b T) {i : Nat} (h : i < T.fs.length) : FOk b T (T.fm i) ∧ ∀ p ∈ parts (T.fm i), p < i := W.fo i _ (fm_at h)
theorem Wf.spb {b : Nat} {T : Tb} (W : Wf b T) {i : Nat} (h : i < T.fs.length) : Bg b (T.lo i) ∧ Bg b (T.hi i) := W.sb _ (List.mem_of_getElem? (sp_at (by rw [W.len]; exact h)))
theorem Wf.mono {b c : Nat} {T : Tb} (W : Wf b T) (h : b ≤ c) : Wf c T where
  len := W.len
  nd := W.nd
  fo := fun i f hf => ⟨(W.fo i f hf).1.mono W.len (Ext.refl T) h, (W.fo i f hf).2⟩
  sb := fun p hp => ⟨(W.sb p hp).1.mono h, (W.sb p hp).2.mono h⟩
  md := W.md
theorem posF_some {fs : List Fm} {f : Fm} {i : Nat} (h : posF fs f = some i) : fs[i]? = some f := by
  unfold posF at h
  obtain ⟨hi, h1, _⟩ := List.findIdx?_eq_some_iff_getElem.mp h
  rw [List.getElem?_eq_getElem hi]
  exact congrArg some (by simpa using h1)
theorem posF_none {fs : List Fm} {f : Fm} (h : posF fs f = none) : f ∉ fs := fun hm => by
  unfold posF at h
  rw [List.findIdx?_eq_none_iff] at h
  exact absurd (h f hm) (by simp)
theorem posF_at {fs : List Fm} {f : Fm} {i : Nat} (nd : fs.Nodup) (h : fs[i]? = some f) : posF fs f = some i := by
  cases e : posF fs f with
  | none => exact absurd (List.mem_of_getElem? h) (posF_none e)
  | some j =>
    have hj := posF_some e
    obtain ⟨hi, hi2⟩ := List.getElem?_eq_some_iff.mp h
    obtain ⟨hj1, hj2⟩ := List.getElem?_eq_some_iff.mp hj
    rw [(List.getElem_inj nd).mp (hj2.trans hi2.symm)]
theorem nodup_snoc {α : Type} {l : List α} {a : α} (h : l.Nodup) (n : a ∉ l) : (l ++ [a]).Nodup := by
  rw [List.nodup_append]
  refine ⟨h, List.nodup_cons.mpr ⟨List.not_mem_nil, List.nodup_nil⟩, fun x hx y hy => ?_⟩
  rw [List.mem_singleton.mp hy]
  intro e
  rw [e] at hx
  exact n hx
/-- what a new place is -/
structure Placed (b : Nat) (T : Tb) (f : Fm) (l h : Int) (R : Tb × Nat) : Prop where
  wf : Wf b R.1
  ext : Ext T R.1
  lt : R.2 < R.1.fs.length
  one : R.1.fs.length ≤ T.fs.length + 1
  md : R.1.md = T.md
  vs : R.1.vs = T.vs
  at_ : R.1.fs[R.2]? = some f
  sem : ∀ ρ v, Sem T ρ v → l ≤ fmV ρ v f → fmV ρ v f ≤ h → ∃ u, Sem R.1 ρ u ∧ (∀ i, i < T.fs.length → u i = v i) ∧ u R.2 = fmV ρ v f
theorem place_ok {b : Nat} {T : Tb} {f : Fm} {l h : Int} (W : Wf b T) (F : FOk b T f) (bl : Bg b l) (bh : Bg b h) : Placed b T f l h (placeT T f l h) := by
  unfold placeT
  cases e : posF T.fs f with
  | some i =>
    have hi := posF_some e
    exact ⟨W, Ext.refl T, (List.getElem?_eq_some_iff.mp hi).1, Nat.le_succ _, rfl, rfl, hi, fun ρ v S _ _ => ⟨v, S, fun _ _ => rfl, S.at_ i f hi⟩⟩
  | none =>
    have hn := posF_none e
    have X : Ext T { T with fs := T.fs ++ [f], sp := T.sp ++ [(l, h)] } := ⟨⟨[f], rfl⟩, ⟨[(l, h)], rfl⟩⟩
    have ln : (T.fs ++ [f]).length = T.fs.length + 1 := by rw [List.length_append]; rfl
    have at1 : (T.fs ++ [f])[T.fs.length]? = some f := by
      rw [List.getElem?_append_right (Nat.le_refl _), Nat.sub_self]
      rfl
    have cases_ : ∀ {i : Nat} {g : Fm}, (T.fs ++ [f])[i]? = some g → (i < T.fs.length ∧ T.fs[i]? = some g) ∨ (i = T.fs.length ∧ g = f) := fun {i g} hg => by
      rcases Nat.lt_trichotomy i T.fs.length with h1 | h1 | h1
      · rw [List.getElem?_append_left h1] at hg
        exact .inl ⟨h1, hg⟩
      · rw [h1, at1] at hg
        exact .inr ⟨h1, (Option.some.inj hg).symm⟩
      · rw [List.getElem?_eq_none (by rw [ln]; omega)] at hg
        cases hg
    refine ⟨⟨?_, nodup_snoc W.nd hn, fun i g hg => ?_, fun p hp => ?_, fun x hx => ?_⟩, X, by show T.fs.length < (T.fs ++ [f]).length; rw [ln]; exact Nat.lt_succ_self _, by show (T.fs ++ [f]).length ≤ _; rw [ln]; exact Nat.le_refl _, rfl, rfl, at1, fun ρ v S h1 h2 => ?_⟩
    · show (T.sp ++ [(l, h)]).length = (T.fs ++ [f]).length
      rw [List.length_append, ln, W.len]
      rfl
    · rcases cases_ hg with ⟨h1, h2⟩ | ⟨h1, rfl⟩
      · exact ⟨(W.fo i g h2).1.mono W.len X (Nat.le_refl _), (W.fo i g h2).2⟩
      · refine ⟨F.mono W.len X (Nat.le_refl _), fun p hp => ?_⟩
        rw [h1]
        exact F.pa p hp
    · rcases List.mem_append.mp hp with hp | hp
      · exact W.sb p hp
      · rw [List.mem_singleton.mp hp]
        exact ⟨bl, bh⟩
    · have := W.md x hx
      refine ⟨?_, fun p hp => ?_⟩
      · show _ < (T.fs ++ [f]).length
        rw [ln]
        omega
      · show _ < (T.fs ++ [f]).length
        have := this.2 p hp
        rw [ln]
        omega
    · obtain ⟨u, same, new⟩ : ∃ u : Nat → Int, (∀ i, i < T.fs.length → u i = v i) ∧ u T.fs.length = fmV ρ v f := ⟨fun i => if i = T.fs.length then fmV ρ v f else v i, fun i hi => if_neg (Nat.ne_of_lt hi), if_pos rfl⟩
      refine ⟨u, ⟨fun i g hg => ?_, fun i hi => ?_, fun x hx => ?_⟩, same, new⟩
      · rcases cases_ hg with ⟨h3, h4⟩ | ⟨h3, rfl⟩
        · rw [same i h3, S.at_ i g h4]
          exact (fmV_congr fun p hp => same p (Nat.lt_trans ((W.fo i g h4).2 p hp) h3)).symm
        · rw [h3, new]
          exact (fmV_congr fun p hp => same p (F.pa p hp)).symm
      · have hi' : i < T.fs.length + 1 := by
          have : i < (T.fs ++ [f]).length := hi
          rw [ln] at this
          exact this
        by_cases h3 : i < T.fs.length
        · rw [same i h3, X.lo (by rw [W.len]; exact h3), X.hi (by rw [W.len]; exact h3)]
          exact S.iv i h3
        · have h4 : i = T.fs.length := by omega
          have h5 : (T.sp ++ [(l, h)]).getD i (0, 0) = (l, h) := by
            rw [List.getD_eq_getElem?_getD, List.getElem?_append_right (by rw [W.len]; omega), h4, W.len, Nat.sub_self]
            rfl
          show ((T.sp ++ [(l, h)]).getD i (0, 0)).1 ≤ _ ∧ _ ≤ ((T.sp ++ [(l, h)]).getD i (0, 0)).2
          rw [h5, h4, new]
          exact ⟨h1, h2⟩
      · have hx' := W.md x hx
        rw [same _ hx'.1, S.md x hx]
        congr 1
        exact List.map_congr_left fun p hp => (same p (hx'.2 p hp)).symm
/-! ### sums -/
theorem sumOf_ok {b : Nat} {T : Tb} (W : Wf b T) (hb : 1 ≤ b) {i : Nat} (h : i < T.fs.length) (sm : Small T i) :
    ((sumOf T i).2.map (·.1)).Nodup ∧ Bg b (sumOf T i).1 ∧ (∀ p ∈ (sumOf T i).2, p.1 < T.fs.length ∧ Bg b p.2 ∧ Small T p.1) ∧ ∀ ρ v, Sem T ρ v → v i = (sumOf T i).1 + ((sumOf T i).2.map fun p => p.2 * v p.1).sum := by
  obtain ⟨F, ho⟩ := W.fok h
  have at0 := fm_at h
  unfold sumOf
  have other : (([(i, (1 : Int))] : List (Nat × Int)).map (·.1)).Nodup ∧ Bg b 0 ∧ (∀ p ∈ [(i, (1 : Int))], p.1 < T.fs.length ∧ Bg b p.2 ∧ Small T p.1) ∧ ∀ ρ v, Sem T ρ v → v i = 0 + (([(i, (1 : Int))] : List (Nat × Int)).map fun p => p.2 * v p.1).sum := by
    refine ⟨List.nodup_cons.mpr ⟨List.not_mem_nil, List.nodup_nil⟩, bg_zero b, fun p hp => ?_, fun ρ v S => ?_⟩
    · rw [List.mem_singleton.mp hp]
      exact ⟨h, bg_one hb, sm⟩
    · show v i = 0 + (1 * v i + 0)
      omega
  cases e : T.fm i with
  | num n =>
    refine ⟨List.nodup_nil, F.nu n e, fun p hp => (by cases hp), fun ρ v S => ?_⟩
    rw [e] at at0
    rw [S.at_ i _ at0]
    show n = n + 0
    omega
  | sum n ps =>
    obtain ⟨h1, h2, h3⟩ := F.su n ps e
    refine ⟨h1, h2, fun p hp => ⟨F.pa p.1 (by rw [e]; exact List.mem_map.mpr ⟨p, hp, rfl⟩), (h3 p hp).1, (h3 p hp).2⟩, fun ρ v S => ?_⟩
    rw [e] at at0
    exact S.at_ i _ at0
  | var k => exact other
  | op k ids => exact other
  | pick ids => exact other
theorem fos_ok {b : Nat} {T : Tb} (W : Wf b T) {n : Int} {ps : List (Nat × Int)} (h1 : (ps.map (·.1)).Nodup) (h2 : Bg b n) (h3 : ∀ p ∈ ps, p.1 < T.fs.length ∧ Bg b p.2 ∧ Small T p.1) :
    FOk b T (fos T n ps) ∧ ∀ ρ v, Sem T ρ v → fmV ρ v (fos T n ps) = n + (ps.map fun p => p.2 * v p.1).sum := by
  have gen : FOk b T (.sum n ps) := by
    refine ⟨fun p hp => ?_, fun _ e => (by cases e), fun n' ps' e => ?_, fun _ _ e => (by cases e), fun _ _ e => (by cases e), fun _ _ e => (by cases e), fun _ e => (by cases e), fun _ e => (by cases e)⟩
    · obtain ⟨q, hq, rfl⟩ := List.mem_map.mp hp
      exact (h3 q hq).1
    · cases e
      exact ⟨h1, h2, fun p hp => ⟨(h3 p hp).2.1, (h3 p hp).2.2⟩⟩
  match ps, h1, h3, gen with
  | [], _, _, gen => exact ⟨gen, fun ρ v S => rfl⟩
  | p :: q :: r, _, _, gen => exact ⟨gen, fun ρ v S => rfl⟩
  | [(u, c)], h1, h3, gen =>
    show FOk b T (if n = 0 ∧ c = 1 then T.fm u else .sum n [(u, c)]) ∧ ∀ ρ v, Sem T ρ v → fmV ρ v (if n = 0 ∧ c = 1 then T.fm u else .sum n [(u, c)]) = _
    split
    · rename_i e
      obtain ⟨rfl, rfl⟩ := e
      have hu := (h3 (u, 1) List.mem_cons_self).1
      refine ⟨(W.fok hu).1, fun ρ v S => ?_⟩
      rw [← S.at_ u _ (fm_at hu)]
      show v u = 0 + (1 * v u + 0)
      omega
    · exact ⟨gen, fun ρ v S => rfl⟩
/-! ### merging -/
theorem putP_fst : ∀ (l : List (Nat × Int)) (u : Nat) (c : Int), ((putP l u c).map (·.1)) = if u ∈ l.map (·.1) then l.map (·.1) else l.map (·.1) ++ [u]
  | [], u, c => by rw [if_neg (by simp)]; rfl
  | p :: r, u, c => by
    unfold putP
    by_cases e : p.1 = u
    · rw [if_pos e, if_pos (by rw [List.map_cons, e]; exact List.mem_cons_self), List.map_cons, List.map_cons, e]
    · rw [if_neg e, List.map_cons, List.map_cons, putP_fst r u c]
      by_cases m : u ∈ r.map (·.1)
      · rw [if_pos m, if_pos (List.mem_cons_of_mem _ m)]
      · rw [if_neg m, if_neg (fun z => by
          rcases List.mem_cons.mp z with z | z
          · exact e z.symm
          · exact m z)]
        rfl
theorem putP_nodup {l : List (Nat × Int)} (h : (l.map (·.1)).Nodup) (u : Nat) (c : Int) : ((putP l u c).map (·.1)).Nodup := by
  rw [putP_fst]
  split
  · exact h
  · rename_i n
    exact nodup_snoc h n
theorem putP_mem : ∀ {l : List (Nat × Int)} {u : Nat} {c : Int} {p : Nat × Int}, p ∈ putP l u c → p = (u, c) ∨ (p ∈ l ∧ p.1 ≠ u) ∨ (p ∈ l ∧ ¬ (l.map (·.1)).Nodup)
  | [], u, c, p, h => .inl (List.mem_singleton.mp h)
  | q :: r, u, c, p, h => by
    unfold putP at h
    by_cases e : q.1 = u
    · rw [if_pos e] at h
      rcases List.mem_cons.mp h with h | h
      · exact .inl h
      · by_cases pu : p.1 = u
        · refine .inr (.inr ⟨List.mem_cons_of_mem _ h, fun nd => ?_⟩)
          rw [List.map_cons, List.nodup_cons] at nd
          exact nd.1 (List.mem_map.mpr ⟨p, h, by rw [pu, e]⟩)
        · exact .inr (.inl ⟨List.mem_cons_of_mem _ h, pu⟩)
    · rw [if_neg e] at h
      rcases List.mem_cons.mp h with rfl | h
      · exact .inr (.inl ⟨List.mem_cons_self, e⟩)
      · rcases putP_mem h with h | ⟨h, h'⟩ | ⟨h, h'⟩
        · exact .inl h
        · exact .inr (.inl ⟨List.mem_cons_of_mem _ h, h'⟩)
        · refine .inr (.inr ⟨List.mem_cons_of_mem _ h, fun nd => h' ?_⟩)
          rw [List.map_cons, List.nodup_cons] at nd
          exact nd.2
theorem getP_mem : ∀ {l : List (Nat × Int)} {u : Nat}, getP l u = 0 ∨ (u, getP l u) ∈ l
  | [], _ => .inl rfl
  | q :: r, u => by
    unfold getP
    split
    · rename_i e
      rw [← e]
      exact .inr List.mem_cons_self
    · rcases getP_mem (l := r) (u := u) with h | h
      · exact .inl h
      · exact .inr (List.mem_cons_of_mem _ h)
theorem putP_sum (v : Nat → Int) : ∀ (l : List (Nat × Int)) (u : Nat) (c : Int), ((putP l u c).map fun p => p.2 * v p.1).sum = (l.map fun p => p.2 * v p.1).sum + (c - getP l u) * v u
  | [], u, c => by
    show c * v u + 0 = 0 + (c - 0) * v u
    rw [Int.sub_zero]
    omega
  | p :: r, u, c => by
    unfold putP getP
    by_cases e : p.1 = u
    · rw [if_pos e, if_pos e, List.map_cons, List.map_cons, List.sum_cons, List.sum_cons, e, Int.sub_mul]
      show c * v u + _ = _
      omega
    · rw [if_neg e, if_neg e, List.map_cons, List.map_cons, List.sum_cons, List.sum_cons, putP_sum v r u c]
      omega
theorem mergeP_sum (v : Nat → Int) (s : Int) : ∀ (qs l : List (Nat × Int)), ((mergeP l s qs).map fun p => p.2 * v p.1).sum = (l.map fun p => p.2 * v p.1).sum + s * (qs.map fun p => p.2 * v p.1).sum
  | [], l => by
    show _ = _ + s * 0
    rw [Int.mul_zero, Int.add_zero]
    rfl
  | q :: qs, l => by
    unfold mergeP
    rw [mergeP_sum v s qs, putP_sum, List.map_cons, List.sum_cons, Int.mul_add]
    have e : (getP l q.1 + s * q.2 - getP l q.1) * v q.1 = s * (q.2 * v q.1) := by
      rw [← Int.mul_assoc]
      congr 1
      omega
    rw [e]
    omega
theorem mergeP_ok {b : Nat} {s : Int} (hs : s = 1 ∨ s = -1) {G : Nat → Prop} : ∀ (qs l : List (Nat × Int)), (l.map (·.1)).Nodup → (qs.map (·.1)).Nodup → (∀ q ∈ qs, Bg b q.2 ∧ G q.1) → (∀ p ∈ l, Bg (b + 1) p.2 ∧ G p.1 ∧ (p.1 ∈ qs.map (·.1) → Bg b p.2)) →
    ((mergeP l s qs).map (·.1)).Nodup ∧ (∀ p ∈ mergeP l s qs, Bg (b + 1) p.2 ∧ G p.1) ∧ (mergeP l s qs).length ≤ l.length + qs.length
  | [], l, hl, _, _, h => ⟨hl, fun p hp => ⟨(h p hp).1, (h p hp).2.1⟩, Nat.le_refl _⟩
  | q :: qs, l, hl, hq, hg, h => by
    unfold mergeP
    rw [List.map_cons, List.nodup_cons] at hq
    have bq := hg q List.mem_cons_self
    have hs2 : Bg b (s * q.2) := by
      rcases hs with rfl | rfl
      · rw [Int.one_mul]
        exact bq.1
      · rw [Int.neg_mul, Int.one_mul]
        exact bg_neg bq.1
    have gb : Bg b (getP l q.1) := by
      rcases getP_mem (l := l) (u := q.1) with e | e
      · rw [e]
        exact bg_zero b
      · exact (h _ e).2.2 (by rw [List.map_cons]; exact List.mem_cons_self)
    obtain ⟨r1, r2, r3⟩ := mergeP_ok (b := b) hs (G := G) qs (putP l q.1 (getP l q.1 + s * q.2)) (putP_nodup hl _ _) hq.2 (fun x hx => hg x (List.mem_cons_of_mem _ hx)) fun p hp => by
      rcases putP_mem hp with rfl | ⟨hp, hne⟩ | ⟨_, hn⟩
      · exact ⟨gb.add hs2, bq.2, fun z => absurd z hq.1⟩
      · exact ⟨(h p hp).1, (h p hp).2.1, fun z => (h p hp).2.2 (by rw [List.map_cons]; exact List.mem_cons_of_mem _ z)⟩
      · exact absurd hl hn
    refine ⟨r1, r2, Nat.le_trans r3 ?_⟩
    have e := congrArg List.length (putP_fst l q.1 (getP l q.1 + s * q.2))
    rw [List.length_map] at e
    rw [e, List.length_cons]
    split
    · rw [List.length_map]
      omega
    · rw [List.length_append, List.length_map, List.length_singleton]
      omega
theorem insP_perm (p : Nat × Int) : ∀ l, (insP p l).Perm (p :: l)
  | [] => .refl _
  | q :: r => by
    unfold insP
    split
    · exact .refl _
    · exact ((insP_perm p r).cons q).trans (.swap p q r)
theorem sortP_perm : ∀ l, (sortP l).Perm l
  | [] => .refl _
  | p :: r => (insP_perm p (sortP r)).trans ((sortP_perm r).cons p)
theorem insP_sorted {p : Nat × Int} : ∀ {l : List (Nat × Int)}, l.Pairwise (fun a b => a.1 < b.1) → (∀ q ∈ l, q.1 ≠ p.1) → (insP p l).Pairwise (fun a b => a.1 < b.1)
  | [], _, _ => List.pairwise_singleton _ _
  | q :: r, h, hn => by
    unfold insP
    rw [List.pairwise_cons] at h
    split
    · rename_i e
      refine List.pairwise_cons.mpr ⟨fun x hx => ?_, List.pairwise_cons.mpr h⟩
      rcases List.mem_cons.mp hx with rfl | hx
      · exact e
      · exact Nat.lt_trans e (h.1 x hx)
    · rename_i e
      refine List.pairwise_cons.mpr ⟨fun x hx => ?_, insP_sorted h.2 fun x hx => hn x (List.mem_cons_of_mem _ hx)⟩
      rcases List.mem_cons.mp ((insP_perm p r).mem_iff.mp hx) with rfl | hx
      · have := hn q List.mem_cons_self
        omega
      · exact h.1 x hx
theorem sortP_sorted : ∀ {l : List (Nat × Int)}, (l.map (·.1)).Nodup → (sortP l).Pairwise (fun a b => a.1 < b.1)
  | [], _ => .nil
  | p :: r, h => by
    rw [List.map_cons, List.nodup_cons] at h
    refine insP_sorted (sortP_sorted h.2) fun q hq e => h.1 ?_
    exact List.mem_map.mpr ⟨q, (sortP_perm r).mem_iff.mp hq, e⟩
theorem sorted_uniq : ∀ {l m : List (Nat × Int)}, l.Perm m → l.Pairwise (fun a b => a.1 < b.1) → m.Pairwise (fun a b => a.1 < b.1) → l = m
  | [], m, h, _, _ => (h.nil_eq)
  | a :: l, [], h, _, _ => absurd h.length_eq (by simp)
  | a :: l, b :: m, h, h1, h2 => by
    rw [List.pairwise_cons] at h1 h2
    have e : a = b := by
      rcases List.mem_cons.mp (h.mem_iff.mp (List.mem_cons_self (a := a) (l := l))) with e | e
      · exact e
      · rcases List.mem_cons.mp (h.mem_iff.mpr (List.mem_cons_self (a := b) (l := m))) with g | g
        · exact g.symm
        · have := h2.1 a e
          have := h1.1 b g
          omega
    subst e
    rw [sorted_uniq h.cons_inv h1.2 h2.2]
theorem sum_perm {l m : List Int} (h : l.Perm m) : l.sum = m.sum := by
  induction h with
  | nil => rfl
  | cons x _ ih => rw [List.sum_cons, List.sum_cons, ih]
  | swap x y l => simp only [List.sum_cons]; omega
  | trans _ _ a b => rw [a, b]
/-! ### what the makers make is right -/
structure Made (b : Nat) (T : Tb) (R : Fm × Int × Int) (x : (Nat → Int) → Int) : Prop where
  fok : FOk b T R.1
  lo : Bg b R.2.1
  hi : Bg b R.2.2
  val : ∀ ρ v, Sem T ρ v → fmV ρ v R.1 = x v ∧ R.2.1 ≤ x v ∧ x v ≤ R.2.2
theorem Made.mono {b c : Nat} {T : Tb} {R : Fm × Int × Int} {x : (Nat → Int) → Int} (h : Made b T R x) (hl : T.sp.length = T.fs.length) (bc : b ≤ c) : Made c T R x := ⟨h.fok.mono hl (Ext.refl T) bc, h.lo.mono bc, h.hi.mono bc, h.val⟩
theorem sum_map_le {α : Type} {f g : α → Int} : ∀ {l : List α}, (∀ a ∈ l, f a ≤ g a) → (l.map f).sum ≤ (l.map g).sum
  | [], _ => Int.le_refl _
  | a :: l, h => by
    have h1 := h a List.mem_cons_self
    have h2 := sum_map_le (l := l) fun x hx => h x (List.mem_cons_of_mem _ hx)
    rw [List.map_cons, List.map_cons, List.sum_cons, List.sum_cons]
    omega
theorem filter_sum (v : Nat → Int) : ∀ ps : List (Nat × Int), ((ps.filter fun p => decide (p.2 ≠ 0)).map fun p => p.2 * v p.1).sum = (ps.map fun p => p.2 * v p.1).sum
  | [] => rfl
  | p :: r => by
    by_cases e : p.2 = 0
    · rw [List.filter_cons_of_neg (by simp [e]), filter_sum v r, List.map_cons, List.sum_cons, e, Int.zero_mul, Int.zero_add]
    · rw [List.filter_cons_of_pos (by simp [e]), List.map_cons, List.map_cons, List.sum_cons, List.sum_cons, filter_sum v r]
theorem cin {T : Tb} {ρ : PyData → Int} {v : Nat → Int} (S : Sem T ρ v) {u : Nat} (h : u < T.fs.length) (c : Int) : cLo T u c ≤ c * v u ∧ c * v u ≤ cHi T u c :=
  corn_in (Int.le_refl c) (Int.le_refl c) (S.iv u h).1 (S.iv u h).2
theorem cbg {T : Tb} {b : Nat} {u : Nat} {c : Int} (h : Bg b c) (sm : Small T u) : Bg (b + 200) (cLo T u c) ∧ Bg (b + 200) (cHi T u c) := corn_bg h h sm.1 sm.2
theorem canc_ok {b : Nat} {T : Tb} (W : Wf b T) {n : Int} {ps : List (Nat × Int)} (h1 : (ps.map (·.1)).Nodup) (h2 : Bg b n) (h3 : ∀ p ∈ ps, p.1 < T.fs.length ∧ Bg b p.2 ∧ Small T p.1) (hl : ps.length ≤ 64) :
    Made (b + 210) T (canc T n ps) fun v => n + (ps.map fun p => p.2 * v p.1).sum := by
  have sub : ∀ p ∈ ps.filter (fun p => decide (p.2 ≠ 0)), p ∈ ps := fun p hp => (List.mem_filter.mp hp).1
  have nd : ((ps.filter fun p => decide (p.2 ≠ 0)).map (·.1)).Nodup := (List.filter_sublist.map _).nodup h1
  have ln : (ps.filter fun p => decide (p.2 ≠ 0)).length ≤ 64 := Nat.le_trans (List.length_filter_le _ _) hl
  obtain ⟨F, val⟩ := fos_ok W nd h2 fun p hp => h3 p (sub p hp)
  have bl : Bg (b + 207) ((ps.filter fun p => decide (p.2 ≠ 0)).map fun p => cLo T p.1 p.2).sum := by
    refine sum_bg64 (m := b + 200) (fun x hx => ?_) (by rw [List.length_map]; exact ln)
    obtain ⟨p, hp, rfl⟩ := List.mem_map.mp hx
    exact (cbg (h3 p (sub p hp)).2.1 (h3 p (sub p hp)).2.2).1
  have bh : Bg (b + 207) ((ps.filter fun p => decide (p.2 ≠ 0)).map fun p => cHi T p.1 p.2).sum := by
    refine sum_bg64 (m := b + 200) (fun x hx => ?_) (by rw [List.length_map]; exact ln)
    obtain ⟨p, hp, rfl⟩ := List.mem_map.mp hx
    exact (cbg (h3 p (sub p hp)).2.1 (h3 p (sub p hp)).2.2).2
  refine ⟨F.mono W.len (Ext.refl T) (by omega), ?_, ?_, fun ρ v S => ?_⟩
  · exact (Bg.add (h2.mono (by omega)) bl).mono (by omega)
  · exact (Bg.add (h2.mono (by omega)) bh).mono (by omega)
  · have e := val ρ v S
    rw [filter_sum] at e
    refine ⟨e, ?_, ?_⟩
    · show n + _ ≤ n + _
      rw [← filter_sum]
      have := sum_map_le (f := fun p : Nat × Int => cLo T p.1 p.2) (g := fun p => p.2 * v p.1) (l := ps.filter fun p => decide (p.2 ≠ 0)) fun p hp => (cin S (h3 p (sub p hp)).1 p.2).1
      omega
    · show n + _ ≤ n + _
      rw [← filter_sum]
      have := sum_map_le (f := fun p : Nat × Int => p.2 * v p.1) (g := fun p => cHi T p.1 p.2) (l := ps.filter fun p => decide (p.2 ≠ 0)) fun p hp => (cin S (h3 p (sub p hp)).1 p.2).2
      omega
theorem nodup_lt : ∀ {l : List Nat} {n : Nat}, l.Nodup → (∀ x ∈ l, x < n) → l.length ≤ n := fun {l n} nd h => by
  have s : l ⊆ List.range n := fun x hx => List.mem_range.mpr (h x hx)
  have := List.Nodup.length_le_of_subset nd s
  rw [List.length_range] at this
  exact this
theorem plus_ok {b : Nat} {T : Tb} (W : Wf b T) (hb : 200 ≤ b) (hL : T.fs.length ≤ 60) {i j : Nat} (hi : i < T.fs.length) (hj : j < T.fs.length) (si : Small T i) (sj : Small T j) {s : Int} (hs : s = 1 ∨ s = -1) :
    Made (b + 212) T (plusF T i j s) fun v => v i + s * v j := by
  obtain ⟨n1, b1, g1, v1⟩ := sumOf_ok W (by omega) hi si
  obtain ⟨n2, b2, g2, v2⟩ := sumOf_ok W (by omega) hj sj
  obtain ⟨m1, m2, m3⟩ := mergeP_ok (b := b) hs (G := fun u => u < T.fs.length ∧ Small T u) (sumOf T j).2 (sumOf T i).2 n1 n2 (fun q hq => ⟨(g2 q hq).2.1, (g2 q hq).1, (g2 q hq).2.2⟩) fun p hp => ⟨(g1 p hp).2.1.mono (by omega), ⟨(g1 p hp).1, (g1 p hp).2.2⟩, fun _ => (g1 p hp).2.1⟩
  have perm := sortP_perm (mergeP (sumOf T i).2 s (sumOf T j).2)
  have nd : ((sortP (mergeP (sumOf T i).2 s (sumOf T j).2)).map (·.1)).Nodup := (perm.map _).nodup_iff.mpr m1
  have h3 : ∀ p ∈ sortP (mergeP (sumOf T i).2 s (sumOf T j).2), p.1 < T.fs.length ∧ Bg (b + 1) p.2 ∧ Small T p.1 := fun p hp => by
    have := m2 p (perm.mem_iff.mp hp)
    exact ⟨this.2.1, this.1, this.2.2⟩
  have hsb : Bg b (s * (sumOf T j).1) := by
    rcases hs with rfl | rfl
    · rw [Int.one_mul]
      exact b2
    · rw [Int.neg_mul, Int.one_mul]
      exact bg_neg b2
  have hn : Bg (b + 1) ((sumOf T i).1 + s * (sumOf T j).1) := b1.add hsb
  have ln : (sortP (mergeP (sumOf T i).2 s (sumOf T j).2)).length ≤ 64 := by
    have := nodup_lt nd fun x hx => by
      obtain ⟨p, hp, rfl⟩ := List.mem_map.mp hx
      exact (h3 p hp).1
    rw [List.length_map] at this
    omega
  have vv : ∀ ρ v, Sem T ρ v → v i + s * v j = (sumOf T i).1 + s * (sumOf T j).1 + ((sortP (mergeP (sumOf T i).2 s (sumOf T j).2)).map fun p => p.2 * v p.1).sum := fun ρ v S => by
    rw [sum_perm (perm.map fun p => p.2 * v p.1), mergeP_sum v s]
    have a1 := v1 ρ v S
    have a2 := v2 ρ v S
    have a3 : s * v j = s * (sumOf T j).1 + s * ((sumOf T j).2.map fun p => p.2 * v p.1).sum := by rw [← Int.mul_add, ← a2]
    omega
  have W1 := W.mono (c := b + 1) (by omega)
  unfold plusF
  split
  · have M := canc_ok W1 nd hn h3 ln
    exact ⟨M.fok.mono W.len (Ext.refl T) (by omega), M.lo.mono (by omega), M.hi.mono (by omega), fun ρ v S => by
      rw [vv ρ v S]
      exact M.val ρ v S⟩
  · obtain ⟨F, val⟩ := fos_ok W1 nd hn h3
    have cb := cbg (b := 1) (c := s) (by
      rcases hs with rfl | rfl
      · exact bg_one (Nat.le_refl 1)
      · exact bg_neg (bg_one (Nat.le_refl 1))) sj
    refine ⟨F.mono W.len (Ext.refl T) (by omega), (Bg.add (si.1.mono (by omega)) cb.1).mono (by omega), (Bg.add (si.2.mono (by omega)) cb.2).mono (by omega), fun ρ v S => ?_⟩
    have c := cin S hj s
    have d := S.iv i hi
    refine ⟨by rw [vv ρ v S]; exact val ρ v S, ?_, ?_⟩
    · show _ + _ ≤ _
      omega
    · show _ ≤ _ + _
      omega
theorem times_ok {b : Nat} {T : Tb} (W : Wf b T) (hb : 200 ≤ b) {i : Nat} (hi : i < T.fs.length) (si : Small T i) {y : Int} (hy : Bg 200 y) : Made (b + 212) T (timesF T i y) fun v => y * v i := by
  obtain ⟨n1, b1, g1, v1⟩ := sumOf_ok W (by omega) hi si
  have e1 : ((sumOf T i).2.map fun p => (p.1, y * p.2)).map (·.1) = (sumOf T i).2.map (·.1) := by
    rw [List.map_map]
    rfl
  have W1 := W.mono (c := b + 200) (by omega)
  obtain ⟨F, val⟩ := fos_ok W1 (n := y * (sumOf T i).1) (ps := (sumOf T i).2.map fun p => (p.1, y * p.2)) (by rw [e1]; exact n1) ((hy.mul b1).mono (by omega)) fun p hp => by
    obtain ⟨q, hq, rfl⟩ := List.mem_map.mp hp
    exact ⟨(g1 q hq).1, (hy.mul (g1 q hq).2.1).mono (by omega), (g1 q hq).2.2⟩
  have cb := cbg (b := 200) hy si
  refine ⟨F.mono W.len (Ext.refl T) (by omega), cb.1.mono (by omega), cb.2.mono (by omega), fun ρ v S => ⟨?_, (cin S hi y).1, (cin S hi y).2⟩⟩
  show fmV ρ v (fos T _ _) = _
  rw [val ρ v S, v1 ρ v S, Int.mul_add, List.map_map]
  congr 1
  have gen : ∀ ps : List (Nat × Int), (ps.map ((fun p => p.2 * v p.1) ∘ fun p => (p.1, y * p.2))).sum = y * (ps.map fun p => p.2 * v p.1).sum := fun ps => by
    induction ps with
    | nil => exact (Int.mul_zero y).symm
    | cons p ps ih =>
      rw [List.map_cons, List.map_cons, List.sum_cons, List.sum_cons, ih, Int.mul_add]
      show y * p.2 * v p.1 + _ = _
      rw [Int.mul_assoc]
  exact gen _
theorem fok_op {b : Nat} {T : Tb} {k : Bk} {ids : List Nat} (h : ∀ p ∈ ids, p < T.fs.length) (k1 : k ≠ .max) (k2 : k ≠ .min) (hl : ids.length = k.ar) (hs : ∀ n, k = .shift n → 1 ≤ n ∧ n ≤ 30) : FOk b T (.op k ids) := by
  refine ⟨h, fun _ e => (by cases e), fun _ _ e => (by cases e), fun k' ids' e _ _ => ?_, fun k' ids' e hk => ?_, fun n ids' e => ?_, fun _ e => (by cases e), fun _ e => (by cases e)⟩
  · cases e
    exact hl
  · cases e
    rcases hk with hk | hk
    · exact absurd hk k1
    · exact absurd hk k2
  · cases e
    exact hs n rfl
theorem settled_ok {b : Nat} {T : Tb} {n : Int} {x : (Nat → Int) → Int} (hn : Bg b n) (h : ∀ ρ v, Sem T ρ v → x v = n) : Made b T (settled n) x := by
  refine ⟨⟨fun p hp => (by cases hp), fun m e => ?_, fun _ _ e => (by cases e), fun _ _ e => (by cases e), fun _ _ e => (by cases e), fun _ _ e => (by cases e), fun _ e => (by cases e), fun _ e => (by cases e)⟩, hn, hn, fun ρ v S => ?_⟩
  · cases e
    exact hn
  · rw [h ρ v S]
    exact ⟨rfl, Int.le_refl _, Int.le_refl _⟩
theorem known_ok {b : Nat} {T : Tb} (W : Wf b T) {i : Nat} (hi : i < T.fs.length) {x : (Nat → Int) → Int} (h : ∀ ρ v, Sem T ρ v → x v = v i) : Made b T (known T i) x := by
  refine ⟨(W.fok hi).1, (W.spb hi).1, (W.spb hi).2, fun ρ v S => ?_⟩
  rw [h ρ v S]
  exact ⟨(S.at_ i _ (fm_at hi)).symm, (S.iv i hi).1, (S.iv i hi).2⟩
theorem sort2_mem {a b p : Nat} (h : p ∈ sort2 a b) : p = a ∨ p = b := by
  unfold sort2 at h
  split at h
  · rcases List.mem_cons.mp h with h | h
    · exact .inr h
    · exact .inl (List.mem_singleton.mp h)
  · rcases List.mem_cons.mp h with h | h
    · exact .inl h
    · exact .inr (List.mem_singleton.mp h)
theorem sort2_len (a b : Nat) : (sort2 a b).length = 2 := by
  unfold sort2
  split <;> rfl
theorem mul_ok {b : Nat} {T : Tb} (W : Wf b T) (hb : 200 ≤ b) {i j : Nat} (hi : i < T.fs.length) (hj : j < T.fs.length) (si : Small T i) (sj : Small T j) : Made (b + 212) T (mulF T i j) fun v => v i * v j := by
  unfold mulF
  split
  · rename_i e
    have M := times_ok W hb hj sj si.1
    refine ⟨M.fok, M.lo, M.hi, fun ρ v S => ?_⟩
    have := S.iv i hi
    have e2 : v i = T.lo i := by omega
    have := M.val ρ v S
    rw [e2]
    exact this
  · split
    · rename_i e
      have M := times_ok W hb hi si sj.1
      refine ⟨M.fok, M.lo, M.hi, fun ρ v S => ?_⟩
      have := S.iv j hj
      have e2 : v j = T.lo j := by omega
      have := M.val ρ v S
      rw [e2, Int.mul_comm]
      exact this
    · have cb := corn_bg si.1 si.2 sj.1 sj.2
      refine ⟨fok_op (fun p hp => ?_) (by decide) (by decide) (sort2_len i j) (fun n e => (by cases e)), cb.1.mono (by omega), cb.2.mono (by omega), fun ρ v S => ⟨?_, ?_⟩⟩
      · rcases sort2_mem hp with rfl | rfl
        · exact hi
        · exact hj
      · show ptK .mul ((sort2 i j).map v) = _
        unfold sort2
        split
        · show v j * v i = v i * v j
          rw [Int.mul_comm]
        · rfl
      · exact corn_in (S.iv i hi).1 (S.iv i hi).2 (S.iv j hj).1 (S.iv j hj).2
theorem less_ok {b : Nat} {T : Tb} (W : Wf b T) (hb : 200 ≤ b) {i j : Nat} (hi : i < T.fs.length) (hj : j < T.fs.length) : Made b T (lessF T i j) fun v => if v i < v j then 1 else 0 := by
  unfold lessF
  split
  · refine settled_ok (bg_one (by omega)) fun ρ v S => ?_
    have := S.iv i hi
    have := S.iv j hj
    exact if_pos (by omega)
  · split
    · rename_i e
      refine settled_ok (bg_zero b) fun ρ v S => ?_
      have h1 := S.iv i hi
      have h2 := S.iv j hj
      refine if_neg fun z => ?_
      rcases e with e | rfl
      · omega
      · omega
    · refine ⟨fok_op (fun p hp => ?_) (by decide) (by decide) rfl (fun n e => (by cases e)), bg_zero b, bg_one (by omega), fun ρ v S => ⟨rfl, ?_⟩⟩
      · rcases List.mem_cons.mp hp with rfl | hp
        · exact hi
        · rw [List.mem_singleton.mp hp]
          exact hj
      · show 0 ≤ (if v i < v j then (1 : Int) else 0) ∧ (if v i < v j then (1 : Int) else 0) ≤ 1
        split <;> decide
theorem equal_ok {b : Nat} {T : Tb} (W : Wf b T) (hb : 200 ≤ b) {i j : Nat} (hi : i < T.fs.length) (hj : j < T.fs.length) : Made b T (equalF T i j) fun v => if v i = v j then 1 else 0 := by
  unfold equalF
  split
  · rename_i e
    exact settled_ok (bg_one (by omega)) fun ρ v S => if_pos (by rw [e])
  · split
    · rename_i e
      refine settled_ok (bg_zero b) fun ρ v S => ?_
      have h1 := S.iv i hi
      have h2 := S.iv j hj
      exact if_neg fun z => by omega
    · refine ⟨fok_op (fun p hp => ?_) (by decide) (by decide) (sort2_len i j) (fun n e => (by cases e)), bg_zero b, bg_one (by omega), fun ρ v S => ⟨?_, ?_⟩⟩
      · rcases sort2_mem hp with rfl | rfl
        · exact hi
        · exact hj
      · show ptK .equal ((sort2 i j).map v) = _
        unfold sort2
        split
        · show (if v j = v i then (1 : Int) else 0) = if v i = v j then 1 else 0
          by_cases h : v i = v j
          · rw [if_pos h, if_pos h.symm]
          · rw [if_neg h, if_neg fun z => h z.symm]
        · rfl
      · show 0 ≤ (if v i = v j then (1 : Int) else 0) ∧ (if v i = v j then (1 : Int) else 0) ≤ 1
        split <;> decide
theorem clamp_ok {b : Nat} {T : Tb} (W : Wf b T) (hb : 200 ≤ b) {i : Nat} (hi : i < T.fs.length) {l h : Int} (hlh : l ≤ h) (bl : Bg 200 l) (bh : Bg 200 h) : Made b T (clampF T l h i) fun v => lim (v i) l h := by
  have lb : ∀ x, Bg b x → Bg b (lim x l h) := fun x hx => by
    unfold lim
    split
    · exact bl.mono hb
    · split
      · exact bh.mono hb
      · exact hx
  unfold clampF
  split
  · rename_i e
    refine known_ok W hi fun ρ v S => ?_
    have := S.iv i hi
    unfold lim
    rw [if_neg (by omega), if_neg (by omega)]
  · refine ⟨fok_op (fun p hp => ?_) (fun z => by cases z) (fun z => by cases z) rfl (fun n e => (by cases e)), lb _ (W.spb hi).1, lb _ (W.spb hi).2, fun ρ v S => ⟨rfl, lim_mono hlh (S.iv i hi).1, lim_mono hlh (S.iv i hi).2⟩⟩
    rw [List.mem_singleton.mp hp]
    exact hi
theorem shift_ok {b : Nat} {T : Tb} (hb : 200 ≤ b) {i : Nat} (hi : i < T.fs.length) (si : Small T i) {n : Nat} (n1 : 1 ≤ n) (n2 : n ≤ 30) : Made (b + 1) T (shiftF T n i) fun v => shf (v i) n := by
  refine ⟨fok_op (fun p hp => ?_) (fun z => by cases z) (fun z => by cases z) rfl (fun m e => by cases e; exact ⟨n1, n2⟩), (shf_bg si.1 (by decide) n2).mono (by omega), (shf_bg si.2 (by decide) n2).mono (by omega), fun ρ v S => ⟨rfl, shf_mono n (S.iv i hi).1, shf_mono n (S.iv i hi).2⟩⟩
  rw [List.mem_singleton.mp hp]
  exact hi
theorem mn_bg {b : Nat} {x y : Int} (h : Bg b x) (k : Bg b y) : Bg b (mn x y) := by
  unfold mn
  split
  · exact k
  · exact h
theorem mx_bg {b : Nat} {x y : Int} (h : Bg b x) (k : Bg b y) : Bg b (mx x y) := by
  unfold mx
  split
  · exact k
  · exact h
theorem where_ok {b : Nat} {T : Tb} (W : Wf b T) {c i j : Nat} (hc : c < T.fs.length) (hi : i < T.fs.length) (hj : j < T.fs.length) : Made b T (whereF T c i j) fun v => if v c = 0 then v j else v i := by
  unfold whereF
  split
  · rename_i e
    refine known_ok W hi fun ρ v S => ?_
    have := S.iv c hc
    rcases e with e | e | rfl
    · exact if_neg (by omega)
    · exact if_neg (by omega)
    · exact ite_self _
  · rename_i e
    split
    · rename_i e2
      refine known_ok W hj fun ρ v S => ?_
      have := S.iv c hc
      exact if_pos (by omega)
    · refine ⟨fok_op (fun p hp => ?_) (by decide) (by decide) rfl (fun n e => (by cases e)), mn_bg (W.spb hi).1 (W.spb hj).1, mx_bg (W.spb hi).2 (W.spb hj).2, fun ρ v S => ⟨rfl, ?_⟩⟩
      · simp only [List.mem_cons, List.not_mem_nil, or_false] at hp
        rcases hp with rfl | rfl | rfl
        · exact hc
        · exact hi
        · exact hj
      · have h1 := S.iv i hi
        have h2 := S.iv j hj
        show mn _ _ ≤ (if v c = 0 then v j else v i) ∧ (if v c = 0 then v j else v i) ≤ mx _ _
        unfold mn mx
        constructor
        · split <;> split <;> omega
        · split <;> split <;> omega
/-! ### the greatest, the least -/
def leK (k : Bk) (a b : Int) : Prop := match k with
  | .min => b ≤ a
  | _ => a ≤ b
def isEx (k : Bk) : Prop := k = .max ∨ k = .min
def Top (k : Bk) (m : Int) (l : List Int) : Prop := m ∈ l ∧ ∀ y ∈ l, leK k y m
theorem leK_anti {k : Bk} (hk : isEx k) {a b : Int} (h : leK k a b) (g : leK k b a) : a = b := by
  rcases hk with rfl | rfl
  · exact Int.le_antisymm h g
  · exact Int.le_antisymm g h
theorem leK_trans {k : Bk} (hk : isEx k) {a b c : Int} (h : leK k a b) (g : leK k b c) : leK k a c := by
  rcases hk with rfl | rfl
  · exact Int.le_trans h g
  · exact Int.le_trans g h
theorem leK_refl {k : Bk} (hk : isEx k) (a : Int) : leK k a a := by
  rcases hk with rfl | rfl
  · exact Int.le_refl a
  · exact Int.le_refl a
theorem Top.uniq {k : Bk} (hk : isEx k) {m n : Int} {l : List Int} (h : Top k m l) (g : Top k n l) : m = n := leK_anti hk (g.2 m h.1) (h.2 n g.1)
theorem opV_top {k : Bk} (hk : isEx k) {l : List Int} (h : l ≠ []) : Top k (opV k l) l := by
  rcases hk with rfl | rfl
  · exact ⟨grt_mem l h, fun y hy => le_grt l y hy⟩
  · exact ⟨lst_mem l h, fun y hy => lst_le l y hy⟩
theorem ptK_two {k : Bk} (hk : isEx k) (x y : Int) : (ptK k [x, y] = x ∨ ptK k [x, y] = y) ∧ leK k x (ptK k [x, y]) ∧ leK k y (ptK k [x, y]) := by
  rcases hk with rfl | rfl
  · show (mx x y = x ∨ mx x y = y) ∧ x ≤ mx x y ∧ y ≤ mx x y
    unfold mx
    split <;> omega
  · show (mn x y = x ∨ mn x y = y) ∧ mn x y ≤ x ∧ mn x y ≤ y
    unfold mn
    split <;> omega
theorem Top.app {k : Bk} (hk : isEx k) {x y : Int} {l m : List Int} (h : Top k x l) (g : Top k y m) : Top k (ptK k [x, y]) (l ++ m) := by
  obtain ⟨p1, p2, p3⟩ := ptK_two hk x y
  refine ⟨?_, fun z hz => ?_⟩
  · rcases p1 with e | e
    · rw [e]
      exact List.mem_append_left _ h.1
    · rw [e]
      exact List.mem_append_right _ g.1
  · rcases List.mem_append.mp hz with hz | hz
    · exact leK_trans hk (h.2 z hz) p2
    · exact leK_trans hk (g.2 z hz) p3
theorem foldK_top {k : Bk} (hk : isEx k) (v : Nat → Int) : ∀ (r : List Nat) (x : Int), Top k (foldK k v x r) (x :: r.map v)
  | [], x => ⟨List.mem_cons_self, fun y hy => by rw [List.mem_singleton.mp hy]; exact leK_refl hk x⟩
  | m :: r, x => by
    obtain ⟨h1, h2⟩ := foldK_top hk v r (ptK k [x, v m])
    obtain ⟨p1, p2, p3⟩ := ptK_two hk x (v m)
    have top := h2 _ List.mem_cons_self
    refine ⟨?_, fun y hy => ?_⟩
    · show foldK k v (ptK k [x, v m]) r ∈ x :: v m :: r.map v
      rcases List.mem_cons.mp h1 with e | e
      · rw [e]
        rcases p1 with e | e
        · rw [e]
          exact List.mem_cons_self
        · rw [e]
          exact List.mem_cons_of_mem _ List.mem_cons_self
      · exact List.mem_cons_of_mem _ (List.mem_cons_of_mem _ e)
    · show leK k y (foldK k v (ptK k [x, v m]) r)
      rcases List.mem_cons.mp hy with rfl | hy
      · exact leK_trans hk p2 top
      · rcases List.mem_cons.mp hy with rfl | hy
        · exact leK_trans hk p3 top
        · exact h2 y (List.mem_cons_of_mem _ hy)
theorem foldK_le {k : Bk} (hk : isEx k) {f g : Nat → Int} : ∀ {r : List Nat} {x y : Int}, (∀ m ∈ r, f m ≤ g m) → x ≤ y → foldK k f x r ≤ foldK k g y r
  | [], _, _, _, h => h
  | m :: r, x, y, hr, h => by
    show foldK k f (ptK k [x, f m]) r ≤ foldK k g (ptK k [y, g m]) r
    refine foldK_le hk (fun n hn => hr n (List.mem_cons_of_mem _ hn)) ?_
    have hm := hr m List.mem_cons_self
    rcases hk with rfl | rfl
    · show mx _ _ ≤ mx _ _
      unfold mx
      split <;> split <;> omega
    · show mn _ _ ≤ mn _ _
      unfold mn
      split <;> split <;> omega
theorem foldK_bg {k : Bk} (hk : isEx k) {b : Nat} {f : Nat → Int} : ∀ {r : List Nat} {x : Int}, (∀ m ∈ r, Bg b (f m)) → Bg b x → Bg b (foldK k f x r)
  | [], _, _, h => h
  | m :: r, x, hr, h => by
    show Bg b (foldK k f (ptK k [x, f m]) r)
    refine foldK_bg hk (fun n hn => hr n (List.mem_cons_of_mem _ hn)) ?_
    have hm := hr m List.mem_cons_self
    rcases (ptK_two hk x (f m)).1 with e | e
    · rw [e]
      exact h
    · rw [e]
      exact hm
theorem isNum_eq {T : Tb} {i : Nat} (h : isNum T i = true) : T.fm i = .num (numOf T i) := by
  unfold isNum at h
  unfold numOf
  cases e : T.fm i with
  | num n => rfl
  | _ => rw [e] at h; cases h
theorem memb_ok {b : Nat} {T : Tb} (W : Wf b T) {k : Bk} (hk : isEx k) {i : Nat} (hi : i < T.fs.length) : (∀ m ∈ memb T k i, m < T.fs.length) ∧ memb T k i ≠ [] ∧ ((memb T k i).filter (isNum T)).length ≤ 1 ∧ ∀ ρ v, Sem T ρ v → Top k (v i) ((memb T k i).map v) := by
  have self : (∀ m ∈ [i], m < T.fs.length) ∧ [i] ≠ [] ∧ (([i] : List Nat).filter (isNum T)).length ≤ 1 ∧ ∀ ρ v, Sem T ρ v → Top k (v i) (([i] : List Nat).map v) := by
    refine ⟨fun m hm => by rw [List.mem_singleton.mp hm]; exact hi, List.cons_ne_nil _ _, List.length_filter_le _ _, fun ρ v S => ⟨List.mem_cons_self, fun y hy => ?_⟩⟩
    rw [List.mem_singleton.mp hy]
    exact leK_refl hk _
  obtain ⟨F, ho⟩ := W.fok hi
  have at0 := fm_at hi
  unfold memb
  cases e : T.fm i with
  | op k' ids =>
    show (∀ m ∈ (if k' = k then ids else [i]), m < T.fs.length) ∧ (if k' = k then ids else [i]) ≠ [] ∧ ((if k' = k then ids else [i]).filter (isNum T)).length ≤ 1 ∧ ∀ ρ v, Sem T ρ v → Top k (v i) ((if k' = k then ids else [i]).map v)
    by_cases hkk : k' = k
    · subst hkk
      rw [if_pos rfl]
      obtain ⟨h1, h2, _⟩ := F.ex k' ids e hk
      refine ⟨fun m hm => F.pa m (by rw [e]; exact hm), h1, h2, fun ρ v S => ?_⟩
      rw [e] at at0
      rw [S.at_ i _ at0]
      exact opV_top hk (fun z => h1 (List.map_eq_nil_iff.mp z))
    · rw [if_neg hkk]
      exact self
  | num n => exact self
  | var n => exact self
  | sum n ps => exact self
  | pick ids => exact self
/-- what became of the members -/
structure Joined (b : Nat) (T : Tb) (k : Bk) (mem : List Nat) (R : Tb × List Nat) : Prop where
  wf : Wf b R.1
  ext : Ext T R.1
  one : R.1.fs.length ≤ T.fs.length + 1
  md : R.1.md = T.md
  vs : R.1.vs = T.vs
  lt : ∀ m ∈ R.2, m < R.1.fs.length
  ne : R.2 ≠ []
  nu : (R.2.filter (isNum R.1)).length ≤ 1
  val : ∀ ρ v, Sem T ρ v → ∀ m, Top k m (mem.map v) → ∃ u, Sem R.1 ρ u ∧ (∀ i, i < T.fs.length → u i = v i) ∧ Top k m (R.2.map u)
theorem joined_ok {b : Nat} {T : Tb} (W : Wf b T) {k : Bk} (hk : isEx k) {mem : List Nat} (hm : ∀ m ∈ mem, m < T.fs.length) (hne : mem ≠ []) (hn : (mem.filter (isNum T)).length ≤ 2) : Joined b T k mem (joined T k mem) := by
  unfold joined
  split
  · rename_i h2
    obtain ⟨x, y, hxy⟩ : ∃ x y, mem.filter (isNum T) = [x, y] := by
      match e : mem.filter (isNum T), hn, h2 with
      | [x, y], _, _ => exact ⟨x, y, rfl⟩
      | [], _, h => exact absurd h (by simp)
      | [_], _, h => exact absurd h (by simp)
      | _ :: _ :: _ :: _, h, _ => exact absurd h (by simp)
    have hx := List.mem_filter.mp (show x ∈ mem.filter (isNum T) by rw [hxy]; exact List.mem_cons_self)
    have hy := List.mem_filter.mp (show y ∈ mem.filter (isNum T) by rw [hxy]; exact List.mem_cons_of_mem _ List.mem_cons_self)
    have ex := isNum_eq hx.2
    have ey := isNum_eq hy.2
    have bx := (W.fok (hm x hx.1)).1.nu _ ex
    have by_ := (W.fok (hm y hy.1)).1.nu _ ey
    have e2 : ((mem.filter (isNum T)).map (numOf T)).take 2 = [numOf T x, numOf T y] := by rw [hxy]; rfl
    rw [e2]
    have bn : Bg b (ptK k [numOf T x, numOf T y]) := by
      rcases (ptK_two hk (numOf T x) (numOf T y)).1 with e | e
      · rw [e]
        exact bx
      · rw [e]
        exact by_
    have F := (settled_ok (T := T) (x := fun _ => ptK k [numOf T x, numOf T y]) bn fun _ _ _ => rfl).fok
    have PL : Placed b T (.num (ptK k [numOf T x, numOf T y])) (ptK k [numOf T x, numOf T y]) (ptK k [numOf T x, numOf T y]) (numberT T (ptK k [numOf T x, numOf T y])) := place_ok W F bn bn
    show Joined b T k mem ((numberT T _).1, _ ++ [(numberT T _).2])
    generalize numberT T (ptK k [numOf T x, numOf T y]) = R at PL
    refine ⟨PL.wf, PL.ext, PL.one, PL.md, PL.vs, fun m h => ?_, by simp, ?_, fun ρ v S m hT => ?_⟩
    · rcases List.mem_append.mp h with h | h
      · exact Nat.lt_of_lt_of_le (hm m (List.mem_filter.mp h).1) PL.ext.len
      · rw [List.mem_singleton.mp h]
        exact PL.lt
    · show ((mem.filter (fun m => !isNum T m) ++ [R.2]).filter (isNum R.1)).length ≤ 1
      rw [List.filter_append, List.length_append]
      have e0 : (mem.filter (fun m => !isNum T m)).filter (isNum R.1) = [] := by
        rw [List.filter_eq_nil_iff]
        intro m h
        obtain ⟨h1, h2⟩ := List.mem_filter.mp h
        have : isNum R.1 m = isNum T m := by
          unfold isNum
          rw [PL.ext.fm (hm m h1)]
        rw [this]
        simpa using h2
      rw [e0, List.length_nil, Nat.zero_add]
      exact List.length_filter_le _ _
    · obtain ⟨u, Su, same, un⟩ := PL.sem ρ v S (Int.le_refl _) (Int.le_refl _)
      refine ⟨u, Su, same, ?_⟩
      have vx : v x = numOf T x := by
        have at0 := fm_at (hm x hx.1)
        rw [ex] at at0
        exact S.at_ x _ at0
      have vy : v y = numOf T y := by
        have at0 := fm_at (hm y hy.1)
        rw [ey] at at0
        exact S.at_ y _ at0
      have un : u R.2 = ptK k [v x, v y] := by
        rw [un, vx, vy]
        rfl
      obtain ⟨p1, p2, p3⟩ := ptK_two hk (v x) (v y)
      obtain ⟨t1, t2⟩ := hT
      have tx := t2 (v x) (List.mem_map.mpr ⟨x, hx.1, rfl⟩)
      have ty := t2 (v y) (List.mem_map.mpr ⟨y, hy.1, rfl⟩)
      have tn : leK k (u R.2) m := by
        rw [un]
        rcases p1 with e | e
        · rw [e]
          exact tx
        · rw [e]
          exact ty
      refine ⟨?_, fun z hz => ?_⟩
      · obtain ⟨z, hz, rfl⟩ := List.mem_map.mp t1
        cases hzn : isNum T z with
        | false =>
          rw [List.map_append]
          refine List.mem_append_left _ (List.mem_map.mpr ⟨z, List.mem_filter.mpr ⟨hz, by rw [hzn]; rfl⟩, same z (hm z hz)⟩)
        | true =>
          have hz2 : z ∈ [x, y] := by
            rw [← hxy]
            exact List.mem_filter.mpr ⟨hz, hzn⟩
          have ge : leK k (v z) (u R.2) := by
            rw [un]
            rcases List.mem_cons.mp hz2 with rfl | hz2
            · exact p2
            · rw [List.mem_singleton.mp hz2]
              exact p3
          rw [leK_anti hk ge tn, List.map_append]
          exact List.mem_append_right _ List.mem_cons_self
      · obtain ⟨q, hq, rfl⟩ := List.mem_map.mp hz
        rcases List.mem_append.mp hq with hq | hq
        · have hq1 := (List.mem_filter.mp hq).1
          rw [same q (hm q hq1)]
          exact t2 _ (List.mem_map.mpr ⟨q, hq1, rfl⟩)
        · rw [List.mem_singleton.mp hq]
          exact tn
  · rename_i h2
    exact ⟨W, Ext.refl T, Nat.le_succ _, rfl, rfl, hm, hne, Nat.not_lt.mp h2, fun ρ v S m hT => ⟨v, S, fun _ _ => rfl, hT⟩⟩
theorem insS_mem {a x : Nat} : ∀ {l : List Nat}, x ∈ insS a l ↔ x = a ∨ x ∈ l
  | [] => by simp [insS]
  | b :: r => by
    unfold insS
    split
    · simp
    · split
      · rename_i e
        subst e
        simp
      · rw [List.mem_cons, insS_mem (l := r), List.mem_cons]
        constructor
        · rintro (h | h | h)
          · exact .inr (.inl h)
          · exact .inl h
          · exact .inr (.inr h)
        · rintro (h | h | h)
          · exact .inr (.inl h)
          · exact .inl h
          · exact .inr (.inr h)
theorem sortS_mem {x : Nat} : ∀ {l : List Nat}, x ∈ sortS l ↔ x ∈ l
  | [] => Iff.rfl
  | a :: r => by
    show x ∈ insS a (sortS r) ↔ _
    rw [insS_mem, sortS_mem, List.mem_cons]
theorem insS_sorted {a : Nat} : ∀ {l : List Nat}, l.Pairwise (· < ·) → (insS a l).Pairwise (· < ·)
  | [], _ => List.pairwise_singleton _ _
  | b :: r, h => by
    unfold insS
    have h' := List.pairwise_cons.mp h
    split
    · rename_i e
      refine List.pairwise_cons.mpr ⟨fun x hx => ?_, h⟩
      rcases List.mem_cons.mp hx with rfl | hx
      · exact e
      · exact Nat.lt_trans e (h'.1 x hx)
    · split
      · exact h
      · rename_i e1 e2
        refine List.pairwise_cons.mpr ⟨fun x hx => ?_, insS_sorted h'.2⟩
        rcases insS_mem.mp hx with rfl | hx
        · omega
        · exact h'.1 x hx
theorem sortS_sorted : ∀ l : List Nat, (sortS l).Pairwise (· < ·)
  | [] => .nil
  | a :: r => insS_sorted (sortS_sorted r)
theorem insS_filter (p : Nat → Bool) (a : Nat) : ∀ l : List Nat, ((insS a l).filter p).length ≤ ((a :: l).filter p).length
  | [] => Nat.le_refl _
  | b :: r => by
    unfold insS
    split
    · exact Nat.le_refl _
    · split
      · rw [List.filter_cons (x := a)]
        split
        · rw [List.length_cons]
          omega
        · exact Nat.le_refl _
      · have ih := insS_filter p a r
        rw [List.filter_cons] at ih
        rw [List.filter_cons (x := b), List.filter_cons (x := a), List.filter_cons (x := b)]
        split <;> split <;> simp_all <;> omega
theorem sortS_filter (p : Nat → Bool) : ∀ l : List Nat, ((sortS l).filter p).length ≤ (l.filter p).length
  | [] => Nat.le_refl _
  | a :: r => by
    refine Nat.le_trans (insS_filter p a (sortS r)) ?_
    have ih := sortS_filter p r
    rw [List.filter_cons, List.filter_cons]
    split
    · rw [List.length_cons, List.length_cons]
      omega
    · exact ih
theorem sortS_ne {l : List Nat} (h : l ≠ []) : sortS l ≠ [] := fun z => by
  match l, h with
  | a :: r, _ =>
    have : a ∈ sortS (a :: r) := sortS_mem.mpr List.mem_cons_self
    rw [z] at this
    cases this
theorem sorted_ext : ∀ {l m : List Nat}, l.Pairwise (· < ·) → m.Pairwise (· < ·) → (∀ x, x ∈ l ↔ x ∈ m) → l = m
  | [], [], _, _, _ => rfl
  | [], b :: m, _, _, h => by have := (h b).mpr List.mem_cons_self; cases this
  | a :: l, [], _, _, h => by have := (h a).mp List.mem_cons_self; cases this
  | a :: l, b :: m, h1, h2, h => by
    rw [List.pairwise_cons] at h1 h2
    have e : a = b := by
      rcases List.mem_cons.mp ((h a).mp List.mem_cons_self) with e | e
      · exact e
      · rcases List.mem_cons.mp ((h b).mpr List.mem_cons_self) with g | g
        · exact g.symm
        · have := h2.1 a e
          have := h1.1 b g
          omega
    subst e
    congr 1
    refine sorted_ext h1.2 h2.2 fun x => ?_
    have hx := h x
    rw [List.mem_cons, List.mem_cons] at hx
    constructor
    · intro hm
      rcases hx.mp (.inr hm) with e | e
      · have := h1.1 x hm
        omega
      · exact e
    · intro hm
      rcases hx.mpr (.inr hm) with e | e
      · have := h2.1 x hm
        omega
      · exact e
theorem extF_ok {b : Nat} {T : Tb} (W : Wf b T) {k : Bk} (hk : isEx k) {l : List Nat} (hl : ∀ m ∈ l, m < T.fs.length) (hne : l ≠ []) (hn : (l.filter (isNum T)).length ≤ 1) (nd : l.Nodup) : Made b T (extF T k l) fun v => opV k (l.map v) := by
  match l, hl, hne, hn, nd with
  | [m], hl, _, _, _ =>
    refine known_ok W (hl m List.mem_cons_self) fun ρ v S => ?_
    rcases hk with rfl | rfl
    · rfl
    · rfl
  | m :: m2 :: r, hl, hne, hn, nd =>
    have hr : ∀ x ∈ m2 :: r, x < T.fs.length := fun x hx => hl x (List.mem_cons_of_mem _ hx)
    have hm := hl m List.mem_cons_self
    refine ⟨⟨hl, fun _ e => (by cases e), fun _ _ e => (by cases e), fun k' ids e h1 h2 => ?_, fun k' ids e _ => ?_, fun n ids e => ?_, fun _ e => (by cases e), fun _ e => (by cases e)⟩, foldK_bg hk (fun x hx => (W.spb (hr x hx)).1) (W.spb hm).1, foldK_bg hk (fun x hx => (W.spb (hr x hx)).2) (W.spb hm).2, fun ρ v S => ⟨rfl, ?_⟩⟩
    · cases e
      rcases hk with h | h
      · exact absurd h h1
      · exact absurd h h2
    · cases e
      exact ⟨List.cons_ne_nil _ _, hn, nd⟩
    · cases e
      rcases hk with h | h
      · cases h
      · cases h
    · have e : opV k ((m :: m2 :: r).map v) = foldK k v (v m) (m2 :: r) := Top.uniq hk (opV_top hk (by simp)) (foldK_top hk v (m2 :: r) (v m))
      show foldK k T.lo (T.lo m) (m2 :: r) ≤ _ ∧ _ ≤ foldK k T.hi (T.hi m) (m2 :: r)
      rw [e]
      exact ⟨foldK_le hk (fun x hx => (S.iv x (hr x hx)).1) (S.iv m hm).1, foldK_le hk (fun x hx => (S.iv x (hr x hx)).2) (S.iv m hm).2⟩
/-! ### all makers -/
def KC : Bk → Prop
  | .clamp l h => l ≤ h ∧ Bg 200 l ∧ Bg 200 h
  | .shift n => 1 ≤ n ∧ n ≤ 30
  | _ => True
structure MadeT (b : Nat) (T : Tb) (R : Tb × Fm × Int × Int) (x : (Nat → Int) → Int) : Prop where
  wf : Wf b R.1
  ext : Ext T R.1
  one : R.1.fs.length ≤ T.fs.length + 1
  md : R.1.md = T.md
  vs : R.1.vs = T.vs
  fok : FOk b R.1 R.2.1
  lo : Bg b R.2.2.1
  hi : Bg b R.2.2.2
  val : ∀ ρ v, Sem T ρ v → ∃ u, Sem R.1 ρ u ∧ (∀ i, i < T.fs.length → u i = v i) ∧ fmV ρ u R.2.1 = x v ∧ R.2.2.1 ≤ x v ∧ x v ≤ R.2.2.2
theorem Made.t {b c : Nat} {T : Tb} {R : Fm × Int × Int} {x : (Nat → Int) → Int} (W : Wf b T) (bc : b ≤ c) (h : Made c T R x) : MadeT c T (T, R) x :=
  ⟨W.mono bc, Ext.refl T, Nat.le_succ _, rfl, rfl, h.fok, h.lo, h.hi, fun ρ v S => ⟨v, S, fun _ _ => rfl, h.val ρ v S⟩⟩
theorem ext_ok {b : Nat} {T : Tb} (W : Wf b T) {k : Bk} (hk : isEx k) {i j : Nat} (hi : i < T.fs.length) (hj : j < T.fs.length) :
    MadeT b T ((joined T k (memb T k i ++ memb T k j)).1, extF (joined T k (memb T k i ++ memb T k j)).1 k (sortS (joined T k (memb T k i ++ memb T k j)).2)) fun v => ptK k [v i, v j] := by
  obtain ⟨a1, a2, a3, a4⟩ := memb_ok W hk hi
  obtain ⟨b1, b2, b3, b4⟩ := memb_ok W hk hj
  have J := joined_ok W hk (mem := memb T k i ++ memb T k j) (fun m hm => by
    rcases List.mem_append.mp hm with h | h
    · exact a1 m h
    · exact b1 m h) (by simp [a2]) (by rw [List.filter_append, List.length_append]; omega)
  generalize joined T k (memb T k i ++ memb T k j) = R at J
  have M := extF_ok J.wf hk (l := sortS R.2) (fun m hm => J.lt m (sortS_mem.mp hm)) (sortS_ne J.ne) (Nat.le_trans (sortS_filter _ _) J.nu) ((sortS_sorted R.2).imp fun h => Nat.ne_of_lt h)
  refine ⟨J.wf, J.ext, J.one, J.md, J.vs, M.fok, M.lo, M.hi, fun ρ v S => ?_⟩
  have hT := Top.app hk (a4 ρ v S) (b4 ρ v S)
  rw [← List.map_append] at hT
  obtain ⟨u, Su, same, top⟩ := J.val ρ v S _ hT
  have e : opV k ((sortS R.2).map u) = ptK k [v i, v j] := by
    refine Top.uniq hk (opV_top hk fun z => sortS_ne J.ne (List.map_eq_nil_iff.mp z)) ⟨?_, fun y hy => ?_⟩
    · obtain ⟨z, hz, e⟩ := List.mem_map.mp top.1
      exact List.mem_map.mpr ⟨z, sortS_mem.mpr hz, e⟩
    · obtain ⟨z, hz, e⟩ := List.mem_map.mp hy
      exact top.2 y (List.mem_map.mpr ⟨z, sortS_mem.mp hz, e⟩)
  have := M.val ρ u Su
  rw [e] at this
  exact ⟨u, Su, same, this⟩
theorem mkForm_ok {b : Nat} {T : Tb} (W : Wf b T) (hb : 200 ≤ b) (hL : T.fs.length ≤ 60) {k : Bk} {ids : List Nat} (hl : ids.length = k.ar) (hk : KC k) (hi : ∀ i ∈ ids, i < T.fs.length ∧ Small T i) :
    MadeT (b + 212) T (mkForm T k ids) fun v => ptK k (ids.map v) := by
  have up : ∀ {R : Tb × Fm × Int × Int} {x : (Nat → Int) → Int}, MadeT b T R x → MadeT (b + 212) T R x := fun h => ⟨h.wf.mono (by omega), h.ext, h.one, h.md, h.vs, h.fok.mono h.wf.len (Ext.refl _) (by omega), h.lo.mono (by omega), h.hi.mono (by omega), h.val⟩
  have bc : b ≤ b + 212 := by omega
  have two : k.ar = 2 → ∃ i j, ids = [i, j] ∧ i < T.fs.length ∧ j < T.fs.length ∧ Small T i ∧ Small T j := fun e => by
    match ids, hl.trans e, hi with
    | [i, j], _, hi => exact ⟨i, j, rfl, (hi i List.mem_cons_self).1, (hi j (by simp)).1, (hi i List.mem_cons_self).2, (hi j (by simp)).2⟩
  have one : k.ar = 1 → ∃ i, ids = [i] ∧ i < T.fs.length ∧ Small T i := fun e => by
    match ids, hl.trans e, hi with
    | [i], _, hi => exact ⟨i, rfl, (hi i List.mem_cons_self).1, (hi i List.mem_cons_self).2⟩
  cases k with
  | add =>
    obtain ⟨i, j, rfl, h1, h2, s1, s2⟩ := two rfl
    have M := plus_ok W hb hL h1 h2 s1 s2 (.inl rfl)
    refine Made.t W bc ⟨M.fok, M.lo, M.hi, fun ρ v S => ?_⟩
    have := M.val ρ v S
    rw [Int.one_mul] at this
    exact this
  | sub =>
    obtain ⟨i, j, rfl, h1, h2, s1, s2⟩ := two rfl
    have M := plus_ok W hb hL h1 h2 s1 s2 (.inr rfl)
    refine Made.t W bc ⟨M.fok, M.lo, M.hi, fun ρ v S => ?_⟩
    have := M.val ρ v S
    rw [Int.neg_mul, Int.one_mul, ← Int.sub_eq_add_neg] at this
    exact this
  | mul =>
    obtain ⟨i, j, rfl, h1, h2, s1, s2⟩ := two rfl
    exact Made.t W bc (mul_ok W hb h1 h2 s1 s2)
  | max =>
    obtain ⟨i, j, rfl, h1, h2, s1, s2⟩ := two rfl
    exact up (ext_ok W (.inl rfl) h1 h2)
  | min =>
    obtain ⟨i, j, rfl, h1, h2, s1, s2⟩ := two rfl
    exact up (ext_ok W (.inr rfl) h1 h2)
  | less =>
    obtain ⟨i, j, rfl, h1, h2, s1, s2⟩ := two rfl
    exact Made.t W bc ((less_ok W hb h1 h2).mono W.len bc)
  | equal =>
    obtain ⟨i, j, rfl, h1, h2, s1, s2⟩ := two rfl
    exact Made.t W bc ((equal_ok W hb h1 h2).mono W.len bc)
  | neg =>
    obtain ⟨i, rfl, h1, s1⟩ := one rfl
    have M := times_ok W hb h1 s1 (y := -1) (bg_neg (bg_one (by decide)))
    refine Made.t W bc ⟨M.fok, M.lo, M.hi, fun ρ v S => ?_⟩
    have := M.val ρ v S
    rw [Int.neg_mul, Int.one_mul] at this
    exact this
  | clamp l h =>
    obtain ⟨i, rfl, h1, s1⟩ := one rfl
    exact Made.t W bc ((clamp_ok W hb h1 hk.1 hk.2.1 hk.2.2).mono W.len bc)
  | shift n =>
    obtain ⟨i, rfl, h1, s1⟩ := one rfl
    exact Made.t W bc ((shift_ok hb h1 s1 hk.1 hk.2).mono W.len (by omega))
  | wher =>
    match ids, hl, hi with
    | [c, i, j], _, hi => exact Made.t W bc ((where_ok W (hi c (by simp)).1 (hi i (by simp)).1 (hi j (by simp)).1).mono W.len bc)
/-- what a term made is -/
structure Got (b : Nat) (T : Tb) (R : Tb × Nat) (x : (Nat → Int) → Int) : Prop where
  wf : Wf b R.1
  ext : Ext T R.1
  two : R.1.fs.length ≤ T.fs.length + 2
  vs : R.1.vs = T.vs
  lt : R.2 < R.1.fs.length
  sem : ∀ ρ v, Sem T ρ v → ∃ u, Sem R.1 ρ u ∧ (∀ i, i < T.fs.length → u i = v i) ∧ u R.2 = x v
theorem Sem.agree {b : Nat} {T T' : Tb} (_W : Wf b T) {ρ : PyData → Int} {v : Nat → Int} (_S : Sem T' ρ v) : True := trivial
theorem put_ok {b : Nat} {T : Tb} {R : Tb × Fm × Int × Int} {x : (Nat → Int) → Int} (M : MadeT b T R x) : Wf b (putT R.1 R.2.1 R.2.2.1 R.2.2.2).1 ∧ Ext T (putT R.1 R.2.1 R.2.2.1 R.2.2.2).1 ∧ (putT R.1 R.2.1 R.2.2.1 R.2.2.2).1.fs.length ≤ T.fs.length + 2 ∧ (putT R.1 R.2.1 R.2.2.1 R.2.2.2).1.vs = T.vs ∧ (putT R.1 R.2.1 R.2.2.1 R.2.2.2).1.md = T.md ∧
    (putT R.1 R.2.1 R.2.2.1 R.2.2.2).2 < (putT R.1 R.2.1 R.2.2.1 R.2.2.2).1.fs.length ∧ ∀ ρ v, Sem T ρ v → ∃ u, Sem (putT R.1 R.2.1 R.2.2.1 R.2.2.2).1 ρ u ∧ (∀ i, i < T.fs.length → u i = v i) ∧ u (putT R.1 R.2.1 R.2.2.1 R.2.2.2).2 = x v := by
  unfold putT
  have lens := M.ext.len
  split
  · rename_i e
    have PL := place_ok M.wf (settled_ok (T := R.1) (x := fun _ => R.2.2.1) M.lo fun _ _ _ => rfl).fok M.lo M.lo
    have one := M.one
    refine ⟨PL.wf, M.ext.trans PL.ext, Nat.le_trans PL.one (by omega), PL.vs.trans M.vs, PL.md.trans M.md, PL.lt, fun ρ v S => ?_⟩
    obtain ⟨u, Su, s1, h1, h2, h3⟩ := M.val ρ v S
    obtain ⟨u2, Su2, s2, h4⟩ := PL.sem ρ u Su (Int.le_refl _) (Int.le_refl _)
    refine ⟨u2, Su2, fun i hi => (s2 i (Nat.lt_of_lt_of_le hi lens)).trans (s1 i hi), ?_⟩
    have h4 : u2 (numberT R.1 R.2.2.1).2 = R.2.2.1 := h4
    rw [h4]
    omega
  · have PL := place_ok M.wf M.fok M.lo M.hi
    have one := M.one
    refine ⟨PL.wf, M.ext.trans PL.ext, Nat.le_trans PL.one (by omega), PL.vs.trans M.vs, PL.md.trans M.md, PL.lt, fun ρ v S => ?_⟩
    obtain ⟨u, Su, s1, h1, h2, h3⟩ := M.val ρ v S
    obtain ⟨u2, Su2, s2, h4⟩ := PL.sem ρ u Su (by rw [h1]; exact h2) (by rw [h1]; exact h3)
    exact ⟨u2, Su2, fun i hi => (s2 i (Nat.lt_of_lt_of_le hi lens)).trans (s1 i hi), h4.trans h1⟩
theorem lookup_mem {α β : Type} [BEq α] [LawfulBEq α] {a : α} {x : β} : ∀ {l : List (α × β)}, l.lookup a = some x → (a, x) ∈ l
  | [], h => by cases h
  | (c, y) :: l, h => by
    rw [List.lookup_cons] at h
    by_cases e : a == c
    · rw [e] at h
      rw [eq_of_beq e]
      cases h
      exact List.mem_cons_self
    · rw [Bool.eq_false_iff.mpr e] at h
      exact List.mem_cons_of_mem _ (lookup_mem h)
theorem make_ok {b : Nat} {T : Tb} (W : Wf b T) (hb : 200 ≤ b) (hL : T.fs.length ≤ 60) {k : Bk} {ids : List Nat} (hl : ids.length = k.ar) (hk : KC k) (hi : ∀ i ∈ ids, i < T.fs.length ∧ Small T i) :
    Got (b + 212) T (makeT T k ids) fun v => ptK k (ids.map v) := by
  unfold makeT
  cases e : T.md.lookup (k, ids) with
  | some i =>
    have hm := lookup_mem e
    exact ⟨W.mono (by omega), Ext.refl T, Nat.le_add_right _ 2, rfl, (W.md _ hm).1, fun ρ v S => ⟨v, S, fun _ _ => rfl, S.md _ hm⟩⟩
  | none =>
    have M := mkForm_ok W hb hL hl hk hi
    obtain ⟨w, x, two, hvs, hmd, lt, sem⟩ := put_ok M
    dsimp only
    generalize putT (mkForm T k ids).1 (mkForm T k ids).2.1 (mkForm T k ids).2.2.1 (mkForm T k ids).2.2.2 = R at *
    have inn : ∀ p ∈ ids, p < R.1.fs.length := fun p hp => Nat.lt_of_lt_of_le (hi p hp).1 x.len
    refine ⟨⟨w.len, w.nd, fun i f hf => ⟨?_, (w.fo i f hf).2⟩, w.sb, fun en hen => ?_⟩, ⟨x.fs, x.sp⟩, two, hvs, lt, fun ρ v S => ?_⟩
    · have F := (w.fo i f hf).1
      exact ⟨F.pa, F.nu, F.su, F.ar, F.ex, F.sh, F.pk, F.vk⟩
    · rcases List.mem_append.mp hen with h | h
      · exact w.md en h
      · rw [List.mem_singleton.mp h]
        exact ⟨lt, inn⟩
    · obtain ⟨u, Su, same, val⟩ := sem ρ v S
      refine ⟨u, ⟨Su.at_, Su.iv, fun en hen => ?_⟩, same, val⟩
      rcases List.mem_append.mp hen with h | h
      · exact Su.md en h
      · rw [List.mem_singleton.mp h]
        show u R.2 = ptK k (ids.map u)
        rw [val]
        congr 1
        exact List.map_congr_left fun p hp => (same p (hi p hp).1).symm
/-! ### forms and tables in the heap -/
def IsT : HO → Prop
  | .tup _ => True
  | .frz _ (.tup _) => True
  | _ => False
/-- tuples stand -/
def KT (H H' : Hp) : Prop := ∀ b o, IsT o → H b = some o → H' b = some o
theorem KT.refl (H : Hp) : KT H H := fun _ _ _ h => h
theorem KT.trans {H H1 H2 : Hp} (a : KT H H1) (b : KT H1 H2) : KT H H2 := fun c o i h => b c o i (a c o i h)
theorem Same.kt {H H' : Hp} (s : Same H H') : KT H H' := fun b o _ h => s b o h
/-- all but these places stand -/
def Keep (S : List Addr) (H H' : Hp) : Prop := ∀ b o, b ∉ S → H b = some o → H' b = some o
theorem Keep.refl (S : List Addr) (H : Hp) : Keep S H H := fun _ _ _ h => h
theorem Keep.trans {S : List Addr} {H H1 H2 : Hp} (a : Keep S H H1) (b : Keep S H1 H2) : Keep S H H2 := fun c o n h => b c o n (a c o n h)
theorem Same.keeps {S : List Addr} {H H' : Hp} (s : Same H H') : Keep S H H' := fun b o _ h => s b o h
theorem Keep.nil {H H' : Hp} (k : Keep [] H H') : Same H H' := fun b o h => k b o List.not_mem_nil h
theorem Keep.kt {S : List Addr} {H H' : Hp} (k : Keep S H H') (h : ∀ b ∈ S, ∀ o, H b = some o → ¬ IsT o) : KT H H' := fun b o i e => k b o (fun m => h b m o e i) e
theorem But.keeps {d : Addr} {H H' : Hp} (k : But d H H') : Keep [d] H H' := fun b o n h => by rw [k b (fun z => n (by rw [z]; exact List.mem_cons_self))]; exact h
theorem But.kt {d : Addr} {H H' : Hp} (k : But d H H') {xs : List V} (h : H d = some (.lst xs)) : KT H H' := fun b o i e => by
  rw [k b (fun z => by
    rw [z, h] at e
    cases e
    exact i)]
  exact e
theorem sqT_kt {K : PySem.W.Frag} {H H' : Hp} {a : Addr} {xs : List V} (h : SqT K H a xs) (k : KT H H') : SqT K H' a xs := by
  rcases h with (h | ⟨o, h⟩) | h
  · exact .inl (.inl (k _ _ trivial h))
  · exact .inl (.inr ⟨o, k _ _ trivial h⟩)
  · exact .inr h
theorem KT.keepT {K : PySem.W.Frag} {H H' : Hp} (k : KT H H') : KeepT K H H' := fun _ _ h => sqT_kt h k
/-- a tuple with nothing of its own -/
def TupP (H : Hp) (a : Addr) (xs : List V) : Prop := ∃ o, Pln o ∧ H a = some (.frz o (.tup xs))
theorem TupP.kt {H H' : Hp} {a : Addr} {xs : List V} (h : TupP H a xs) (k : KT H H') : TupP H' a xs := let ⟨o, p, e⟩ := h; ⟨o, p, k _ _ trivial e⟩
theorem TupP.sq {K : PySem.W.Frag} {H : Hp} {a : Addr} {xs : List V} (h : TupP H a xs) : SqT K H a xs := let ⟨o, _, e⟩ := h; .inl (.inr ⟨o, e⟩)
theorem TupP.noD {K : PySem.W.Frag} {H : Hp} {a : Addr} {xs : List V} (h : TupP H a xs) : NoD K H a := let ⟨o, p, e⟩ := h; ⟨o, p, .inl ⟨_, e⟩⟩
def PrAt (H : Hp) (v : V) (p : Nat × Int) : Prop := ∃ t, v = .ref t ∧ H t = some (.tup [.int (p.1 : Int), .int p.2])
def PrsAt (H : Hp) (ts : List V) (ps : List (Nat × Int)) : Prop := ts.length = ps.length ∧ ∀ (i : Nat) (v : V) (p : Nat × Int), ts[i]? = some v → ps[i]? = some p → PrAt H v p
theorem PrsAt.kt {H H' : Hp} {ts : List V} {ps : List (Nat × Int)} (h : PrsAt H ts ps) (k : KT H H') : PrsAt H' ts ps := ⟨h.1, fun i v p a b => by
  obtain ⟨t, e, g⟩ := h.2 i v p a b
  exact ⟨t, e, k _ _ trivial g⟩⟩
theorem PrsAt.nil {H : Hp} : PrsAt H [] [] := ⟨rfl, fun i v p h => by cases h⟩
theorem PrsAt.snoc {H : Hp} {ts : List V} {ps : List (Nat × Int)} {v : V} {p : Nat × Int} (h : PrsAt H ts ps) (g : PrAt H v p) : PrsAt H (ts ++ [v]) (ps ++ [p]) := by
  refine ⟨by rw [List.length_append, List.length_append, h.1]; rfl, fun i x q a b => ?_⟩
  by_cases hi : i < ts.length
  · rw [List.getElem?_append_left hi] at a
    rw [List.getElem?_append_left (by rw [← h.1]; exact hi)] at b
    exact h.2 i x q a b
  · rw [List.getElem?_append_right (by omega)] at a
    rw [List.getElem?_append_right (by rw [← h.1]; omega), ← h.1] at b
    cases e : i - ts.length with
    | zero =>
      rw [e] at a b
      cases a
      cases b
      exact g
    | succ n =>
      rw [e] at a
      cases a
theorem PrsAt.at_ {H : Hp} {ts : List V} {ps : List (Nat × Int)} (h : PrsAt H ts ps) {i : Nat} {v : V} (hv : ts[i]? = some v) : ∃ p, ps[i]? = some p ∧ PrAt H v p := by
  have hi : i < ps.length := by rw [← h.1]; exact (List.getElem?_eq_some_iff.mp hv).1
  exact ⟨ps[i], List.getElem?_eq_getElem hi, h.2 i v _ hv (List.getElem?_eq_getElem hi)⟩
def FmAt (K : PySem.W.Frag) (H : Hp) (p : Addr) : Fm → Prop
  | .num n => SqT K H p [.str "number", .int n]
  | .var k => ∃ a, SqT K H p [.str "variable", .ref a] ∧ KeyV K H a k ∧ (keyD k).depth ≤ 7
  | .sum n ps => ∃ a ts, SqT K H p [.str "sum", .int n, .ref a] ∧ SqT K H a ts ∧ PrsAt H ts ps
  | .op k ids => ∃ a c, SqT K H p [.str k.nm, .ref a, .ref c] ∧ SqT K H a ((asInts ids).map V.int) ∧ (isEx k → TupP H a ((asInts ids).map V.int)) ∧ SqT K H c (k.is.map V.int)
  | .pick ids => ∃ a c, SqT K H p [.str "pick", .ref a, .ref c] ∧ SqT K H a ((asInts ids).map V.int) ∧ SqT K H c []
theorem FmAt.kt {K : PySem.W.Frag} {H H' : Hp} {p : Addr} {f : Fm} (h : FmAt K H p f) (k : KT H H') : FmAt K H' p f := by
  cases f with
  | num n => exact sqT_kt h k
  | var x =>
    obtain ⟨a, h1, h2, h3⟩ := h
    exact ⟨a, sqT_kt h1 k, h2.kt k.keepT, h3⟩
  | sum n ps =>
    obtain ⟨a, ts, h1, h2, h3⟩ := h
    exact ⟨a, ts, sqT_kt h1 k, sqT_kt h2 k, h3.kt k⟩
  | op b ids =>
    obtain ⟨a, c, h1, h2, h3, h4⟩ := h
    exact ⟨a, c, sqT_kt h1 k, sqT_kt h2 k, fun e => (h3 e).kt k, sqT_kt h4 k⟩
  | pick ids =>
    obtain ⟨a, c, h1, h2, h3⟩ := h
    exact ⟨a, c, sqT_kt h1 k, sqT_kt h2 k, sqT_kt h3 k⟩
def prD (p : Nat × Int) : PyData := .tuple [.int (p.1 : Int), .int p.2]
def opD (k : Bk) (ids : List Nat) : PyData := .tuple [.str k.nm, .tuple ((asInts ids).map PyData.int), .tuple (k.is.map PyData.int)]
def fmD : Fm → PyData
  | .num n => .tuple [.str "number", .int n]
  | .var k => .tuple [.str "variable", k]
  | .sum n ps => .tuple [.str "sum", .int n, .tuple (ps.map prD)]
  | .op k ids => opD k ids
  | .pick ids => .tuple [.str "pick", .tuple ((asInts ids).map PyData.int), .tuple []]
theorem dp_ints {K : PySem.W.Frag} {H : Hp} : ∀ ns : List Int, DpAll K H (ns.map V.int) (ns.map PyData.int)
  | [] => .nil
  | n :: ns => .cons (.int n) (dp_ints ns)
theorem dp_prs {K : PySem.W.Frag} {H : Hp} : ∀ {ts : List V} {ps : List (Nat × Int)}, PrsAt H ts ps → DpAll K H ts (ps.map prD)
  | [], [], _ => .nil
  | v :: ts, p :: ps, h => by
    obtain ⟨t, rfl, e⟩ := h.2 0 v p rfl rfl
    refine .cons (.tup (SqT.of e) (.cons (.int _) (.cons (.int _) .nil))) (dp_prs ⟨Nat.succ.inj h.1, fun i v p a b => h.2 (i + 1) v p a b⟩)
  | [], _ :: _, h => absurd h.1 (by simp)
  | _ :: _, [], h => absurd h.1 (by simp)
theorem dp_op {K : PySem.W.Frag} {H : Hp} {p a c : Addr} {k : Bk} {ids : List Nat} (h1 : SqT K H p [.str k.nm, .ref a, .ref c]) (h2 : SqT K H a ((asInts ids).map V.int)) (h4 : SqT K H c (k.is.map V.int)) : Dp K H (.ref p) (opD k ids) :=
  .tup h1 (.cons (.str _) (.cons (.tup h2 (dp_ints _)) (.cons (.tup h4 (dp_ints _)) .nil)))
theorem fm_dp {K : PySem.W.Frag} {H : Hp} {p : Addr} {f : Fm} (h : FmAt K H p f) : Dp K H (.ref p) (fmD f) := by
  cases f with
  | num n => exact .tup h (.cons (.str _) (.cons (.int _) .nil))
  | var x =>
    obtain ⟨a, h1, h2, _⟩ := h
    exact .tup h1 (.cons (.str _) (.cons h2.1 .nil))
  | sum n ps =>
    obtain ⟨a, ts, h1, h2, h3⟩ := h
    exact .tup h1 (.cons (.str _) (.cons (.int _) (.cons (.tup h2 (dp_prs h3)) .nil)))
  | op k ids =>
    obtain ⟨a, c, h1, h2, h3, h4⟩ := h
    exact dp_op h1 h2 h4
  | pick ids =>
    obtain ⟨a, c, h1, h2, h3⟩ := h
    exact .tup h1 (.cons (.str _) (.cons (.tup h2 (dp_ints _)) (.cons (.tup h3 .nil) .nil)))
theorem plainDs_ints : ∀ ns : List Int, plainDs (ns.map PyData.int) = true
  | [] => rfl
  | n :: ns => by
    rw [List.map_cons]
    simp only [plainDs, plainD, plainDs_ints ns]
    rfl
theorem plainDs_prs : ∀ ps : List (Nat × Int), plainDs (ps.map prD) = true
  | [] => rfl
  | p :: ps => by
    rw [List.map_cons]
    simp only [prD, plainDs, plainD, plainDs_prs ps]
    rfl
theorem depthAll_ints : ∀ ns : List Int, NestedKey.depthAll (keyDs (ns.map PyData.int)) = 0
  | [] => rfl
  | n :: ns => by
    rw [List.map_cons]
    simp only [keyDs, keyD, NestedKey.depthAll, NestedKey.depth, depthAll_ints ns]
    rfl
theorem depthAll_prs : ∀ ps : List (Nat × Int), NestedKey.depthAll (keyDs (ps.map prD)) ≤ 1
  | [] => Nat.zero_le _
  | p :: ps => by
    rw [List.map_cons]
    have ih := depthAll_prs ps
    simp only [prD, keyDs, keyD, NestedKey.depthAll, NestedKey.depth]
    omega
/-- a key of a variable -/
def VarK (k : PyData) : Prop := plainD k = true ∧ (keyD k).depth ≤ 7
def plF : Fm → Prop
  | .var k => VarK k
  | _ => True
theorem opD_key (k : Bk) (ids : List Nat) : plainD (opD k ids) = true ∧ (keyD (opD k ids)).depth ≤ 8 := by
  constructor
  · simp only [opD, plainD, plainDs, plainDs_ints]
    rfl
  · simp only [opD, keyD, keyDs, NestedKey.depth, NestedKey.depthAll, depthAll_ints]
    omega
theorem fmD_key {f : Fm} (h : plF f) : plainD (fmD f) = true ∧ (keyD (fmD f)).depth ≤ 8 := by
  cases f with
  | num n => exact ⟨rfl, by show NestedKey.depth _ ≤ 8; simp only [fmD, keyD, keyDs, NestedKey.depth, NestedKey.depthAll]; omega⟩
  | var k =>
    obtain ⟨h1, h2⟩ := h
    refine ⟨?_, ?_⟩
    · simp only [fmD, plainD, plainDs, h1]
      rfl
    · simp only [fmD, keyD, keyDs, NestedKey.depth, NestedKey.depthAll]
      omega
  | sum n ps =>
    refine ⟨?_, ?_⟩
    · simp only [fmD, plainD, plainDs, plainDs_prs]
      rfl
    · have := depthAll_prs ps
      simp only [fmD, keyD, keyDs, NestedKey.depth, NestedKey.depthAll]
      omega
  | op k ids => exact opD_key k ids
  | pick ids =>
    refine ⟨?_, ?_⟩
    · simp only [fmD, plainD, plainDs, plainDs_ints]
      rfl
    · simp only [fmD, keyD, keyDs, NestedKey.depth, NestedKey.depthAll, depthAll_ints]
      omega
theorem fm_key {K : PySem.W.Frag} {H : Hp} {p : Addr} {f : Fm} (h : FmAt K H p f) (hp : plF f) : KeyV K H p (fmD f) := ⟨fm_dp h, fmD_key hp⟩
theorem map_int_inj : ∀ {a b : List Int}, a.map PyData.int = b.map PyData.int → a = b
  | [], [], _ => rfl
  | a :: as, b :: bs, h => by
    rw [List.map_cons, List.map_cons] at h
    injection h with h1 h2
    injection h1 with h1
    rw [h1, map_int_inj h2]
  | [], _ :: _, h => by cases h
  | _ :: _, [], h => by cases h
theorem asInts_inj : ∀ {a b : List Nat}, asInts a = asInts b → a = b
  | [], [], _ => rfl
  | a :: as, b :: bs, h => by
    have h : (a : Int) :: asInts as = (b : Int) :: asInts bs := h
    injection h with h1 h2
    rw [Int.ofNat_inj.mp h1, asInts_inj h2]
  | [], _ :: _, h => by cases h
  | _ :: _, [], h => by cases h
theorem map_pr_inj : ∀ {a b : List (Nat × Int)}, a.map prD = b.map prD → a = b
  | [], [], _ => rfl
  | (x, y) :: as, (z, w) :: bs, h => by
    rw [List.map_cons, List.map_cons] at h
    injection h with h1 h2
    simp only [prD, PyData.tuple.injEq, List.cons.injEq, PyData.int.injEq, and_true] at h1
    rw [Int.ofNat_inj.mp h1.1, h1.2, map_pr_inj h2]
  | [], _ :: _, h => by cases h
  | _ :: _, [], h => by cases h
theorem bk_inj {k k' : Bk} (h : k.nm = k'.nm) (g : k.is = k'.is) : k = k' := by
  cases k <;> cases k' <;> first
    | rfl
    | exact absurd h (by decide +kernel)
    | (simp only [Bk.is, List.cons.injEq, and_true] at g; first | rw [g.1, g.2] | rw [Int.ofNat_inj.mp g])
    | (simp only [Bk.nm] at h; exact absurd h (by decide +kernel))
theorem opD_inj {k k' : Bk} {a b : List Nat} (h : opD k a = opD k' b) : k = k' ∧ a = b := by
  simp only [opD, PyData.tuple.injEq, List.cons.injEq, PyData.str.injEq, and_true] at h
  exact ⟨bk_inj h.1 (map_int_inj h.2.2), asInts_inj (map_int_inj h.2.1)⟩
theorem nm_ne (k : Bk) : k.nm ≠ ("number" : Str) ∧ k.nm ≠ ("variable" : Str) ∧ k.nm ≠ ("sum" : Str) ∧ k.nm ≠ ("pick" : Str) := by
  cases k <;> (refine ⟨?_, ?_, ?_, ?_⟩ <;> (simp only [Bk.nm]; decide +kernel))
theorem fmD_inj {f g : Fm} (h : fmD f = fmD g) : f = g := by
  cases f <;> cases g <;> simp only [fmD, opD, PyData.tuple.injEq, List.cons.injEq, PyData.str.injEq, PyData.int.injEq, and_true, reduceCtorEq, and_false, false_and] at h
  · rw [h.2]
  · exact absurd h.1 (by decide +kernel)
  · exact absurd h.1 (by decide +kernel)
  · rw [h.2]
  · rw [h.2.1, map_pr_inj h.2.2]
  · rw [bk_inj h.1 (map_int_inj h.2.2), asInts_inj (map_int_inj h.2.1)]
  · exact absurd h.1 (nm_ne _).2.2.2
  · exact absurd h.1.symm (nm_ne _).2.2.2
  · rw [asInts_inj (map_int_inj h.2)]
/-! ### what the dicts hold -/
def plFrom : Nat → List Fm → List (PyData × V)
  | _, [] => []
  | n, f :: fs => (fmD f, .int (n : Int)) :: plFrom (n + 1) fs
def plK (fs : List Fm) : List (PyData × V) := plFrom 0 fs
theorem plFrom_app : ∀ (n : Nat) (fs : List Fm) (f : Fm), plFrom n (fs ++ [f]) = plFrom n fs ++ [(fmD f, .int ((n + fs.length : Nat) : Int))]
  | n, [], f => rfl
  | n, g :: fs, f => by
    show _ :: plFrom (n + 1) (fs ++ [f]) = _
    rw [plFrom_app (n + 1) fs f, List.length_cons, show n + 1 + fs.length = n + (fs.length + 1) by omega]
    rfl
theorem plFrom_len : ∀ (n : Nat) (fs : List Fm), (plFrom n fs).length = fs.length
  | _, [] => rfl
  | n, f :: fs => by
    show (plFrom (n + 1) fs).length + 1 = _
    rw [plFrom_len (n + 1) fs, List.length_cons]
theorem key_eq {d e : PyData} (hd : plainD d = true) (he : plainD e = true) : keyD d = keyD e ↔ d = e := ⟨keyD_inj hd he, fun h => by rw [h]⟩
open Classical in
theorem look_pl {f : Fm} (hf : plF f) : ∀ (n : Nat) (fs : List Fm), (∀ g ∈ fs, plF g) → lookV (plFrom n fs) (fmD f) = (fs.findIdx? fun g => decide (g = f)).map fun i => .int ((n + i : Nat) : Int)
  | n, [], _ => rfl
  | n, g :: fs, h => by
    have hg := h g List.mem_cons_self
    have ke := key_eq (fmD_key hg).1 (fmD_key hf).1
    show lookV ((fmD g, V.int (n : Int)) :: plFrom (n + 1) fs) (fmD f) = _
    unfold lookV
    rw [List.findIdx?_cons]
    by_cases e : g = f
    · rw [List.find?_cons_of_pos (by exact decide_eq_true (by rw [e])), if_pos (decide_eq_true e)]
      rfl
    · rw [List.find?_cons_of_neg (by rw [decide_eq_false (fun z => e (fmD_inj (ke.mp z)))]; exact Bool.false_ne_true), if_neg (by rw [decide_eq_false e]; exact Bool.false_ne_true)]
      have ih := look_pl hf (n + 1) fs fun x hx => h x (List.mem_cons_of_mem _ hx)
      unfold lookV at ih
      rw [ih, Option.map_map]
      congr 1
      funext i
      show V.int ((n + 1 + i : Nat) : Int) = V.int ((n + (i + 1) : Nat) : Int)
      rw [show n + 1 + i = n + (i + 1) by omega]
theorem look_plK {f : Fm} (hf : plF f) {fs : List Fm} (h : ∀ g ∈ fs, plF g) : lookV (plK fs) (fmD f) = (posF fs f).map fun i => .int (i : Int) := by
  unfold plK posF
  rw [look_pl hf 0 fs h]
  congr 1
  funext i
  rw [Nat.zero_add]
theorem put_plK {f : Fm} (hf : plF f) {fs : List Fm} (h : ∀ g ∈ fs, plF g) (hn : posF fs f = none) : putV (plK fs) (fmD f) (.int (fs.length : Int)) = plK (fs ++ [f]) := by
  unfold putV
  rw [look_plK hf h, hn, if_neg (by exact Bool.false_ne_true)]
  unfold plK
  rw [plFrom_app, Nat.zero_add]
def mdK (md : List ((Bk × List Nat) × Nat)) : List (PyData × V) := md.map fun e => (opD' e.1, .int (e.2 : Int))
  where opD' (e : Bk × List Nat) : PyData := .tuple [.str e.1.nm, .tuple ((asInts e.2).map PyData.int), .tuple (e.1.is.map PyData.int)]
theorem look_mdK (k : Bk) (ids : List Nat) : ∀ md : List ((Bk × List Nat) × Nat), lookV (mdK md) (opD k ids) = (md.lookup (k, ids)).map fun i => .int (i : Int)
  | [] => rfl
  | ((k', a), i) :: md => by
    have ke := key_eq (opD_key k' a).1 (opD_key k ids).1
    show lookV ((opD k' a, V.int (i : Int)) :: mdK md) (opD k ids) = _
    unfold lookV
    rw [List.lookup_cons]
    by_cases e : (k, ids) = (k', a)
    · cases e
      rw [List.find?_cons_of_pos (by exact decide_eq_true rfl), beq_self_eq_true]
      rfl
    · rw [List.find?_cons_of_neg (by
        rw [decide_eq_false (fun z => e (by
          obtain ⟨h1, h2⟩ := opD_inj (ke.mp z)
          rw [h1, h2]))]
        exact Bool.false_ne_true), show ((k, ids) == (k', a)) = false from beq_eq_false_iff_ne.mpr e]
      have ih := look_mdK k ids md
      unfold lookV at ih
      rw [ih]
theorem put_mdK {k : Bk} {ids : List Nat} {md : List ((Bk × List Nat) × Nat)} (hn : md.lookup (k, ids) = none) (i : Nat) : putV (mdK md) (opD k ids) (.int (i : Int)) = mdK (md ++ [((k, ids), i)]) := by
  unfold putV
  rw [look_mdK, hn, if_neg (by exact Bool.false_ne_true)]
  unfold mdK
  rw [List.map_append]
  rfl
/-- the intervals of variables: the tuples stand at rs -/
def vrK (vs : List (PyData × Int × Int)) (rs : List Addr) : List (PyData × V) := (vs.zip rs).map fun p => (p.1.1, .ref p.2)
def VrsAt (K : PySem.W.Frag) (H : Hp) (vs : List (PyData × Int × Int)) (rs : List Addr) : Prop := vs.length = rs.length ∧ ∀ (i : Nat) (e : PyData × Int × Int) (r : Addr), vs[i]? = some e → rs[i]? = some r → SqT K H r [.int e.2.1, .int e.2.2]
theorem VrsAt.kt {K : PySem.W.Frag} {H H' : Hp} {vs : List (PyData × Int × Int)} {rs : List Addr} (h : VrsAt K H vs rs) (k : KT H H') : VrsAt K H' vs rs := ⟨h.1, fun i e r a b => sqT_kt (h.2 i e r a b) k⟩
def FmsAt (K : PySem.W.Frag) (H : Hp) (ps : List Addr) (fs : List Fm) : Prop := ps.length = fs.length ∧ ∀ (i : Nat) (p : Addr) (f : Fm), ps[i]? = some p → fs[i]? = some f → FmAt K H p f
theorem FmsAt.kt {K : PySem.W.Frag} {H H' : Hp} {ps : List Addr} {fs : List Fm} (h : FmsAt K H ps fs) (k : KT H H') : FmsAt K H' ps fs := ⟨h.1, fun i e r a b => (h.2 i e r a b).kt k⟩
def SpsAt (K : PySem.W.Frag) (H : Hp) (qs : List Addr) (sp : List (Int × Int)) : Prop := qs.length = sp.length ∧ ∀ (i : Nat) (q : Addr) (s : Int × Int), qs[i]? = some q → sp[i]? = some s → SqT K H q [.int s.1, .int s.2]
theorem SpsAt.kt {K : PySem.W.Frag} {H H' : Hp} {qs : List Addr} {sp : List (Int × Int)} (h : SpsAt K H qs sp) (k : KT H H') : SpsAt K H' qs sp := ⟨h.1, fun i e r a b => sqT_kt (h.2 i e r a b) k⟩
theorem get_snoc {α : Type} {l : List α} {a x : α} {i : Nat} (h : (l ++ [a])[i]? = some x) : (i < l.length ∧ l[i]? = some x) ∨ (i = l.length ∧ x = a) := by
  rcases Nat.lt_trichotomy i l.length with h1 | h1 | h1
  · rw [List.getElem?_append_left h1] at h
    exact .inl ⟨h1, h⟩
  · rw [h1, List.getElem?_append_right (Nat.le_refl _), Nat.sub_self] at h
    exact .inr ⟨h1, (Option.some.inj h).symm⟩
  · rw [List.getElem?_eq_none (by rw [List.length_append, List.length_singleton]; omega)] at h
    cases h
theorem FmsAt.snoc {K : PySem.W.Frag} {H : Hp} {ps : List Addr} {fs : List Fm} {p : Addr} {f : Fm} (h : FmsAt K H ps fs) (g : FmAt K H p f) : FmsAt K H (ps ++ [p]) (fs ++ [f]) := by
  refine ⟨by rw [List.length_append, List.length_append, h.1]; rfl, fun i x q a b => ?_⟩
  rcases get_snoc a with ⟨a1, a2⟩ | ⟨a1, rfl⟩
  · rcases get_snoc b with ⟨b1, b2⟩ | ⟨b1, rfl⟩
    · exact h.2 i x q a2 b2
    · have := h.1
      omega
  · rcases get_snoc b with ⟨b1, b2⟩ | ⟨b1, rfl⟩
    · have := h.1
      omega
    · exact g
theorem SpsAt.snoc {K : PySem.W.Frag} {H : Hp} {qs : List Addr} {sp : List (Int × Int)} {q : Addr} {s : Int × Int} (h : SpsAt K H qs sp) (g : SqT K H q [.int s.1, .int s.2]) : SpsAt K H (qs ++ [q]) (sp ++ [s]) := by
  refine ⟨by rw [List.length_append, List.length_append, h.1]; rfl, fun i x q a b => ?_⟩
  rcases get_snoc a with ⟨a1, a2⟩ | ⟨a1, rfl⟩
  · rcases get_snoc b with ⟨b1, b2⟩ | ⟨b1, rfl⟩
    · exact h.2 i x q a2 b2
    · have := h.1
      omega
  · rcases get_snoc b with ⟨b1, b2⟩ | ⟨b1, rfl⟩
    · have := h.1
      omega
    · exact g
/-- where the parts of a table stand -/
structure Own where
  f : Addr
  s : Addr
  p : Addr
  m : Addr
  v : Addr
def Own.l (L : Own) : List Addr := [L.f, L.s, L.p, L.m, L.v]
structure Tabs (P : Program) (w : World) (K : PySem.W.Frag) (H : Hp) (L : Own) (T : Tb) : Prop where
  nd : L.l.Nodup
  fs : ∃ ps : List Addr, H L.f = some (.lst (ps.map V.ref)) ∧ FmsAt K H ps T.fs
  sp : ∃ qs : List Addr, H L.s = some (.lst (qs.map V.ref)) ∧ SpsAt K H qs T.sp
  pl : DV P w K H L.p (plK T.fs)
  md : DV P w K H L.m (mdK T.md)
  vs : ∃ rs : List Addr, DV P w K H L.v (vrK T.vs rs) ∧ VrsAt K H T.vs rs
def TabAt (P : Program) (w : World) (K : PySem.W.Frag) (aT : Addr) (H : Hp) (t : Addr) (L : Own) (T : Tb) : Prop :=
  (∃ dx, H t = some (.ins aT dx [("_forms", .ref L.f), ("_spans", .ref L.s), ("_places", .ref L.p), ("_made", .ref L.m), ("_variables", .ref L.v)])) ∧ Tabs P w K H L T
theorem Tabs.keep {P : Program} {w : World} {K : PySem.W.Frag} {H H' : Hp} {L : Own} {T : Tb} (h : Tabs P w K H L T) (k : KT H H') (e : ∀ b ∈ L.l, ∀ o, H b = some o → H' b = some o) : Tabs P w K H' L T := by
  obtain ⟨nd, ⟨ps, f1, f2⟩, ⟨qs, s1, s2⟩, pl, md, ⟨rs, v1, v2⟩⟩ := h
  exact ⟨nd, ⟨ps, e _ (by simp [Own.l]) _ f1, f2.kt k⟩, ⟨qs, e _ (by simp [Own.l]) _ s1, s2.kt k⟩, pl.kt k.keepT (e _ (by simp [Own.l])), md.kt k.keepT (e _ (by simp [Own.l])), ⟨rs, v1.kt k.keepT (e _ (by simp [Own.l])), v2.kt k⟩⟩
theorem TabAt.keep {P : Program} {w : World} {K : PySem.W.Frag} {aT : Addr} {H H' : Hp} {t : Addr} {L : Own} {T : Tb} {S : List Addr} (h : TabAt P w K aT H t L T) (k : Keep S H H') (kt : KT H H') (n : ∀ b ∈ S, b ≠ t ∧ b ∉ L.l) : TabAt P w K aT H' t L T := by
  obtain ⟨⟨dx, h1⟩, h2⟩ := h
  exact ⟨⟨dx, k _ _ (fun m => (n t m).1 rfl) h1⟩, h2.keep kt fun b hb o e => k b o (fun m => (n b m).2 hb) e⟩
theorem TabAt.same {P : Program} {w : World} {K : PySem.W.Frag} {aT : Addr} {H H' : Hp} {t : Addr} {L : Own} {T : Tb} (h : TabAt P w K aT H t L T) (s : Same H H') : TabAt P w K aT H' t L T := h.keep (S := []) (Same.keeps s) (Same.kt s) fun b hb => by cases hb
theorem Tabs.noT {P : Program} {w : World} {K : PySem.W.Frag} {H : Hp} {L : Own} {T : Tb} (h : Tabs P w K H L T) : ∀ b ∈ L.l, (∃ o, H b = some o) ∧ ∀ o, H b = some o → ¬ IsT o := by
  obtain ⟨nd, ⟨ps, f1, f2⟩, ⟨qs, s1, s2⟩, ⟨_, p1, _⟩, ⟨_, m1, _⟩, ⟨rs, ⟨_, v1, _⟩, v2⟩⟩ := h
  have gen : ∀ {b : Addr} {x : HO}, H b = some x → ¬ IsT x → (∃ o, H b = some o) ∧ ∀ o, H b = some o → ¬ IsT o := fun {b x} e n => ⟨⟨x, e⟩, fun o e2 => by
    rw [e] at e2
    cases e2
    exact n⟩
  intro b hb
  simp only [Own.l, List.mem_cons, List.not_mem_nil, or_false] at hb
  rcases hb with rfl | rfl | rfl | rfl | rfl
  · exact gen f1 id
  · exact gen s1 id
  · exact gen p1 id
  · exact gen m1 id
  · exact gen v1 id
theorem TabAt.kt {P : Program} {w : World} {K : PySem.W.Frag} {aT : Addr} {H H' : Hp} {t : Addr} {L : Own} {T : Tb} (h : TabAt P w K aT H t L T) (k : Keep L.l H H') : KT H H' := k.kt fun b hb o e => (h.2.noT b hb).2 o e
/-- a table's parts are no new place, not the table, no tuple -/
theorem TabAt.tne {P : Program} {w : World} {K : PySem.W.Frag} {aT : Addr} {H : Hp} {t : Addr} {L : Own} {T : Tb} (h : TabAt P w K aT H t L T) : t ∉ L.l := fun m => by
  obtain ⟨⟨dx, h1⟩, nd, ⟨ps, f1, f2⟩, ⟨qs, s1, s2⟩, ⟨_, p1, _⟩, ⟨_, m1, _⟩, ⟨rs, ⟨_, v1, _⟩, v2⟩⟩ := h
  simp only [Own.l, List.mem_cons, List.not_mem_nil, or_false] at m
  rcases m with e | e | e | e | e
  · rw [e, f1] at h1; cases h1
  · rw [e, s1] at h1; cases h1
  · rw [e, p1] at h1; cases h1
  · rw [e, m1] at h1; cases h1
  · rw [e, v1] at h1; cases h1

theorem pe_dnewV {X : Cx} {pos : Pos} (P : Program) (w : World) (hP : X.prog = P) (hw : X.w = w) : PE X (Expr.Dict [] [] pos) (fun σ H Q => ∀ p, H p = none → Q (.ref p) (upd H p (.ext (rawD P w p [])))) := by
  subst hP
  subst hw
  exact pe_dnewN
theorem cr_sortedSetW {X : Cx} (w : World) (hw : X.w = w) (hc : X.calm = true) : CallR X (.builtin "sorted") (rSortedSet w) := by
  subst hw
  exact cr_sortedSet hc
theorem cr_setLW {X : Cx} (w : World) (hw : X.w = w) (hc : X.calm = true) : CallR X (.type "set") (rSetL X.K w) := by
  subst hw
  exact cr_setL hc
theorem ps_no {X : Cx} {st : Stmt} : PS X st (fun _ _ _ => False) := ⟨fun _ _ _ _ _ _ h => h.elim⟩
theorem eqv_self {d : PyData} (h : SeqAt.shaped d = true) : PyData.eqv d d = true := by
  unfold SeqAt.shaped at h
  rw [Bool.and_eq_true] at h
  exact PySem.SeqAt.eqv_refl d h.1
/-! ### the class Terms -/
structure TmC (K : PySem.W.Frag) (aT : Addr) : Prop where
  c : Cls K aT
  nf : NoAttr K aT "_forms"
  ns : NoAttr K aT "_spans"
  np : NoAttr K aT "_places"
  nm : NoAttr K aT "_made"
  nv : NoAttr K aT "_variables"
structure TxtM (mg : Str → Option Value) : Prop where
  len : mg "len" = none
  tuple : mg "tuple" = none
  sorted : mg "sorted" = none
  set : mg "set" = none
  min : mg "min" = none
  max : mg "max" = none
  sum : mg "sum" = none
  all : mg "all" = none
  abs : mg "abs" = none
  range : mg "range" = none
section
variable {P : Program} {w : World} {K : PySem.W.Frag} {mg : Str → Option Value} {base : Heap} {aT aM : Addr}
def spForm (P : Program) (w : World) (K : PySem.W.Frag) (aT : Addr) : Sp := fun vs H Q _ => ∃ (t : Addr) (L : Own) (T : Tb) (i : Nat), vs = [.ref t, .int (i : Int)] ∧ TabAt P w K aT H t L T ∧ i < T.fs.length ∧ ∀ p, FmAt K H p (T.fm i) → Q (.ref p) H
def spSpan (P : Program) (w : World) (K : PySem.W.Frag) (aT : Addr) : Sp := fun vs H Q _ => ∃ (t : Addr) (L : Own) (T : Tb) (i : Nat), vs = [.ref t, .int (i : Int)] ∧ TabAt P w K aT H t L T ∧ i < T.sp.length ∧ ∀ p, SqT K H p [.int (T.lo i), .int (T.hi i)] → Q (.ref p) H
def spPlace (P : Program) (w : World) (K : PySem.W.Frag) (aT : Addr) : Sp := fun vs H Q _ => ∃ (t p : Addr) (L : Own) (T : Tb) (f : Fm) (lo hi : Int), vs = [.ref t, .ref p, .int lo, .int hi] ∧ TabAt P w K aT H t L T ∧ FmAt K H p f ∧ plF f ∧ (∀ g ∈ T.fs, plF g) ∧ T.sp.length = T.fs.length ∧ T.fs.length ≤ 900 ∧
  ∀ H', Keep L.l H H' → TabAt P w K aT H' t L (placeT T f lo hi).1 → Q (.int ((placeT T f lo hi).2 : Int)) H'
def spNumber (P : Program) (w : World) (K : PySem.W.Frag) (aT : Addr) : Sp := fun vs H Q _ => ∃ (t : Addr) (L : Own) (T : Tb) (n : Int), vs = [.ref t, .int n] ∧ TabAt P w K aT H t L T ∧ (∀ g ∈ T.fs, plF g) ∧ T.sp.length = T.fs.length ∧ T.fs.length ≤ 900 ∧
  ∀ H', Keep L.l H H' → TabAt P w K aT H' t L (numberT T n).1 → Q (.int ((numberT T n).2 : Int)) H'
def MthAt (P : Program) (w : World) (K : PySem.W.Frag) (mg : Str → Option Value) (base : Heap) (aT : Addr) (lv : Nat) (m : Str) (ps : List Str) (sp : Sp) : Prop := ∃ (f : Addr) (fd : FuncData), Meth K aT m f ∧ FnOk P w K mg base CX0 lv f fd ps sp ∧ Binds K fd ps []
structure Tm1 (P : Program) (w : World) (K : PySem.W.Frag) (mg : Str → Option Value) (base : Heap) (aT : Addr) : Prop where
  c : TmC K aT
  fo : MthAt P w K mg base aT 1 "form" ["self", "id_of_term"] (spForm P w K aT)
  sp : MthAt P w K mg base aT 1 "span" ["self", "id_of_term"] (spSpan P w K aT)
  pc : MthAt P w K mg base aT 1 "_place" ["self", "form", "low", "high"] (spPlace P w K aT)
structure Tm2 (P : Program) (w : World) (K : PySem.W.Frag) (mg : Str → Option Value) (base : Heap) (aT : Addr) : Prop extends Tm1 P w K mg base aT where
  nu : MthAt P w K mg base aT 2 "number" ["self", "n"] (spNumber P w K aT)
theorem But.ktN {d : Addr} {H H' : Hp} (k : But d H H') (h : ∀ o, H d = some o → ¬ IsT o) : KT H H' := fun b o i e => by
  rw [k b (fun z => by rw [z] at e; exact h o e i)]
  exact e
theorem nat_at {α : Type} {xs : List Addr} {i : Nat} (h : i < xs.length) : atI (xs.map V.ref) ((i : Nat) : Int) = some (.ref xs[i]) := atI_nat (by rw [List.getElem?_map, List.getElem?_eq_getElem h]; rfl)
abbrev nfo : List Str := ["self", "id_of_term"]
theorem scfo : FnScope nfo ["self", "id_of_term"] (defScope sMform) := ⟨rfl, rfl, rfl, by decide +kernel, rfl, by decide +kernel, by decide +kernel⟩
abbrev nsp : List Str := ["self", "id_of_term"]
theorem scsp : FnScope nsp ["self", "id_of_term"] (defScope sMspan) := ⟨rfl, rfl, rfl, by decide +kernel, rfl, by decide +kernel, by decide +kernel⟩
abbrev npc : List Str := ["self", "form", "low", "high", "found"]
theorem scpc : FnScope npc ["self", "form", "low", "high"] (defScope sMplace) := ⟨rfl, rfl, rfl, by decide +kernel, rfl, by decide +kernel, by decide +kernel⟩
abbrev nnu : List Str := ["self", "n"]
theorem scnu : FnScope nnu ["self", "n"] (defScope sMnumber) := ⟨rfl, rfl, rfl, by decide +kernel, rfl, by decide +kernel, by decide +kernel⟩
theorem ok_form {f : Addr} {fd : FuncData} (F : Fun K "form" "Terms.form" sMform f fd) (C : TmC K aT) : FnOk P w K mg base CX0 1 f fd ["self", "id_of_term"] (spForm P w K aT) := by
  refine F.ok scfo (fun vs H Q E h => ?_) (fun cdv A outer s H vs Q E hr h => ?_)
  · obtain ⟨_, _, _, _, rfl, _⟩ := h
    rfl
  · obtain ⟨t, L, T, i, rfl, ⟨⟨dx, h1⟩, h2⟩, hi, q⟩ := h
    obtain ⟨ps, f1, f2⟩ := h2.fs
    have cc := C.c
    refine ⟨_, (pss_one (ps_ret (pe_ix ix_list (pe_fld (pv 0) (by rfl)) (pv 1) (fun _ _ => rfl)))), ?_⟩
    have hp : i < ps.length := by rw [f2.1]; exact hi
    refine ⟨_, rfl, t, aT, dx, _, _, rfl, h1, cc, C.nf, rfl, _, rfl, L.f, _, (i : Int), _, rfl, rfl, SqL.of f1, nat_at (α := Nat) hp, ?_⟩
    exact q _ (f2.2 i _ _ (List.getElem?_eq_getElem hp) (fm_at hi))
theorem ok_span {f : Addr} {fd : FuncData} (F : Fun K "span" "Terms.span" sMspan f fd) (C : TmC K aT) : FnOk P w K mg base CX0 1 f fd ["self", "id_of_term"] (spSpan P w K aT) := by
  refine F.ok scsp (fun vs H Q E h => ?_) (fun cdv A outer s H vs Q E hr h => ?_)
  · obtain ⟨_, _, _, _, rfl, _⟩ := h
    rfl
  · obtain ⟨t, L, T, i, rfl, ⟨⟨dx, h1⟩, h2⟩, hi, q⟩ := h
    obtain ⟨qs, f1, f2⟩ := h2.sp
    have cc := C.c
    refine ⟨_, (pss_one (ps_ret (pe_ix ix_list (pe_fld (pv 0) (by rfl)) (pv 1) (fun _ _ => rfl)))), ?_⟩
    have hp : i < qs.length := by rw [f2.1]; exact hi
    refine ⟨_, rfl, t, aT, dx, _, _, rfl, h1, cc, C.ns, rfl, _, rfl, L.s, _, (i : Int), _, rfl, rfl, SqL.of f1, nat_at (α := Nat) hp, ?_⟩
    exact q _ (f2.2 i _ _ (List.getElem?_eq_getElem hp) (sp_at hi))
theorem ok_place {f : Addr} {fd : FuncData} (F : Fun K "_place" "Terms._place" sMplace f fd) (C : TmC K aT) (T : TxtM mg) : FnOk P w K mg base CX0 1 f fd ["self", "form", "low", "high"] (spPlace P w K aT) := by
  refine F.ok scpc (fun vs H Q E h => ?_) (fun cdv A outer s H vs Q E hr h => ?_)
  · obtain ⟨_, _, _, _, _, _, _, rfl, _⟩ := h
    rfl
  · obtain ⟨t, p, L, Tb, fm, lo, hi, rfl, hT, hf, hpl, hall, hlen, h9, q⟩ := h
    obtain ⟨⟨dx, h1⟩, h2⟩ := id hT
    have cc := C.c
    have tne := hT.tne
    refine ⟨_, (pss_cons (ps_set (i := 4) scpc.nd rfl (.inl rfl) (pe_dget1V hr.units (pe_fld (pv 0) (by rfl)) (pv 1) ⟨rfl, rfl, rfl, rfl⟩))
      (pss_cons (ps_if (pt_cmpR op_isN (pv 4) pe_non (nomark _)) (pss_cons (ps_set (i := 4) scpc.nd rfl (.inl rfl) (pe_callB call_len_seq (by rfl) T.len PySem.boot_len (pa_cons (pe_fld (pv 0) (by rfl)) pa_nil)))
      (pss_cons (ps_asg (pv 4) (pg_sub (pe_fld (pv 0) (by rfl)) (pv 1) (set_dictV hr.units)))
      (pss_cons (ps_expr (pe_bm PySem.F.plainAttrs_list PySem.F.slot_list_append PySem.F.type_list_append mt_append (pe_fld (pv 0) (by rfl)) (pa_cons (pv 1) pa_nil)))
      (pss_one (ps_expr (pe_bm PySem.F.plainAttrs_list PySem.F.slot_list_append PySem.F.type_list_append mt_append (pe_fld (pv 0) (by rfl)) (pa_cons (pe_tup (pa_cons (pv 2) (pa_cons (pv 3) pa_nil))) pa_nil))))))) pss_nil)
      (pss_one (ps_ret (pv 4))))), ?_⟩
    refine ⟨_, rfl, t, aT, dx, _, _, rfl, h1, cc, C.np, rfl, L.p, _, rfl, h2.pl, _, rfl, p, fmD fm, _, rfl, fm_key hf hpl, h2.pl, ?_⟩
    rw [look_plK hpl hall]
    unfold placeT at q
    cases e : posF Tb.fs fm with
    | some i =>
      rw [e] at q
      refine ⟨_, rfl, rfl, _, rfl, iteFd rfl ?_⟩
      exact ⟨_, rfl, q H (Keep.refl _ _) hT⟩
    | none =>
      rw [e] at q
      refine ⟨_, rfl, rfl, _, rfl, iteTd rfl ?_⟩
      obtain ⟨ps, f1, f2⟩ := h2.fs
      obtain ⟨qs, s1, s2⟩ := h2.sp
      have nd := h2.nd
      refine ⟨_, rfl, t, aT, dx, _, _, rfl, h1, cc, C.nf, rfl, L.f, _, rfl, .inl (SqL.of f1), ?_⟩
      have tm : ∀ b ∈ L.l, t ≠ b := fun b hb z => tne (by rw [z]; exact hb)
      have lf : L.f ∈ L.l := by simp [Own.l]
      have ls : L.s ∈ L.l := by simp [Own.l]
      have lp : L.p ∈ L.l := by simp [Own.l]
      have lm : L.m ∈ L.l := by simp [Own.l]
      have lv : L.v ∈ L.l := by simp [Own.l]
      obtain ⟨⟨n1, n2, n3, n4⟩, ⟨n5, n6, n7⟩, ⟨n8, n9⟩, n10⟩ : (L.f ≠ L.s ∧ L.f ≠ L.p ∧ L.f ≠ L.m ∧ L.f ≠ L.v) ∧ (L.s ≠ L.p ∧ L.s ≠ L.m ∧ L.s ≠ L.v) ∧ (L.p ≠ L.m ∧ L.p ≠ L.v) ∧ L.m ≠ L.v := by
        have := nd
        simp only [Own.l, List.nodup_cons, List.mem_cons, List.not_mem_nil, or_false, not_or, List.nodup_nil, and_true, not_false_eq_true] at this
        exact this
      refine ⟨_, rfl, _, rfl, t, aT, dx, _, _, rfl, h1, cc, C.np, rfl, _, rfl, p, L.p, fmD fm, _, rfl, rfl, fm_key hf hpl, h2.pl, by rw [show (plK Tb.fs).length = _ from plFrom_len 0 Tb.fs]; omega, fun H1 k1 kt1 d1 => ?_⟩
      have lps : (ps.map V.ref).length = Tb.fs.length := by rw [List.length_map, f2.1]
      rw [lps, put_plK hpl hall e] at d1
      have K1 : KT H H1 := k1.ktN (h2.noT _ lp).2
      have g1 := (k1 t (tm _ lp)).trans h1
      refine ⟨_, rfl, t, aT, dx, _, _, rfl, g1, cc, C.nf, rfl, .inl ⟨rfl, _, SqL.of ((k1 L.f n2).trans f1)⟩, _, rfl, L.f, _, _, rfl, rfl, (k1 L.f n2).trans f1, by rw [lps]; exact Nat.lt_of_le_of_lt h9 (by decide), ?_⟩
      have g2 : upd H1 L.f (.lst (ps.map V.ref ++ [.ref p])) t = some _ := (upd_ne (tm _ lf)).trans g1
      have gs : upd H1 L.f (.lst (ps.map V.ref ++ [.ref p])) L.s = some _ := (upd_ne (Ne.symm n1)).trans ((k1 L.s n5).trans s1)
      refine ⟨_, rfl, t, aT, dx, _, _, rfl, g2, cc, C.ns, rfl, .inl ⟨rfl, _, SqL.of gs⟩, ?_⟩
      refine ⟨_, rfl, _, rfl, by show 2 ≤ sizeLine; decide, fun pt npt => ?_⟩
      have nsp : L.s ≠ pt := ne_of_none gs npt
      refine ⟨L.s, _, _, rfl, rfl, (upd_ne nsp).trans gs, by rw [List.length_map, s2.1, hlen]; exact Nat.lt_of_le_of_lt h9 (by decide), ?_⟩
      refine ⟨_, rfl, ?_⟩
      show Q (V.int ((ps.map V.ref).length : Int)) _
      rw [lps]
      have npt1 : H1 pt = none := by
        by_cases z : pt = L.f
        · rw [z, upd_same] at npt
          cases npt
        · exact (upd_ne z).symm.trans npt
      have ktF : KT H (upd (upd (upd H1 L.f (.lst (ps.map V.ref ++ [.ref p]))) pt (.tup [.int lo, .int hi])) L.s (.lst (qs.map V.ref ++ [.ref pt]))) := fun b o i hb => by
        have nb : b ∉ L.l := fun m => (h2.noT b m).2 o hb i
        have e1 := K1 b o i hb
        rw [upd_ne (fun z => nb (by rw [z]; exact ls)), upd_ne (ne_of_none e1 npt1), upd_ne (fun z => nb (by rw [z]; exact lf))]
        exact e1
      have at_ : ∀ b, b ≠ L.f → b ≠ L.s → b ≠ L.p → ∀ o, H b = some o → (upd (upd (upd H1 L.f (.lst (ps.map V.ref ++ [.ref p]))) pt (.tup [.int lo, .int hi])) L.s (.lst (qs.map V.ref ++ [.ref pt]))) b = some o := fun b b1 b2 b3 o hb => by
        have e1 : H1 b = some o := (k1 b b3).trans hb
        rw [upd_ne b2, upd_ne (ne_of_none e1 npt1), upd_ne b1]
        exact e1
      refine q _ (fun b o nb hb => at_ b (fun z => nb (by rw [z]; exact lf)) (fun z => nb (by rw [z]; exact ls)) (fun z => nb (by rw [z]; exact lp)) o hb) ?_
      refine ⟨⟨dx, at_ t (tm _ lf) (tm _ ls) (tm _ lp) _ h1⟩, nd, ⟨ps ++ [p], ?_, (f2.kt ktF).snoc (hf.kt ktF)⟩, ⟨qs ++ [pt], ?_, (s2.kt ktF).snoc (SqT.of ?_)⟩, ?_, ?_, ?_⟩
      · have nfp : L.f ≠ pt := fun z => by
          rw [← z, upd_same] at npt
          cases npt
        rw [upd_ne n1, upd_ne nfp, upd_same, List.map_append]
        rfl
      · rw [upd_same, List.map_append]
        rfl
      · rw [upd_ne (Ne.symm nsp), upd_same]
      · obtain ⟨xs, e1, e2⟩ := d1
        have npp : L.p ≠ pt := ne_of_none e1 npt1
        have hk : KT H1 (upd (upd (upd H1 L.f (.lst (ps.map V.ref ++ [.ref p]))) pt (.tup [.int lo, .int hi])) L.s (.lst (qs.map V.ref ++ [.ref pt]))) := fun b o i hb => by
          have ff := (k1 L.f n2).trans f1
          have ss := (k1 L.s n5).trans s1
          rw [upd_ne (fun z => by rw [z, ss] at hb; cases hb; exact i), upd_ne (ne_of_none hb npt1), upd_ne (fun z => by rw [z, ff] at hb; cases hb; exact i)]
          exact hb
        exact ⟨xs, by rw [upd_ne (Ne.symm n5), upd_ne npp, upd_ne (Ne.symm n2)]; exact e1, e2.kt hk.keepT⟩
      · exact h2.md.kt ktF.keepT (at_ _ (Ne.symm n3) (Ne.symm n6) (Ne.symm n8))
      · obtain ⟨rs, v1, v2⟩ := h2.vs
        exact ⟨rs, v1.kt ktF.keepT (at_ _ (Ne.symm n4) (Ne.symm n7) (Ne.symm n9)), v2.kt ktF⟩
theorem ok_number {f : Addr} {fd : FuncData} (F : Fun K "number" "Terms.number" sMnumber f fd) (M : Tm1 P w K mg base aT) : FnOk P w K mg base CX0 2 f fd ["self", "n"] (spNumber P w K aT) := by
  obtain ⟨fpc, dpc, mpc, Gpc, bpc⟩ := M.pc
  have cT := M.c.c
  refine F.ok scnu (fun vs H Q E h => ?_) (fun cdv A outer s H vs Q E hr1 h => ?_)
  · obtain ⟨_, _, _, _, rfl, _⟩ := h
    rfl
  · obtain ⟨t, L, Tb, n, rfl, hT, hall, hlen, h9, q⟩ := h
    obtain ⟨⟨dx, h1⟩, h2⟩ := id hT
    refine ⟨_, (pss_one (ps_ret (pe_meth (pv 0) cT mpc Gpc hr1 bpc .nil pass0 (pa_cons (pe_tup (pa_cons pe_str (pa_cons (pv 1) pa_nil))) (pa_cons (pv 1) (pa_cons (pv 1) pa_nil)))))), ?_⟩
    refine ⟨_, rfl, t, dx, _, rfl, h1, rfl, _, rfl, by show 2 ≤ sizeLine; decide, fun p np => ?_⟩
    have s1 : Same H (upd H p (.tup [.str "number", .int n])) := same_upd np
    refine ⟨_, rfl, _, rfl, t, p, L, Tb, .num n, n, n, rfl, hT.same s1, SqT.of upd_same, trivial, hall, hlen, h9, fun H' k hT' => q H' ((Same.keeps s1).trans k) hT'⟩
end
/-! ### variables -/
def hasVar (vs : List (PyData × Int × Int)) (k : PyData) : Bool := vs.any fun e => decide (keyD e.1 = keyD k)
def regT (T : Tb) (k : PyData) (lo hi : Int) : Tb := { T with vs := if hasVar T.vs k = true then T.vs else T.vs ++ [(k, lo, hi)] }
noncomputable def varT (T : Tb) (k : PyData) (lo hi : Int) : Tb × Nat := if lo = hi then numberT (regT T k lo hi) lo else placeT (regT T k lo hi) (.var k) lo hi
theorem look_vrK {K : PySem.W.Frag} {H : Hp} (k : PyData) : ∀ {vs : List (PyData × Int × Int)} {rs : List Addr}, VrsAt K H vs rs →
    (hasVar vs k = false ∧ lookV (vrK vs rs) k = none) ∨ ∃ e r, e ∈ vs ∧ keyD e.1 = keyD k ∧ lookV (vrK vs rs) k = some (.ref r) ∧ SqT K H r [.int e.2.1, .int e.2.2] ∧ hasVar vs k = true
  | [], [], _ => .inl ⟨rfl, rfl⟩
  | e :: vs, r :: rs, h => by
    have e1 : vrK (e :: vs) (r :: rs) = (e.1, .ref r) :: vrK vs rs := rfl
    have e2 : hasVar (e :: vs) k = (decide (keyD e.1 = keyD k) || hasVar vs k) := rfl
    rw [e1, e2]
    unfold lookV
    by_cases hk : keyD e.1 = keyD k
    · rw [List.find?_cons_of_pos (by exact decide_eq_true hk)]
      exact .inr ⟨e, r, List.mem_cons_self, hk, rfl, h.2 0 e r rfl rfl, by rw [decide_eq_true hk]; rfl⟩
    · rw [List.find?_cons_of_neg (by rw [decide_eq_false hk]; exact Bool.false_ne_true), decide_eq_false hk, Bool.false_or]
      rcases look_vrK k (vs := vs) (rs := rs) ⟨Nat.succ.inj h.1, fun i e r a b => h.2 (i + 1) e r a b⟩ with h1 | ⟨e', r', m, h1⟩
      · exact .inl h1
      · exact .inr ⟨e', r', List.mem_cons_of_mem _ m, h1⟩
  | [], _ :: _, h => absurd h.1 (by simp)
  | _ :: _, [], h => absurd h.1 (by simp)
theorem vrK_snoc {vs : List (PyData × Int × Int)} {rs : List Addr} (h : vs.length = rs.length) (e : PyData × Int × Int) (r : Addr) : vrK (vs ++ [e]) (rs ++ [r]) = vrK vs rs ++ [(e.1, .ref r)] := by
  unfold vrK
  rw [List.zip_append h, List.map_append]
  rfl
theorem VrsAt.snoc {K : PySem.W.Frag} {H : Hp} {vs : List (PyData × Int × Int)} {rs : List Addr} {e : PyData × Int × Int} {r : Addr} (h : VrsAt K H vs rs) (g : SqT K H r [.int e.2.1, .int e.2.2]) : VrsAt K H (vs ++ [e]) (rs ++ [r]) := by
  refine ⟨by rw [List.length_append, List.length_append, h.1]; rfl, fun i x q a b => ?_⟩
  rcases get_snoc a with ⟨a1, a2⟩ | ⟨a1, rfl⟩
  · rcases get_snoc b with ⟨b1, b2⟩ | ⟨b1, rfl⟩
    · exact h.2 i x q a2 b2
    · have := h.1
      omega
  · rcases get_snoc b with ⟨b1, b2⟩ | ⟨b1, rfl⟩
    · have := h.1
      omega
    · exact g
theorem vrK_len {vs : List (PyData × Int × Int)} {rs : List Addr} (h : vs.length = rs.length) : (vrK vs rs).length = vs.length := by
  unfold vrK
  rw [List.length_map, List.length_zip, h, Nat.min_self]
theorem own_ne {L : Own} (nd : L.l.Nodup) : (L.f ≠ L.s ∧ L.f ≠ L.p ∧ L.f ≠ L.m ∧ L.f ≠ L.v) ∧ (L.s ≠ L.p ∧ L.s ≠ L.m ∧ L.s ≠ L.v) ∧ (L.p ≠ L.m ∧ L.p ≠ L.v) ∧ L.m ≠ L.v := by
  have := nd
  simp only [Own.l, List.nodup_cons, List.mem_cons, List.not_mem_nil, or_false, not_or, List.nodup_nil, and_true, not_false_eq_true] at this
  exact this
def emptyT : Tb := ⟨[], [], [], []⟩

section
variable {P : Program} {w : World} {K : PySem.W.Frag} {mg : Str → Option Value} {base : Heap} {aT aM : Addr}
def spVar (P : Program) (w : World) (K : PySem.W.Frag) (aT : Addr) : Sp := fun vs H Q _ => ∃ (t p : Addr) (L : Own) (T : Tb) (k : PyData) (lo hi : Int), vs = [.ref t, .ref p, .int lo, .int hi] ∧ TabAt P w K aT H t L T ∧ KeyV K H p k ∧ (keyD k).depth ≤ 7 ∧ lo ≤ hi ∧ (∀ e ∈ T.vs, keyD e.1 = keyD k → e.2 = (lo, hi)) ∧ (∀ g ∈ T.fs, plF g) ∧ T.sp.length = T.fs.length ∧ T.fs.length ≤ 900 ∧ T.vs.length ≤ 900 ∧
  ∀ H', Keep L.l H H' → TabAt P w K aT H' t L (varT T k lo hi).1 → Q (.int ((varT T k lo hi).2 : Int)) H'
def spLen (P : Program) (w : World) (K : PySem.W.Frag) (aT : Addr) : Sp := fun vs H Q _ => ∃ (t : Addr) (L : Own) (T : Tb), vs = [.ref t] ∧ TabAt P w K aT H t L T ∧ Q (.int (T.fs.length : Int)) H
def spInit (P : Program) (w : World) (K : PySem.W.Frag) (aT : Addr) : Sp := fun vs H Q _ => ∃ (t dx : Addr), vs = [.ref t] ∧ H t = some (.ins aT dx []) ∧ ∀ H' L, (∀ b ∈ L.l, H b = none) → Keep [t] H H' → KT H H' → TabAt P w K aT H' t L emptyT → Q .non H'
theorem fldStep {H0 H : Hp} {t p : Addr} {o o' : HO} (k : Keep [t] H0 H) (hp : H p = none) (ht : t ≠ p) : Keep [t] H0 (upd (upd H p o) t o') ∧ upd (upd H p o) t o' p = some o ∧ upd (upd H p o) t o' t = some o' ∧ ∀ b x, b ≠ t → H b = some x → upd (upd H p o) t o' b = some x := by
  have c : ∀ b x, b ≠ t → H b = some x → upd (upd H p o) t o' b = some x := fun b x n e => by
    rw [upd_ne n, upd_ne (ne_of_none e hp)]
    exact e
  exact ⟨fun b x n e => c b x (fun z => n (by rw [z]; exact List.mem_cons_self)) (k b x n e), by rw [upd_ne (Ne.symm ht), upd_same], upd_same, c⟩
theorem fresh_in {H0 H : Hp} {t p : Addr} (k : Keep [t] H0 H) (hp : H p = none) (ht : t ≠ p) : H0 p = none := by
  cases e : H0 p with
  | none => rfl
  | some x =>
    have := k p x (fun z => ht (List.mem_singleton.mp z).symm) e
    rw [hp] at this
    cases this
abbrev nva : List Str := ["self", "key", "low", "high"]
theorem scva : FnScope nva ["self", "key", "low", "high"] (defScope sMvariable) := ⟨rfl, rfl, rfl, by decide +kernel, rfl, by decide +kernel, by decide +kernel⟩
abbrev nin : List Str := ["self"]
theorem scin : FnScope nin ["self"] (defScope sMinit) := ⟨rfl, rfl, rfl, by decide +kernel, rfl, by decide +kernel, by decide +kernel⟩
abbrev nln : List Str := ["self"]
theorem scln : FnScope nln ["self"] (defScope sMlen) := ⟨rfl, rfl, rfl, by decide +kernel, rfl, by decide +kernel, by decide +kernel⟩
theorem ok_len {f : Addr} {fd : FuncData} (F : Fun K "__len__" "Terms.__len__" sMlen f fd) (C : TmC K aT) (T : TxtM mg) : FnOk P w K mg base CX0 1 f fd ["self"] (spLen P w K aT) := by
  refine F.ok scln (fun vs H Q E h => ?_) (fun cdv A outer s H vs Q E hr h => ?_)
  · obtain ⟨_, _, _, rfl, _⟩ := h
    rfl
  · obtain ⟨t, L, Tb, rfl, ⟨⟨dx, h1⟩, h2⟩, q⟩ := h
    obtain ⟨ps, f1, f2⟩ := h2.fs
    have cc := C.c
    refine ⟨_, (pss_one (ps_ret (pe_callB call_len_seq (by rfl) T.len PySem.boot_len (pa_cons (pe_fld (pv 0) (by rfl)) pa_nil)))), ?_⟩
    refine ⟨_, rfl, t, aT, dx, _, _, rfl, h1, cc, C.nf, rfl, L.f, _, rfl, .inl (SqL.of f1), ?_⟩
    rw [List.length_map, f2.1]
    exact q
theorem ok_init {f : Addr} {fd : FuncData} (F : Fun K "__init__" "Terms.__init__" sMinit f fd) (C : TmC K aT) : FnOk P w K mg base CX0 1 f fd ["self"] (spInit P w K aT) := by
  refine F.ok scin (fun vs H Q E h => ?_) (fun cdv A outer s H vs Q E hr h => ?_)
  · obtain ⟨_, _, rfl, _⟩ := h
    rfl
  · obtain ⟨t, dx, rfl, h1, q⟩ := h
    have cc := C.c
    refine ⟨_, (pss_cons (ps_fld (pv 0) (pe_lst pa_nil) (by rfl))
      (pss_cons (ps_fld (pv 0) (pe_lst pa_nil) (by rfl))
      (pss_cons (ps_fld (pv 0) (pe_dnewV P w rfl rfl) (by rfl))
      (pss_cons (ps_fld (pv 0) (pe_dnewV P w rfl rfl) (by rfl))
      (pss_one (ps_fld (pv 0) (pe_dnewV P w rfl rfl) (by rfl))))))), ?_⟩
    refine ⟨by show 0 ≤ sizeLine; decide, fun p1 n1 => ?_⟩
    have t1 : t ≠ p1 := ne_of_none h1 n1
    refine ⟨_, rfl, t, aT, dx, _, rfl, (upd_ne t1).trans h1, cc, C.nf, by decide, ?_⟩
    obtain ⟨k1, a1, b1, c1⟩ := fldStep (o := .lst []) (o' := .ins aT dx (putF "_forms" (.ref p1) [])) (Keep.refl [t] H) n1 t1
    have z1 := fresh_in (Keep.refl [t] H) n1 t1
    generalize upd (upd H p1 (.lst [])) t (.ins aT dx (putF "_forms" (.ref p1) [])) = H1 at *
    replace b1 : H1 t = some (.ins aT dx [("_forms", .ref p1)]) := b1
    refine ⟨by show 0 ≤ sizeLine; decide, fun p2 n2 => ?_⟩
    have t2 : t ≠ p2 := ne_of_none b1 n2
    refine ⟨_, rfl, t, aT, dx, _, rfl, (upd_ne t2).trans b1, cc, C.ns, by show (1 : Nat) < 1000; decide, ?_⟩
    obtain ⟨k2, a2, b2, c2⟩ := fldStep (o := .lst []) (o' := .ins aT dx (putF "_spans" (.ref p2) [("_forms", .ref p1)])) k1 n2 t2
    have z2 := fresh_in k1 n2 t2
    generalize upd (upd H1 p2 (.lst [])) t (.ins aT dx (putF "_spans" (.ref p2) [("_forms", .ref p1)])) = H2 at *
    replace b2 : H2 t = some (.ins aT dx [("_forms", .ref p1), ("_spans", .ref p2)]) := b2
    refine fun p3 n3 => ?_
    have t3 : t ≠ p3 := ne_of_none b2 n3
    refine ⟨_, rfl, t, aT, dx, _, rfl, (upd_ne t3).trans b2, cc, C.np, by show (2 : Nat) < 1000; decide, ?_⟩
    obtain ⟨k3, a3, b3, c3⟩ := fldStep (o := .ext (rawD P w p3 [])) (o' := .ins aT dx (putF "_places" (.ref p3) [("_forms", .ref p1), ("_spans", .ref p2)])) k2 n3 t3
    have z3 := fresh_in k2 n3 t3
    generalize upd (upd H2 p3 (.ext (rawD P w p3 []))) t (.ins aT dx (putF "_places" (.ref p3) [("_forms", .ref p1), ("_spans", .ref p2)])) = H3 at *
    replace b3 : H3 t = some (.ins aT dx [("_forms", .ref p1), ("_spans", .ref p2), ("_places", .ref p3)]) := b3
    refine fun p4 n4 => ?_
    have t4 : t ≠ p4 := ne_of_none b3 n4
    refine ⟨_, rfl, t, aT, dx, _, rfl, (upd_ne t4).trans b3, cc, C.nm, by show (3 : Nat) < 1000; decide, ?_⟩
    obtain ⟨k4, a4, b4, c4⟩ := fldStep (o := .ext (rawD P w p4 [])) (o' := .ins aT dx (putF "_made" (.ref p4) [("_forms", .ref p1), ("_spans", .ref p2), ("_places", .ref p3)])) k3 n4 t4
    have z4 := fresh_in k3 n4 t4
    generalize upd (upd H3 p4 (.ext (rawD P w p4 []))) t (.ins aT dx (putF "_made" (.ref p4) [("_forms", .ref p1), ("_spans", .ref p2), ("_places", .ref p3)])) = H4 at *
    replace b4 : H4 t = some (.ins aT dx [("_forms", .ref p1), ("_spans", .ref p2), ("_places", .ref p3), ("_made", .ref p4)]) := b4
    refine fun p5 n5 => ?_
    have t5 : t ≠ p5 := ne_of_none b4 n5
    refine ⟨_, rfl, t, aT, dx, _, rfl, (upd_ne t5).trans b4, cc, C.nv, by show (4 : Nat) < 1000; decide, ?_⟩
    obtain ⟨k5, a5, b5, c5⟩ := fldStep (o := .ext (rawD P w p5 [])) (o' := .ins aT dx (putF "_variables" (.ref p5) [("_forms", .ref p1), ("_spans", .ref p2), ("_places", .ref p3), ("_made", .ref p4)])) k4 n5 t5
    have z5 := fresh_in k4 n5 t5
    have m21 := c2 _ _ (Ne.symm t1) a1
    have m31 := c3 _ _ (Ne.symm t1) m21
    have m32 := c3 _ _ (Ne.symm t2) a2
    have m41 := c4 _ _ (Ne.symm t1) m31
    have m42 := c4 _ _ (Ne.symm t2) m32
    have m43 := c4 _ _ (Ne.symm t3) a3
    generalize upd (upd H4 p5 (.ext (rawD P w p5 []))) t (.ins aT dx (putF "_variables" (.ref p5) [("_forms", .ref p1), ("_spans", .ref p2), ("_places", .ref p3), ("_made", .ref p4)])) = H5 at *
    replace b5 : H5 t = some (.ins aT dx [("_forms", .ref p1), ("_spans", .ref p2), ("_places", .ref p3), ("_made", .ref p4), ("_variables", .ref p5)]) := b5
    refine q H5 ⟨p1, p2, p3, p4, p5⟩ (fun b hb => ?_) k5 (k5.kt fun b hb o e => ?_) ?_
    · simp only [Own.l, List.mem_cons, List.not_mem_nil, or_false] at hb
      rcases hb with rfl | rfl | rfl | rfl | rfl
      · exact z1
      · exact z2
      · exact z3
      · exact z4
      · exact z5
    · rw [List.mem_singleton.mp hb, h1] at e
      cases e
      exact id
    · refine ⟨⟨dx, b5⟩, ?_, ⟨[], c5 _ _ (Ne.symm t1) m41, rfl, fun i p f e => by cases e⟩, ⟨[], c5 _ _ (Ne.symm t2) m42, rfl, fun i p f e => by cases e⟩, ⟨[], c5 _ _ (Ne.symm t3) m43, trivial⟩, ⟨[], c5 _ _ (Ne.symm t4) a4, trivial⟩, ⟨[], ⟨[], a5, trivial⟩, rfl, fun i p f e => by cases e⟩⟩
      have q12 : p1 ≠ p2 := ne_of_none a1 n2
      have q13 : p1 ≠ p3 := ne_of_none m21 n3
      have q23 : p2 ≠ p3 := ne_of_none a2 n3
      have q14 : p1 ≠ p4 := ne_of_none m31 n4
      have q24 : p2 ≠ p4 := ne_of_none m32 n4
      have q34 : p3 ≠ p4 := ne_of_none a3 n4
      have q15 : p1 ≠ p5 := ne_of_none m41 n5
      have q25 : p2 ≠ p5 := ne_of_none m42 n5
      have q35 : p3 ≠ p5 := ne_of_none m43 n5
      have q45 : p4 ≠ p5 := ne_of_none a4 n5
      simp [Own.l, q12, q13, q23, q14, q24, q34, q15, q25, q35, q45]
theorem ok_var {f : Addr} {fd : FuncData} (F : Fun K "variable" "Terms.variable" sMvariable f fd) (M : Tm2 P w K mg base aT) : FnOk P w K mg base CX0 3 f fd ["self", "key", "low", "high"] (spVar P w K aT) := by
  obtain ⟨fpc, dpc, mpc, Gpc, bpc⟩ := M.pc
  obtain ⟨fnu, dnu, mnu, Gnu, bnu⟩ := M.nu
  have cT := M.c.c
  refine F.ok scva (fun vs H Q E h => ?_) (fun cdv A outer s H vs Q E hr2 h => ?_)
  · obtain ⟨_, _, _, _, _, _, _, rfl, _⟩ := h
    rfl
  · obtain ⟨t, p, L, Tb, k, lo, hi, rfl, hT, hk, hd, hlh, huniq, hall, hlen, h9, hv9, q⟩ := h
    have hr1 : Room 1 _ := hr2.mono (by decide)
    obtain ⟨⟨dx, h1⟩, h2⟩ := id hT
    refine ⟨_, (pss_cons (ps_if (pt_cmpR op_gt (pv 2) (pv 3) (nomark _)) (pss_one ps_no) pss_nil)
      (pss_cons (ps_if (pt_cmpR (op_neD hr2.units) (pe_dsetdV hr2.units (pe_fld (pv 0) (by rfl)) (pv 1) (pe_tup (pa_cons (pv 2) (pa_cons (pv 3) pa_nil))) ⟨rfl, rfl, rfl, rfl⟩) (pe_tup (pa_cons (pv 2) (pa_cons (pv 3) pa_nil))) (nomark _)) (pss_one ps_no) pss_nil)
      (pss_cons (ps_if (pt_cmpR op_eq (pv 2) (pv 3) (nomark _)) (pss_one (ps_ret (pe_meth (pv 0) cT mnu Gnu hr2 bnu .nil pass0 (pa_cons (pv 2) pa_nil)))) pss_nil)
      (pss_one (ps_ret (pe_meth (pv 0) cT mpc Gpc hr1 bpc .nil pass0 (pa_cons (pe_tup (pa_cons pe_str (pa_cons (pv 1) pa_nil))) (pa_cons (pv 2) (pa_cons (pv 3) pa_nil))))))))), ?_⟩
    refine ⟨_, rfl, _, rfl, _, _, rfl, rfl, _, rfl, iteFd (decide_eq_false (by omega)) ?_⟩
    refine ⟨_, rfl, t, aT, dx, _, _, rfl, h1, cT, M.c.nv, rfl, ?_⟩
    refine ⟨L.v, _, rfl, h2.vs.choose_spec.1, _, rfl, _, rfl, _, rfl, by show 2 ≤ sizeLine; decide, fun pz npz => ?_⟩
    obtain ⟨rs, v1, v2⟩ := h2.vs
    have s1 : Same H (upd H pz (.tup [.int lo, .int hi])) := same_upd npz
    have hz : SqT K (upd H pz (.tup [.int lo, .int hi])) pz [.int lo, .int hi] := SqT.of upd_same
    have hT1 := hT.same s1
    have v1' := v1.kt (Same.kt s1).keepT (s1 _)
    have hk1 := hk.kt (Same.kt s1).keepT
    have v2' := v2.kt (Same.kt s1)
    have k01 : Keep L.l H (upd H pz (.tup [.int lo, .int hi])) := Same.keeps s1
    generalize upd H pz (.tup [.int lo, .int hi]) = H1 at *
    refine ⟨p, k, _, rfl, hk1, v1', ?_, fun v hv => ?_, fun hn H2 k2 kt2 d2 => ?_⟩
    · rw [vrK_len v2.1]
      omega
    · rcases look_vrK k v2' with ⟨_, e2⟩ | ⟨e, r, m, ke, e2, hr, hv2⟩
      · rw [e2] at hv
        cases hv
      rw [e2] at hv
      cases hv
      have hz2 : SqT K H1 r [.int lo, .int hi] := by
        have := huniq e m ke
        rw [this] at hr
        exact hr
      have k02 := k01
      have kt02 := Same.kt s1
      have hT2 : TabAt P w K aT H1 t L (regT Tb k lo hi) := by
        unfold regT
        rw [if_pos hv2]
        exact hT1
      clear e2
      generalize H1 = H2 at *
      refine ⟨_, rfl, _, rfl, by show 2 ≤ sizeLine; decide, fun py npy => ?_⟩
      have s3 : Same H2 (upd H2 py (.tup [.int lo, .int hi])) := same_upd npy
      refine ⟨.tuple [.int lo, .int hi], .tuple [.int lo, .int hi], .tup (sqT_same hz2 s3) (.cons (.int _) (.cons (.int _) .nil)), .tup (SqT.of upd_same) (.cons (.int _) (.cons (.int _) .nil)), rfl, rfl, _, rfl, ?_⟩
      rw [eqv_self rfl]
      refine iteFd rfl ?_
      have hT3 := hT2.same s3
      have k3 : Keep L.l H (upd H2 py (.tup [.int lo, .int hi])) := k02.trans (Same.keeps s3)
      have hk3 := (hk.kt kt02.keepT).kt (Same.kt s3).keepT
      generalize upd H2 py (.tup [.int lo, .int hi]) = H3 at *
      obtain ⟨⟨dx3, h13⟩, _⟩ := id hT3
      refine ⟨_, rfl, _, rfl, rfl, _, rfl, ?_⟩
      unfold varT at q
      by_cases e : lo = hi
      · rw [if_pos e] at q
        refine iteTd (decide_eq_true (by rw [e])) ?_
        exact ⟨_, rfl, t, dx3, _, rfl, h13, rfl, _, rfl, t, L, _, lo, rfl, hT3, hall, hlen, h9, fun H' k' hT' => q H' (k3.trans k') hT'⟩
      · rw [if_neg e] at q
        refine iteFd (decide_eq_false fun z => e (V.int.inj z)) ?_
        refine ⟨_, rfl, t, dx3, _, rfl, h13, rfl, _, rfl, by show 2 ≤ sizeLine; decide, fun pf npf => ?_⟩
        have s4 : Same H3 (upd H3 pf (.tup [.str "variable", .ref p])) := same_upd npf
        exact ⟨_, rfl, _, rfl, t, pf, L, _, .var k, lo, hi, rfl, hT3.same s4, ⟨p, SqT.of upd_same, hk3.kt (Same.kt s4).keepT, hd⟩, ⟨hk.2.1, hd⟩, hall, hlen, h9, fun H' k' hT' => q H' ((k3.trans (Same.keeps s4)).trans k') hT'⟩
    · rcases look_vrK k v2' with ⟨hv2, _⟩ | ⟨e, r, m, ke, e2, hr, hv2⟩
      case inr =>
        rw [e2] at hn
        cases hn
      have lv : L.v ∈ L.l := by simp [Own.l]
      have kt12 : KT H1 H2 := k2.ktN (hT1.2.noT _ lv).2
      have hz2 : SqT K H2 pz [.int lo, .int hi] := sqT_kt hz kt12
      have k02 : Keep L.l H H2 := k01.trans fun b o nb hb => (k2 b (fun z => nb (by rw [z]; exact lv))).trans hb
      have kt02 : KT H H2 := (Same.kt s1).trans kt12
      have hT2 : TabAt P w K aT H2 t L (regT Tb k lo hi) := by
        unfold regT
        rw [if_neg (by rw [hv2]; exact Bool.false_ne_true)]
        obtain ⟨⟨dx1, g1⟩, nd, ⟨ps, f1, f2⟩, ⟨qs, q1, q2⟩, pl, md, _⟩ := hT1
        obtain ⟨⟨n1, n2, n3, n4⟩, ⟨n5, n6, n7⟩, ⟨n8, n9⟩, n10⟩ := own_ne nd
        have tv : t ≠ L.v := fun z => hT.tne (by rw [z]; exact lv)
        refine ⟨⟨dx1, (k2 t tv).trans g1⟩, nd, ⟨ps, (k2 _ n4).trans f1, f2.kt kt12⟩, ⟨qs, (k2 _ n7).trans q1, q2.kt kt12⟩, pl.kt kt12.keepT (fun o ho => (k2 _ n9).trans ho), md.kt kt12.keepT (fun o ho => (k2 _ n10).trans ho), ⟨rs ++ [pz], ?_, (v2'.kt kt12).snoc hz2⟩⟩
        have e3 : putV (vrK Tb.vs rs) k (.ref pz) = vrK (Tb.vs ++ [(k, lo, hi)]) (rs ++ [pz]) := by
          unfold putV
          rw [hn, if_neg (by exact Bool.false_ne_true), vrK_snoc v2.1]
        rw [← e3]
        exact d2
      refine ⟨_, rfl, _, rfl, by show 2 ≤ sizeLine; decide, fun py npy => ?_⟩
      have s3 : Same H2 (upd H2 py (.tup [.int lo, .int hi])) := same_upd npy
      refine ⟨.tuple [.int lo, .int hi], .tuple [.int lo, .int hi], .tup (sqT_same hz2 s3) (.cons (.int _) (.cons (.int _) .nil)), .tup (SqT.of upd_same) (.cons (.int _) (.cons (.int _) .nil)), rfl, rfl, _, rfl, ?_⟩
      rw [eqv_self rfl]
      refine iteFd rfl ?_
      have hT3 := hT2.same s3
      have k3 : Keep L.l H (upd H2 py (.tup [.int lo, .int hi])) := k02.trans (Same.keeps s3)
      have hk3 := (hk.kt kt02.keepT).kt (Same.kt s3).keepT
      generalize upd H2 py (.tup [.int lo, .int hi]) = H3 at *
      obtain ⟨⟨dx3, h13⟩, _⟩ := id hT3
      refine ⟨_, rfl, _, rfl, rfl, _, rfl, ?_⟩
      unfold varT at q
      by_cases e : lo = hi
      · rw [if_pos e] at q
        refine iteTd (decide_eq_true (by rw [e])) ?_
        exact ⟨_, rfl, t, dx3, _, rfl, h13, rfl, _, rfl, t, L, _, lo, rfl, hT3, hall, hlen, h9, fun H' k' hT' => q H' (k3.trans k') hT'⟩
      · rw [if_neg e] at q
        refine iteFd (decide_eq_false fun z => e (V.int.inj z)) ?_
        refine ⟨_, rfl, t, dx3, _, rfl, h13, rfl, _, rfl, by show 2 ≤ sizeLine; decide, fun pf npf => ?_⟩
        have s4 : Same H3 (upd H3 pf (.tup [.str "variable", .ref p])) := same_upd npf
        exact ⟨_, rfl, _, rfl, t, pf, L, _, .var k, lo, hi, rfl, hT3.same s4, ⟨p, SqT.of upd_same, hk3.kt (Same.kt s4).keepT, hd⟩, ⟨hk.2.1, hd⟩, hall, hlen, h9, fun H' k' hT' => q H' ((k3.trans (Same.keeps s4)).trans k') hT'⟩
end

section
variable {P : Program} {w : World} {K : PySem.W.Frag} {mg : Str → Option Value} {base : Heap} {aT aM : Addr}
def fmN : Fm → Str
  | .num _ => "number"
  | .var _ => "variable"
  | .sum _ _ => "sum"
  | .op k _ => k.nm
  | .pick _ => "pick"
theorem fm_head {H : Hp} {p : Addr} {f : Fm} (h : FmAt K H p f) : ∃ rest, SqT K H p (.str (fmN f) :: rest) := by
  cases f with
  | num n => exact ⟨_, h⟩
  | var k => exact let ⟨_, h1, _⟩ := h; ⟨_, h1⟩
  | sum n ps => exact let ⟨_, _, h1, _⟩ := h; ⟨_, h1⟩
  | op k ids => exact let ⟨_, _, h1, _⟩ := h; ⟨_, h1⟩
  | pick ids => exact let ⟨_, _, h1, _⟩ := h; ⟨_, h1⟩
def spParts (K : PySem.W.Frag) : Sp := fun vs H Q _ => ∃ (p : Addr) (f : Fm), vs = [.ref p] ∧ FmAt K H p f ∧ (parts f).length ≤ 900 ∧ ∀ H' a, Same H H' → SqT K H' a ((asInts (parts f)).map V.int) → Q (.ref a) H'
abbrev nPo : List Str := ["form", "unit", "_"]
theorem scPo : FnScope nPo ["form"] (defScope sparts_of) := ⟨rfl, rfl, rfl, by decide +kernel, rfl, by decide +kernel, by decide +kernel⟩
theorem ok_parts {f : Addr} {fd : FuncData} (F : Fun K "parts_of" "parts_of" sparts_of f fd) (T : TxtM mg) : FnOk P w K mg base CX0 1 f fd ["form"] (spParts K) := by
  refine F.ok scPo (fun vs H Q E h => ?_) (fun cdv A outer s H vs Q E hr h => ?_)
  · obtain ⟨_, _, rfl, _⟩ := h
    rfl
  · obtain ⟨p, fm, rfl, hf, hl, q⟩ := h
    refine ⟨_, (pss_cons (ps_if (PW.pt (pw_or (pt_cmpR op_eq (pe_ix ix_tup (pv 0) pe_int (fun _ _ => rfl)) pe_str (nomark _)) (pw_or1 (pt_cmpR op_eq (pe_ix ix_tup (pv 0) pe_int (fun _ _ => rfl)) pe_str (nomark _))))) (pss_one (ps_ret (pe_tup pa_nil))) pss_nil)
      (pss_cons (ps_if (pt_cmpR op_eq (pe_ix ix_tup (pv 0) pe_int (fun _ _ => rfl)) pe_str (nomark _)) (pss_one (ps_ret (pe_callTy call_tuple_of (by rfl) T.tuple (by decide +kernel) (pa_cons (pe_lc (own := [("unit", 1), ("_", 2)]) (g := (gTup K 2 (gCons (gName 1) (gCons (gName 2) gNil)))) (tt := tYes) (te := (tVar 1)) rfl scPo.nd (pi_tup (pe_ix ix_tup (pv 0) pe_int (fun _ _ => rfl))) (blkOk_by (N := nPo) (sc := defScope sparts_of) (by decide +kernel)) (fun _ _ _ _ _ => (pg_tup rfl (pgs_cons (pg_name (i := 1) scPo.nd rfl (.inl rfl) (hf := Or.inr rfl)) (pgs_cons (pg_name (i := 2) scPo.nd rfl (.inl rfl) (hf := Or.inr rfl)) pgs_nil)))) (fun _ _ _ _ _ => pts_nil) (fun _ _ _ _ _ => (pv 1))) pa_nil)))) pss_nil)
      (pss_one (ps_ret (pe_ix ix_tup (pv 0) pe_int (fun _ _ => rfl)))))), ?_⟩
    obtain ⟨rest, hh⟩ := fm_head hf
    have tests : ∀ (H1 : Hp) (nm : Str) (B : Prop), (fmN fm = nm → B) → (fmN fm ≠ nm → B) → B := fun H1 nm B h1 h2 => (Decidable.em (fmN fm = nm)).elim h1 h2
    refine ⟨_, rfl, p, _, (0 : Nat), _, rfl, rfl, hh, i0, rfl, _, rfl, ?_⟩
    have fin : (asInts (parts fm)) = [] → Q (.ref p) H → True := fun _ _ => trivial
    cases fm with
    | num n =>
      refine iteTd (show decide (V.str ("number" : Str) = V.str "number") = true by decide +kernel) ?_
      refine ⟨by show 0 ≤ sizeLine; decide, fun a na => q _ a (same_upd na) (SqT.of upd_same)⟩
    | var k =>
      refine iteFd (show decide (V.str ("variable" : Str) = V.str "number") = false by decide +kernel) ⟨_, rfl, p, _, (0 : Nat), _, rfl, rfl, hh, i0, rfl, _, rfl, iteTd (show decide (V.str ("variable" : Str) = V.str "variable") = true by decide +kernel) ?_⟩
      refine ⟨by show 0 ≤ sizeLine; decide, fun a na => q _ a (same_upd na) (SqT.of upd_same)⟩
    | sum n ps =>
      refine iteFd (show decide (V.str ("sum" : Str) = V.str "number") = false by decide +kernel) ⟨_, rfl, p, _, (0 : Nat), _, rfl, rfl, hh, i0, rfl, _, rfl, iteFd (show decide (V.str ("sum" : Str) = V.str "variable") = false by decide +kernel) ⟨_, rfl, p, _, (0 : Nat), _, rfl, rfl, hh, i0, rfl, _, rfl, iteTd (show decide (V.str ("sum" : Str) = V.str "sum") = true by decide +kernel) ?_⟩⟩
      obtain ⟨a, ts, h1, h2, h3⟩ := hf
      have lt : ts.length = ps.length := h3.1
      refine ⟨_, rfl, p, _, (2 : Nat), _, rfl, rfl, h1, i2, a, rfl, ⟨_, h2⟩, fun D nD => lc_tup (K := K) (a := a) (xs := ts) (fun i H' => Same H H' ∧ H' D = some (.lst (((ps.take i).map fun p => V.int (p.1 : Int)))))
        ⟨same_upd nD, upd_same⟩ (fun i H' _ h => sqT_same h2 h.1) ?_ ?_⟩
      · rintro i x H' hi ⟨sm, hD⟩
        obtain ⟨pr, e1, t, rfl, g3⟩ := h3.at_ hi
        refine ⟨t, _, rfl, SqT.of (sm _ _ g3), rfl, _, _, rfl, _, _, rfl, rfl, rfl, ?_⟩
        unfold tYes
        dsimp only
        rw [if_pos rfl]
        refine ⟨_, rfl, _, hD, ?_, ?_, ?_⟩
        · rw [List.length_map, List.length_take]
          have : ps.length ≤ 900 := by
            have := hl
            simp only [parts, List.length_map] at this
            exact this
          exact Nat.lt_of_le_of_lt (Nat.le_trans (Nat.min_le_right _ _) this) (by decide)
        · exact fun b o e => by rw [upd_ne (ne_of_none e nD)]; exact sm _ _ e
        · rw [upd_same, take_snoc e1, List.map_append]
          rfl
      · rintro H' ⟨sm, hD⟩
        rw [lt, List.take_length] at hD
        refine ⟨D, _, rfl, .inl ⟨SqL.of hD, fun l nl => q _ l (sm.trans (same_upd nl)) (SqT.of ?_)⟩⟩
        rw [upd_same]
        unfold asInts parts
        rw [List.map_map, List.map_map]
        rfl
    | op k ids =>
      have nn := nm_ne k
      obtain ⟨a, c, h1, h2, h3, h4⟩ := hf
      refine iteFd (decide_eq_false fun z => nn.1 (V.str.inj z)) ⟨_, rfl, p, _, (0 : Nat), _, rfl, rfl, hh, i0, rfl, _, rfl, iteFd (decide_eq_false fun z => nn.2.1 (V.str.inj z)) ⟨_, rfl, p, _, (0 : Nat), _, rfl, rfl, hh, i0, rfl, _, rfl, iteFd (decide_eq_false fun z => nn.2.2.1 (V.str.inj z)) ?_⟩⟩
      exact ⟨_, rfl, p, _, (1 : Nat), _, rfl, rfl, h1, i1, q H a (Same.refl H) h2⟩
    | pick ids =>
      obtain ⟨a, c, h1, h2, h3⟩ := hf
      refine iteFd (show decide (V.str ("pick" : Str) = V.str "number") = false by decide +kernel) ⟨_, rfl, p, _, (0 : Nat), _, rfl, rfl, hh, i0, rfl, _, rfl, iteFd (show decide (V.str ("pick" : Str) = V.str "variable") = false by decide +kernel) ⟨_, rfl, p, _, (0 : Nat), _, rfl, rfl, hh, i0, rfl, _, rfl, iteFd (show decide (V.str ("pick" : Str) = V.str "sum") = false by decide +kernel) ?_⟩⟩
      exact ⟨_, rfl, p, _, (1 : Nat), _, rfl, rfl, h1, i1, q H a (Same.refl H) h2⟩

def nK (N : List Nat) : List (L2.Key × V) := N.map fun (j : Nat) => ((Sum.inl (j : Int) : L2.Key), V.bl true)
theorem nK_keys (N : List Nat) : (nK N).map (·.1) = (asInts N).map Sum.inl := by
  unfold nK asInts
  rw [List.map_map, List.map_map]
  rfl
theorem nK_look (p : Nat) : ∀ N : List Nat, valV (nK N) (Sum.inl (p : Int)) = if p ∈ N then some (.bl true) else none
  | [] => rfl
  | j :: N => by
    show (((Sum.inl (j : Int), V.bl true) :: nK N).find? _).map _ = _
    by_cases e : j = p
    · subst e
      rw [List.find?_cons_of_pos (by exact decide_eq_true rfl), if_pos List.mem_cons_self]
      rfl
    · have ne : ¬ ((Sum.inl (j : Int) : L2.Key) = Sum.inl (p : Int)) := fun z => e (Int.ofNat_inj.mp (Sum.inl.inj z))
      rw [List.find?_cons_of_neg (by rw [decide_eq_false ne]; exact Bool.false_ne_true)]
      have ih := nK_look p N
      unfold valV at ih
      rw [ih]
      by_cases h : p ∈ N
      · rw [if_pos h, if_pos (List.mem_cons_of_mem _ h)]
      · rw [if_neg h, if_neg fun z => by
          rcases List.mem_cons.mp z with z | z
          · exact e z.symm
          · exact h z]
theorem nK_put {p : Nat} {N : List Nat} (h : p ∉ N) : putK (nK N) (Sum.inl (p : Int)) (.bl true) = nK (N ++ [p]) := by
  have hn : ((nK N).any fun kv => decide (kv.1 = Sum.inl (p : Int))) = false := by
    rw [List.any_eq_false]
    intro kv hkv
    obtain ⟨j, hj, rfl⟩ := List.mem_map.mp hkv
    intro z
    exact h (by rw [← Int.ofNat_inj.mp (Sum.inl.inj (of_decide_eq_true z))]; exact hj)
  unfold putK
  rw [hn]
  unfold nK
  rw [List.map_append]
  rfl
/-- between two turns: N is needed, G is to be looked at -/
structure NeI (T : Tb) (i : Nat) (N G : List Nat) : Prop where
  nd : N.Nodup
  lt : ∀ j ∈ N, j < T.fs.length
  me : i ∈ N
  sub : ∀ j ∈ G, j ∈ N
  cl : ∀ j ∈ N, j ∈ G ∨ ∀ p ∈ parts (T.fm j), p ∈ N
  g : 2 * (T.fs.length - N.length) + G.length ≤ 2 * T.fs.length
theorem NeI.g0 {T : Tb} {i j : Nat} {N G0 : List Nat} (h : NeI T i N (G0 ++ [j])) : 2 * (T.fs.length - N.length) + G0.length ≤ 2 * T.fs.length := by
  have := h.g
  rw [List.length_append] at this
  omega
theorem NeI.len {T : Tb} {i : Nat} {N G : List Nat} (h : NeI T i N G) : N.length ≤ T.fs.length := nodup_lt h.nd h.lt
theorem NeI.start {T : Tb} {i : Nat} (h : i < T.fs.length) : NeI T i [i] [i] := ⟨List.nodup_cons.mpr ⟨List.not_mem_nil, List.nodup_nil⟩, fun j hj => by rw [List.mem_singleton.mp hj]; exact h, List.mem_cons_self, fun _ h => h, fun j hj => .inl hj, by show 2 * (T.fs.length - 1) + 1 ≤ _; omega⟩
/-- within a turn: the parts ds of j are seen -/
structure NeW (T : Tb) (i : Nat) (N G0 : List Nat) (j : Nat) (N' G' ds : List Nat) : Prop where
  nd : N'.Nodup
  lt : ∀ j ∈ N', j < T.fs.length
  me : i ∈ N'
  sub : ∀ j ∈ G', j ∈ N'
  up : ∀ x ∈ N, x ∈ N'
  gs : ∀ x ∈ G0, x ∈ G'
  nw : ∀ x ∈ N', x ∈ N ∨ x ∈ G'
  ds : ∀ x ∈ ds, x ∈ N'
  cl : ∀ x ∈ N, x ∈ G0 ∨ x = j ∨ ∀ p ∈ parts (T.fm x), p ∈ N
  jN : j ∈ N
  ms : 2 * (T.fs.length - N'.length) + G'.length ≤ 2 * (T.fs.length - N.length) + G0.length
  g0 : 2 * (T.fs.length - N.length) + G0.length ≤ 2 * T.fs.length
theorem NeW.len {T : Tb} {i : Nat} {N G0 : List Nat} {j : Nat} {N' G' ds : List Nat} (h : NeW T i N G0 j N' G' ds) : N'.length ≤ T.fs.length := nodup_lt h.nd h.lt
theorem NeW.start {T : Tb} {i j : Nat} {N G0 : List Nat} (h : NeI T i N (G0 ++ [j])) : NeW T i N G0 j N G0 [] := ⟨h.nd, h.lt, h.me, fun x hx => h.sub x (List.mem_append_left _ hx), fun _ h => h, fun _ h => h, fun _ h => .inl h, fun _ h => (by cases h), fun x hx => by
    rcases h.cl x hx with g | g
    · rcases List.mem_append.mp g with g | g
      · exact .inl g
      · exact .inr (.inl (List.mem_singleton.mp g))
    · exact .inr (.inr g), h.sub j (List.mem_append_right _ List.mem_cons_self), Nat.le_refl _, h.g0⟩
theorem NeW.old {T : Tb} {i : Nat} {N G0 : List Nat} {j : Nat} {N' G' ds : List Nat} {p : Nat} (h : NeW T i N G0 j N' G' ds) (hp : p ∈ N') : NeW T i N G0 j N' G' (ds ++ [p]) :=
  ⟨h.nd, h.lt, h.me, h.sub, h.up, h.gs, h.nw, fun x hx => by
    rcases List.mem_append.mp hx with hx | hx
    · exact h.ds x hx
    · rw [List.mem_singleton.mp hx]
      exact hp, h.cl, h.jN, h.ms, h.g0⟩
theorem NeW.new {T : Tb} {i : Nat} {N G0 : List Nat} {j : Nat} {N' G' ds : List Nat} {p : Nat} (h : NeW T i N G0 j N' G' ds) (hp : p ∉ N') (pl : p < T.fs.length) : NeW T i N G0 j (N' ++ [p]) (G' ++ [p]) (ds ++ [p]) := by
  have nd : (N' ++ [p]).Nodup := nodup_snoc h.nd hp
  have lt : ∀ x ∈ N' ++ [p], x < T.fs.length := fun x hx => by
    rcases List.mem_append.mp hx with hx | hx
    · exact h.lt x hx
    · rw [List.mem_singleton.mp hx]
      exact pl
  have l1 := nodup_lt nd lt
  refine ⟨nd, lt, List.mem_append_left _ h.me, fun x hx => ?_, fun x hx => List.mem_append_left _ (h.up x hx), fun x hx => List.mem_append_left _ (h.gs x hx), fun x hx => ?_, fun x hx => ?_, h.cl, h.jN, ?_, h.g0⟩
  · rcases List.mem_append.mp hx with hx | hx
    · exact List.mem_append_left _ (h.sub x hx)
    · exact List.mem_append_right _ hx
  · rcases List.mem_append.mp hx with hx | hx
    · exact (h.nw x hx).imp id fun g => List.mem_append_left _ g
    · exact .inr (List.mem_append_right _ hx)
  · rcases List.mem_append.mp hx with hx | hx
    · exact List.mem_append_left _ (h.ds x hx)
    · exact List.mem_append_right _ hx
  · have := h.ms
    rw [List.length_append, List.length_singleton] at l1
    rw [List.length_append, List.length_append, List.length_singleton]
    omega
theorem NeW.done {T : Tb} {i : Nat} {N G0 : List Nat} {j : Nat} {N' G' : List Nat} (h : NeW T i N G0 j N' G' (parts (T.fm j))) : NeI T i N' G' := ⟨h.nd, h.lt, h.me, h.sub, fun x hx => by
  rcases h.nw x hx with g | g
  · rcases h.cl x g with g | rfl | g
    · exact .inl (h.gs x g)
    · exact .inr h.ds
    · exact .inr fun p hp => h.up p (g p hp)
  · exact .inl g, by have := h.ms; have := h.g0; omega⟩
theorem nat_item {l : List Nat} {m : Nat} {x : V} (h : ((asInts l).map V.int)[m]? = some x) : ∃ p : Nat, x = .int (p : Int) ∧ l[m]? = some p := by
  unfold asInts at h
  rw [List.map_map, List.getElem?_map] at h
  cases e : l[m]? with
  | none => rw [e] at h; cases h
  | some p => rw [e] at h; exact ⟨p, (Option.some.inj h).symm, rfl⟩
theorem perm_nat {ys : List Int} {N : List Nat} (h : ys.Perm (asInts N)) : ∃ ns, ys = asInts ns ∧ ns.Perm N := by
  have e : ys = asInts (ys.map Int.toNat) := by
    unfold asInts
    rw [List.map_map]
    refine (List.map_id ys).symm.trans (List.map_congr_left fun y hy => ?_)
    obtain ⟨n, _, rfl⟩ := List.mem_map.mp (h.mem_iff.mp hy)
    show (n : Int) = (((n : Int).toNat : Nat) : Int)
    rw [Int.toNat_natCast]
  refine ⟨ys.map Int.toNat, e, ?_⟩
  have := h.map Int.toNat
  unfold asInts at this
  rw [List.map_map] at this
  have e2 : N.map (Int.toNat ∘ fun n : Nat => (n : Int)) = N := (List.map_congr_left fun n _ => Int.toNat_natCast n).trans (List.map_id N)
  rw [e2] at this
  exact this
theorem nat_strict {ns : List Nat} (h : (asInts ns).Pairwise (· ≤ ·)) (nd : ns.Nodup) : ns.Pairwise (· < ·) := by
  unfold asInts at h
  rw [List.pairwise_map] at h
  exact (h.and nd).imp fun ⟨a, b⟩ => by omega
/-- what a value needs -/
def spNeeded (P : Program) (w : World) (K : PySem.W.Frag) (aT : Addr) : Sp := fun vs H Q _ => ∃ (t : Addr) (L : Own) (T : Tb) (i : Nat), vs = [.ref t, .int (i : Int)] ∧ TabAt P w K aT H t L T ∧ i < T.fs.length ∧ T.fs.length ≤ 63 ∧ (∀ j, j < T.fs.length → (parts (T.fm j)).length ≤ 900 ∧ ∀ p ∈ parts (T.fm j), p < j) ∧
  ∀ H' p ns, Same H H' → H' p = some (.lst ((asInts ns).map V.int)) → ns.Pairwise (· < ·) → (∀ j ∈ ns, j < T.fs.length) → i ∈ ns → (∀ j ∈ ns, ∀ p ∈ parts (T.fm j), p ∈ ns) → Q (.ref p) H'
abbrev nne : List Str := ["self", "id_of_term", "needed", "going", "parts", "part"]
theorem scne : FnScope nne ["self", "id_of_term"] (defScope sMneeded) := ⟨rfl, rfl, rfl, by decide +kernel, rfl, by decide +kernel, by decide +kernel⟩
theorem ok_needed {f : Addr} {fd : FuncData} (F : Fun K "_needed" "Terms._needed" sMneeded f fd) (C : TmC K aT) (T : TxtM mg) (cPo : Calls P w K mg base CX0 1 "parts_of" ["form"] (spParts K)) : FnOk P w K mg base CX0 2 f fd ["self", "id_of_term"] (spNeeded P w K aT) := by
  obtain ⟨fPo, dPo, GPo, kPo, bPo, gPo⟩ := cPo.ex
  refine F.ok scne (fun vs H Q E h => ?_) (fun cdv A outer s H vs Q E hr1 h => ?_)
  · obtain ⟨_, _, _, _, rfl, _⟩ := h
    rfl
  · obtain ⟨t, L, Tb, i, rfl, hT, hi, h63, hpt, q⟩ := h
    have cc := C.c
    refine ⟨_, (pss_cons (ps_set (i := 2) scne.nd rfl (.inl rfl) (pe_disp (pps_cons (pv 1) pe_bl pps_nil) rfl rfl (List.cons_ne_nil _ _) (by decide)))
      (pss_cons (ps_set (i := 3) scne.nd rfl (.inl rfl) (pe_lst (pa_cons (pv 1) pa_nil)))
      (pss_cons (ps_while PassesOwn.never (pt_cmpR op_gt (pe_callB call_len_seq (by rfl) T.len PySem.boot_len (pa_cons (pv 3) pa_nil)) pe_int (nomark _)) (pss_cons (ps_set (i := 4) scne.nd rfl (.inl rfl) (pe_call GPo hr1 (by rfl) gPo kPo bPo .nil pass0 (pa_cons (pe_ix ix_list (pe_fld (pv 0) (by rfl)) (pe_bm0 PySem.F.plainAttrs_list PySem.F.slot_list_pop PySem.F.type_list_pop mt_pop (pv 3)) (fun _ _ => rfl)) pa_nil)))
      (pss_one (ps_for PassesOwn.never rfl (pi_tup (pv 4)) (pg_name (i := 5) scne.nd rfl (.inl rfl)) (pss_one (ps_if (pt_cmp (pc_dnotin (Nat.lt_of_le_of_lt (Nat.add_le_add_left (by decide) _) hr1.units) (pv 5) (pv 2))) (pss_cons (ps_asg pe_bl (pg_sub (pv 2) (pv 5) (set_dict (Nat.lt_of_le_of_lt (Nat.add_le_add_left (by decide) _) hr1.units))))
      (pss_one (ps_expr (pe_bm PySem.F.plainAttrs_list PySem.F.slot_list_append PySem.F.type_list_append mt_append (pv 3) (pa_cons (pv 5) pa_nil))))) pss_nil))))))
      (pss_one (ps_ret (pe_callB (call_sortedDI rfl) (by rfl) T.sorted (by decide +kernel) (pa_cons (pv 2) pa_nil))))))), ?_⟩
    obtain ⟨⟨dx, h1⟩, h2⟩ := id hT
    obtain ⟨ps, f1, f2⟩ := h2.fs
    refine fun dN nN => ⟨_, rfl, ⟨upd_same, [(Sum.inl (i : Int), V.bl true)], rfl, by show 1 ≤ 15; decide, ?_⟩⟩
    have s1 : Same H (upd (upd H dN (.dK [])) dN (.dK (mergeK [] [(Sum.inl (i : Int), V.bl true)]))) := fun b o e => by
      rw [upd_ne (ne_of_none e nN), upd_ne (ne_of_none e nN)]
      exact e
    have g1 : upd (upd H dN (.dK [])) dN (.dK (mergeK [] [(Sum.inl (i : Int), V.bl true)])) dN = some (.dK (nK [i])) := upd_same
    generalize upd (upd H dN (.dK [])) dN (.dK (mergeK [] [(Sum.inl (i : Int), V.bl true)])) = H1 at *
    refine ⟨_, rfl, by show 1 ≤ sizeLine; decide, fun lG nG => ?_⟩
    have s2 : Same H (upd H1 lG (.lst [.int (i : Int)])) := Same.trans s1 (same_upd nG)
    have ne : dN ≠ lG := ne_of_none g1 nG
    have nG0 : H lG = none := by
      cases e : H lG with
      | none => rfl
      | some o =>
        have := s1 _ _ e
        rw [nG] at this
        cases this
    have g2 : upd H1 lG (.lst [.int (i : Int)]) dN = some (.dK (nK [i])) := (upd_ne ne).trans g1
    have g3 : upd H1 lG (.lst [.int (i : Int)]) lG = some (.lst ((asInts [i]).map V.int)) := upd_same
    generalize upd H1 lG (.lst [.int (i : Int)]) = H2 at *
    have fr : ∀ {H3 : Hp} {x y : HO}, Same H H3 → Same H (upd (upd H3 dN x) lG y) := fun {H3 x y} s b o e => by
      rw [upd_ne (ne_of_none e nG0), upd_ne (ne_of_none e nN)]
      exact s _ _ e
    have frN : ∀ {H3 : Hp} {x : HO}, Same H H3 → Same H (upd H3 dN x) := fun {H3 x} s b o e => by
      rw [upd_ne (ne_of_none e nN)]
      exact s _ _ e
    have frG : ∀ {H3 : Hp} {x : HO}, Same H H3 → Same H (upd H3 lG x) := fun {H3 x} s b o e => by
      rw [upd_ne (ne_of_none e nG0)]
      exact s _ _ e
    refine while_by (fun σ H' => ∃ (N G : List Nat) (v4 v5 : Option V), σ = [some (.ref t), some (.int (i : Int)), some (.ref dN), some (.ref lG), v4, v5] ∧ Same H H' ∧ H' dN = some (.dK (nK N)) ∧ H' lG = some (.lst ((asInts G).map V.int)) ∧ NeI Tb i N G)
      (fun σ H' => (match H' dN with | some (.dK kvs) => 2 * (Tb.fs.length - kvs.length) | _ => 0) + (match H' lG with | some (.lst xs) => xs.length | _ => 0)) ⟨[i], [i], none, none, rfl, s2, g2, g3, NeI.start hi⟩ ?_ ?_
    · rintro σ H3 ⟨N, G, v4, v5, rfl, s3, dH, lH, inv⟩
      refine ⟨_, rfl, lG, _, rfl, .inl (SqL.of lH), _, _, rfl, rfl, _, rfl, ?_⟩
      have lG0 : ((asInts G).map V.int).length = G.length := by rw [List.length_map, asInts, List.length_map]
      rw [lG0]
      cases hG : G.reverse with
      | nil =>
        have hG : G = [] := List.reverse_eq_nil_iff.mp hG
        subst hG
        refine iteFd (by decide) ?_
        have ek : (nK N).map (·.1) = (asInts N).map Sum.inl := nK_keys N
        refine ⟨_, rfl, dN, _, asInts N, rfl, .inl dH, ek, ?_, fun ys p perm srt np => ?_⟩
        · rw [asInts, List.length_map]
          have := inv.len
          omega
        · obtain ⟨ns, rfl, np1⟩ := perm_nat perm
          refine q _ p ns (Same.trans s3 (same_upd np)) upd_same (nat_strict srt (np1.nodup_iff.mpr inv.nd)) (fun j hj => inv.lt j (np1.mem_iff.mp hj)) (np1.mem_iff.mpr inv.me) fun j hj p hp => np1.mem_iff.mpr ?_
          rcases inv.cl j (np1.mem_iff.mp hj) with h | h
          · cases h
          · exact h p hp
      | cons j R =>
        obtain ⟨G0, rfl⟩ : ∃ G0, G = G0 ++ [j] := ⟨R.reverse, by rw [← List.reverse_reverse G, hG, List.reverse_cons]⟩
        refine iteTd (by rw [List.length_append]; exact decide_eq_true (by rw [List.length_singleton]; omega)) ?_
        have jN : j ∈ N := inv.sub j (List.mem_append_right _ List.mem_cons_self)
        have jl := inv.lt j jN
        have e1 := s3 _ _ h1
        have f1' := s3 _ _ f1
        have nfG : L.f ≠ lG := ne_of_none f1 nG0
        have eG : (asInts (G0 ++ [j])).map V.int = (asInts G0).map V.int ++ [V.int (j : Int)] := by
          unfold asInts
          rw [List.map_append, List.map_append]
          rfl
        rw [eG] at lH
        refine ⟨_, rfl, t, aT, dx, _, _, rfl, e1, cc, C.nf, rfl, _, rfl, .inl ⟨rfl, _, SqL.of lH⟩, lG, _, .int (j : Int), rfl, rfl, lH, ?_, ?_⟩
        · rw [List.length_append, List.length_singleton, Nat.add_sub_cancel, List.getElem?_append_right (Nat.le_refl _), Nat.sub_self]
          rfl
        have s4 : Same H (upd H3 lG (.lst (((asInts G0).map V.int ++ [V.int (j : Int)]).dropLast))) := frG s3
        have l4 : upd H3 lG (.lst (((asInts G0).map V.int ++ [V.int (j : Int)]).dropLast)) lG = some (.lst ((asInts G0).map V.int)) := by
          rw [upd_same, List.dropLast_concat]
        have d4 : upd H3 lG (.lst (((asInts G0).map V.int ++ [V.int (j : Int)]).dropLast)) dN = some (.dK (nK N)) := (upd_ne ne).trans dH
        generalize upd H3 lG (.lst (((asInts G0).map V.int ++ [V.int (j : Int)]).dropLast)) = H4 at *
        have hp : j < ps.length := by rw [f2.1]; exact jl
        refine ⟨L.f, _, (j : Int), _, rfl, rfl, SqL.of (s4 _ _ f1), nat_at (α := Nat) hp, ?_⟩
        refine ⟨_, Tb.fm j, rfl, ((f2.2 j _ _ (List.getElem?_eq_getElem hp) (fm_at jl)).kt (Same.kt s4)), (hpt j jl).1, fun H5 a s5 ha => ?_⟩
        have s05 : Same H H5 := Same.trans s4 s5
        have d5 := s5 _ _ d4
        have l5 := s5 _ _ l4
        have lenN : (nK N).length = N.length := List.length_map ..
        refine ⟨_, rfl, a, rfl, ⟨_, ha⟩, for_tup (K := K) (a := a) (xs := (asInts (parts (Tb.fm j))).map V.int) (fun m σ H' => ∃ (N' G' : List Nat) (v5 : Option V), σ = [some (.ref t), some (.int (i : Int)), some (.ref dN), some (.ref lG), some (.ref a), v5] ∧ Same H H' ∧ KT H5 H' ∧ H' dN = some (.dK (nK N')) ∧ H' lG = some (.lst ((asInts G').map V.int)) ∧
            NeW Tb i N G0 j N' G' ((parts (Tb.fm j)).take m)) ⟨N, G0, v5, rfl, s05, KT.refl _, d5, l5, NeW.start inv⟩ (fun m σ H' _ ⟨_, _, _, _, _, k, _⟩ => sqT_kt ha k) ?_ ?_⟩
        · rintro m x σ H6 hx ⟨N', G', v5', rfl, s6, k6, d6, l6, iw⟩
          obtain ⟨pz, rfl, hpz⟩ := nat_item hx
          have pl : pz < Tb.fs.length := Nat.lt_trans ((hpt j jl).2 pz (List.mem_of_getElem? hpz)) jl
          refine ⟨_, rfl, _, rfl, dN, _, rfl, DGet.k (k := Sum.inl (pz : Int)) d6, _, rfl, ?_⟩
          rw [nK_look]
          have eT : (parts (Tb.fm j)).take (m + 1) = (parts (Tb.fm j)).take m ++ [pz] := take_snoc hpz
          by_cases hin : pz ∈ N'
          · rw [if_pos hin]
            refine iteFd rfl ?_
            refine ⟨N', G', _, rfl, s6, k6, d6, l6, ?_⟩
            rw [eT]
            exact iw.old hin
          · rw [if_neg hin]
            refine iteTd rfl ?_
            refine ⟨_, rfl, _, rfl, dN, _, rfl, DPut.k (k := Sum.inl (pz : Int)) d6 (Nat.lt_of_le_of_lt (by rw [show (nK N').length = N'.length from List.length_map ..]; exact iw.len) (by exact Nat.lt_of_le_of_lt h63 (by decide))), ?_⟩
            rw [nK_put hin]
            refine ⟨_, rfl, .inl ⟨rfl, _, SqL.of ((upd_ne (Ne.symm ne)).trans l6)⟩, _, rfl, lG, _, _, rfl, rfl, (upd_ne (Ne.symm ne)).trans l6, ?_, ?_⟩
            · rw [List.length_map, asInts, List.length_map]
              have h1 := iw.ms
              have h2 := inv.g0
              have : G'.length ≤ 2000 := by omega
              exact Nat.lt_of_le_of_lt this (by decide)
            · refine ⟨N' ++ [pz], G' ++ [pz], _, rfl, fr s6, ?_, ?_, ?_, ?_⟩
              · intro b o io hb
                have e6 := k6 b o io hb
                rw [upd_ne (fun z => by rw [z, l6] at e6; cases e6; exact io), upd_ne (fun z => by rw [z, d6] at e6; cases e6; exact io)]
                exact e6
              · rw [upd_ne ne, upd_same]
              · rw [upd_same]
                unfold asInts
                rw [List.map_append, List.map_append]
                rfl
              · rw [eT]
                exact iw.new hin pl
        · rintro σ H6 ⟨N', G', v5', rfl, s6, k6, d6, l6, iw⟩
          rw [show ((asInts (parts (Tb.fm j))).map V.int).length = (parts (Tb.fm j)).length by rw [List.length_map, asInts, List.length_map], List.take_length] at iw
          refine ⟨⟨N', G', _, _, rfl, s6, d6, l6, iw.done⟩, ?_⟩
          rw [d6, l6, dH, lH]
          show 2 * (Tb.fs.length - (nK N').length) + ((asInts G').map V.int).length < 2 * (Tb.fs.length - (nK N).length) + ((asInts G0).map V.int ++ [V.int (j : Int)]).length
          rw [List.length_append, List.length_map, List.length_map, asInts, asInts, List.length_map, List.length_map, List.length_singleton, lenN, show (nK N').length = N'.length from List.length_map ..]
          have := iw.ms
          have := iw.len
          have := inv.len
          omega
    · rintro σ H Q Q' hm ⟨v, e1, p, ys, e2, e3, a, b, e4, e5, k, e6, h⟩
      exact ⟨v, e1, p, ys, e2, e3, a, b, e4, e5, k, e6, hm _ _ h⟩
end

section
variable {P : Program} {w : World} {K : PySem.W.Frag} {mg : Str → Option Value} {base : Heap} {aT aM : Addr}
structure VOk (v : Nat → Int) (f : Fm) : Prop where
  su : ∀ n ps, f = .sum n ps → ps.length ≤ 900 ∧ ∀ p ∈ ps, Bg 5000 p.2 ∧ Bg 5000 (v p.1)
  op : ∀ k ids, f = .op k ids → ids.length ≤ 900 ∧ (isEx k → ids ≠ []) ∧ (¬ isEx k → ids.length = k.ar ∧ BkC k (ids.map v))
  pk : ∀ ids, f = .pick ids → ids.length ≤ 900 ∧ 1 ≤ ids.length ∧ 0 ≤ v (ids.getLastD 0) ∧ v (ids.getLastD 0) < (ids.length : Int)
def spValOf (P : Program) (w : World) (K : PySem.W.Frag) : Sp := fun vs H Q _ => ∃ (p dF dV : Addr) (f : Fm) (v : Nat → Int) (ρ : PyData → Int) (kvs : List (L2.Key × V)) (vk : List (PyData × V)), vs = [.ref p, .ref dF, .ref dV] ∧ FmAt K H p f ∧ H dF = some (.dK kvs) ∧ (∀ x ∈ parts f, valV kvs (Sum.inl (x : Int)) = some (.int (v x))) ∧ DV P w K H dV vk ∧ (∀ k, f = .var k → lookV vk k = some (.int (ρ k))) ∧ VOk v f ∧
  ∀ H', Same H H' → Q (.int (fmV ρ v f)) H'
theorem dget_at {H : Hp} {a : Addr} {kvs : List (L2.Key × V)} {x : Nat} {z : V} (h : H a = some (.dK kvs)) (e : valV kvs (Sum.inl (x : Int)) = some z) : DGet H a (.int (x : Int)) (some z) := by
  have := DGet.k (k := Sum.inl (x : Int)) h
  rw [e] at this
  exact this
theorem last_get {ids : List Nat} (h : 1 ≤ ids.length) (v : Nat → Int) : (ids.map v).getLastD 0 = v (ids.getLastD 0) ∧ atI ((ids.map v).map V.int) (-1) = some (.int (v (ids.getLastD 0))) := by
  obtain ⟨us, x, rfl⟩ : ∃ us x, ids = us ++ [x] := by
    cases e : ids.reverse with
    | nil =>
      have : ids = [] := List.reverse_eq_nil_iff.mp e
      rw [this] at h
      exact absurd h (by decide)
    | cons x r => exact ⟨r.reverse, x, by rw [← List.reverse_reverse ids, e, List.reverse_cons]⟩
  have e1 : (us ++ [x]).getLastD 0 = x := by simp
  refine ⟨by rw [e1, List.map_append]; simp, ?_⟩
  rw [e1, List.map_append, List.map_append]
  generalize (us.map v).map V.int = ws
  show atI (ws ++ [V.int (v x)]) (-1) = _
  unfold atI ixN
  have hl : (ws ++ [V.int (v x)]).length = ws.length + 1 := by rw [List.length_append]; rfl
  rw [if_neg (by omega), if_pos (by rw [hl]; omega)]
  show (ws ++ [V.int (v x)])[((-1 : Int) + ((ws ++ [V.int (v x)]).length : Nat)).toNat]? = _
  have e : ((-1 : Int) + ((ws ++ [V.int (v x)]).length : Nat)).toNat = ws.length := by
    rw [hl]
    omega
  rw [e, List.getElem?_append_right (Nat.le_refl _), Nat.sub_self]
  rfl
theorem lt900 {n : Nat} (h : n ≤ 900) : n < sizeLine := Nat.lt_of_le_of_lt h (by decide)
abbrev nVo : List Str := ["form", "found", "values", "name", "parts", "part", "unit", "factor"]
theorem scVo : FnScope nVo ["form", "found", "values"] (defScope svalue_of) := ⟨rfl, rfl, rfl, by decide +kernel, rfl, by decide +kernel, by decide +kernel⟩
theorem ok_valof {f : Addr} {fd : FuncData} (F : Fun K "value_of" "value_of" svalue_of f fd) (T : TxtM mg) (cPw : Calls P w K mg base CX0 3 "pointwise" ["kind", "values", "info"] (spPwK K)) : FnOk P w K mg base CX0 4 f fd ["form", "found", "values"] (spValOf P w K) := by
  obtain ⟨fPw, dPw, GPw, kPw, bPw, gPw⟩ := cPw.ex
  refine F.ok scVo (fun vs H Q E h => ?_) (fun cdv A outer s H vs Q E hr3 h => ?_)
  · obtain ⟨_, _, _, _, _, _, _, _, rfl, _⟩ := h
    rfl
  · obtain ⟨p, dF, dV, fm, v, ρ, kvs, vk, rfl, hf, hF, hkv, hV, hvar, ok, q⟩ := h
    obtain ⟨rest, hh⟩ := fm_head hf
    refine ⟨_, (pss_cons (ps_set (i := 3) scVo.nd rfl (.inl rfl) (pe_ix ix_tup (pv 0) pe_int (fun _ _ => rfl)))
      (pss_cons (ps_if (pt_cmpR op_eq (pv 3) pe_str (nomark _)) (pss_one (ps_ret (pe_ix ix_tup (pv 0) pe_int (fun _ _ => rfl)))) pss_nil)
      (pss_cons (ps_if (pt_cmpR op_eq (pv 3) pe_str (nomark _)) (pss_one (ps_ret (pe_dgetV hr3.units (pv 2) (pe_ix ix_tup (pv 0) pe_int (fun _ _ => rfl)) (fun _ _ => rfl)))) pss_nil)
      (pss_cons (ps_if (pt_cmpR op_eq (pv 3) pe_str (nomark _)) (pss_one (ps_ret (pe_op op_add (pe_ix ix_tup (pv 0) pe_int (fun _ _ => rfl)) (pe_callB (cr_sum rfl) (by rfl) T.sum (by decide +kernel) (pa_cons (pe_lc (own := [("unit", 6), ("factor", 7)]) (g := (gTup K 2 (gCons (gName 6) (gCons (gName 7) gNil)))) (tt := tYes) (te := (tOp (rI CMulW fun i j => .int (i * j)) (tVar 7) (tDGet (tVar 1) (tVar 6)))) rfl scVo.nd (pi_tup (pe_ix ix_tup (pv 0) pe_int (fun _ _ => rfl))) (blkOk_by (N := nVo) (sc := defScope svalue_of) (by decide +kernel)) (fun _ _ _ _ _ => (pg_tup rfl (pgs_cons (pg_name (i := 6) scVo.nd rfl (.inl rfl) (hf := Or.inr rfl)) (pgs_cons (pg_name (i := 7) scVo.nd rfl (.inl rfl) (hf := Or.inr rfl)) pgs_nil)))) (fun _ _ _ _ _ => pts_nil) (fun _ _ _ _ _ => (pe_op op_mulW (pv 7) (pe_dget (Nat.lt_of_le_of_lt (Nat.add_le_add_left (by decide) _) hr3.units) (pv 1) (pv 6) (fun _ _ => rfl))))) pa_nil))))) pss_nil)
      (pss_cons (ps_setLc (i := 4) (own := [("part", 5)]) (g := (gName 5)) (tt := tYes) (te := (tDGet (tVar 1) (tVar 5))) (by rfl) scVo.nd rfl rfl (sw_true rfl rfl rfl (by decide +kernel)) (pi_tup (pe_ix ix_tup (pv 0) pe_int (fun _ _ => rfl))) (blkOk_by (N := nVo) (sc := defScope svalue_of) (by decide +kernel)) (fun _ _ _ _ _ => (pg_name (i := 5) scVo.nd rfl (.inl rfl) (hf := Or.inr rfl))) (fun _ _ _ _ _ => pts_nil) (fun _ _ _ _ _ => (pe_dget (Nat.lt_of_le_of_lt (Nat.add_le_add_left (by decide) _) hr3.units) (pv 1) (pv 5) (fun _ _ => rfl))))
      (pss_cons (ps_if (pt_cmpR op_eq (pv 3) pe_str (nomark _)) (pss_one (ps_ret (pe_ix ix_list (pv 4) (pe_ix ix_list (pv 4) (pe_un un_neg pe_int) (fun _ _ => rfl)) (fun _ _ => rfl)))) pss_nil)
      (pss_cons (ps_if (pt_cmpR op_eq (pv 3) pe_str (nomark _)) (pss_one (ps_ret (pe_callB (cr_max rfl) (by rfl) T.max (by decide +kernel) (pa_cons (pv 4) pa_nil)))) pss_nil)
      (pss_cons (ps_if (pt_cmpR op_eq (pv 3) pe_str (nomark _)) (pss_one (ps_ret (pe_callB (cr_min rfl) (by rfl) T.min (by decide +kernel) (pa_cons (pv 4) pa_nil)))) pss_nil)
      (pss_one (ps_ret (pe_call GPw hr3 (by rfl) gPw kPw bPw .nil pass0 (pa_cons (pv 3) (pa_cons (pe_callTy call_tuple_of (by rfl) T.tuple (by decide +kernel) (pa_cons (pv 4) pa_nil)) (pa_cons (pe_ix ix_tup (pv 0) pe_int (fun _ _ => rfl)) pa_nil)))))))))))))), ?_⟩
    refine ⟨_, rfl, p, _, (0 : Nat), _, rfl, rfl, hh, i0, ?_⟩
    cases fm with
    | num n =>
      refine ⟨_, rfl, rfl, _, rfl, iteTd (show decide (V.str ("number" : Str) = V.str "number") = true by decide +kernel) ?_⟩
      exact ⟨_, rfl, p, _, (1 : Nat), _, rfl, rfl, hf, i1, q H (Same.refl H)⟩
    | var k =>
      obtain ⟨a, h1, h2, h3⟩ := hf
      refine ⟨_, rfl, rfl, _, rfl, iteFd (show decide (V.str ("variable" : Str) = V.str "number") = false by decide +kernel) ⟨_, rfl, rfl, _, rfl, iteTd (show decide (V.str ("variable" : Str) = V.str "variable") = true by decide +kernel) ?_⟩⟩
      exact ⟨_, rfl, _, rfl, p, _, (1 : Nat), _, rfl, rfl, h1, i1, a, dV, k, vk, _, rfl, rfl, h2, hV, hvar k rfl, q H (Same.refl H)⟩
    | sum n ps =>
      obtain ⟨a, ts, h1, h2, h3⟩ := hf
      obtain ⟨l9, bg⟩ := ok.su n ps rfl
      refine ⟨_, rfl, rfl, _, rfl, iteFd (show decide (V.str ("sum" : Str) = V.str "number") = false by decide +kernel) ⟨_, rfl, rfl, _, rfl, iteFd (show decide (V.str ("sum" : Str) = V.str "variable") = false by decide +kernel) ⟨_, rfl, rfl, _, rfl, iteTd (show decide (V.str ("sum" : Str) = V.str "sum") = true by decide +kernel) ?_⟩⟩⟩
      refine ⟨_, rfl, p, _, (1 : Nat), _, rfl, rfl, h1, i1, _, rfl, p, _, (2 : Nat), _, rfl, rfl, h1, i2, a, rfl, ⟨_, h2⟩, fun D nD => lc_tup (K := K) (a := a) (xs := ts) (fun i H' => Same H H' ∧ H' D = some (.lst (((ps.take i).map fun p => p.2 * v p.1).map V.int)))
        ⟨same_upd nD, upd_same⟩ (fun i H' _ h => sqT_same h2 h.1) ?_ ?_⟩
      · rintro i x H' hi ⟨sm, hD⟩
        obtain ⟨pr, e1, t, rfl, g3⟩ := h3.at_ hi
        have pm : pr ∈ ps := List.mem_of_getElem? e1
        have hx := hkv pr.1 (List.mem_map.mpr ⟨pr, pm, rfl⟩)
        refine ⟨t, _, rfl, SqT.of (sm _ _ g3), rfl, _, _, rfl, _, _, rfl, rfl, rfl, ?_⟩
        unfold tYes
        dsimp only
        rw [if_pos rfl]
        refine ⟨_, rfl, _, rfl, _, rfl, dF, _, rfl, dget_at (sm _ _ hF) hx, _, _, rfl, rfl, Bg.cmul (bg pr pm).1 (bg pr pm).2 (by decide) (by decide) (by decide), ?_⟩
        refine ⟨_, hD, ?_, ?_, ?_⟩
        · rw [List.length_map, List.length_map, List.length_take]
          exact lt900 (Nat.le_trans (Nat.min_le_right _ _) l9)
        · exact fun b o e => by rw [upd_ne (ne_of_none e nD)]; exact sm _ _ e
        · rw [upd_same, take_snoc e1, List.map_append, List.map_append]
          rfl
      · rintro H' ⟨sm, hD⟩
        rw [h3.1, List.take_length] at hD
        exact ⟨D, _, rfl, SqL.of hD, _, _, rfl, rfl, q H' sm⟩
    | pick ids =>
      obtain ⟨a, c, h1, h2, h3⟩ := hf
      obtain ⟨l9, l1, b0, b1⟩ := ok.pk ids rfl
      refine ⟨_, rfl, rfl, _, rfl, iteFd (show decide (V.str ("pick" : Str) = V.str "number") = false by decide +kernel) ⟨_, rfl, rfl, _, rfl, iteFd (show decide (V.str ("pick" : Str) = V.str "variable") = false by decide +kernel) ⟨_, rfl, rfl, _, rfl, iteFd (show decide (V.str ("pick" : Str) = V.str "sum") = false by decide +kernel) ?_⟩⟩⟩
      refine ⟨_, rfl, p, _, (1 : Nat), _, rfl, rfl, h1, i1, a, rfl, ⟨_, h2⟩, fun D nD => lc_tup (K := K) (a := a) (xs := (asInts ids).map V.int) (fun i H' => Same H H' ∧ H' D = some (.lst (((ids.take i).map v).map V.int)))
        ⟨same_upd nD, upd_same⟩ (fun i H' _ h => sqT_same h2 h.1) ?_ ?_⟩
      · rintro i x H' hi ⟨sm, hD⟩
        obtain ⟨pz, rfl, hpz⟩ := nat_item hi
        refine ⟨rfl, ?_⟩
        unfold tYes
        dsimp only
        rw [if_pos rfl]
        refine ⟨_, rfl, _, rfl, dF, _, rfl, dget_at (sm _ _ hF) (hkv pz (List.mem_of_getElem? hpz)), ?_⟩
        refine ⟨_, hD, ?_, ?_, ?_⟩
        · rw [List.length_map, List.length_map, List.length_take]
          exact lt900 (Nat.le_trans (Nat.min_le_right _ _) l9)
        · exact fun b o e => by rw [upd_ne (ne_of_none e nD)]; exact sm _ _ e
        · rw [upd_same, take_snoc hpz, List.map_append, List.map_append]
          rfl
      rintro H' ⟨sm, hD⟩
      rw [show ((asInts ids).map V.int).length = ids.length by rw [List.length_map, asInts, List.length_map], List.take_length] at hD
      refine ⟨_, rfl, rfl, _, rfl, iteTd (show decide (V.str ("pick" : Str) = V.str "pick") = true by decide +kernel) ?_⟩
      obtain ⟨la1, la2⟩ := last_get l1 v
      refine ⟨_, rfl, _, rfl, _, rfl, D, _, (-1 : Int), _, rfl, rfl, SqL.of hD, la2, D, _, v (ids.getLastD 0), _, rfl, rfl, SqL.of hD, ?_, q H' sm⟩
      show atI ((ids.map v).map V.int) (v (ids.getLastD 0)) = some (.int (((ids.map v)).getD (((ids.map v)).getLastD 0).toNat 0))
      rw [la1]
      obtain ⟨j, hj⟩ := Int.eq_ofNat_of_zero_le b0
      rw [hj, Int.toNat_natCast]
      have hlt : j < ids.length := by omega
      refine atI_nat ?_
      rw [List.getElem?_map, List.getD_eq_getElem?_getD, List.getElem?_map, List.getElem?_eq_getElem hlt]
      rfl
    | op k ids =>
      have nn := nm_ne k
      obtain ⟨a, c, h1, h2, h3, h4⟩ := hf
      obtain ⟨l9, ex, nex⟩ := ok.op k ids rfl
      refine ⟨_, rfl, rfl, _, rfl, iteFd (decide_eq_false fun z => nn.1 (V.str.inj z)) ⟨_, rfl, rfl, _, rfl, iteFd (decide_eq_false fun z => nn.2.1 (V.str.inj z)) ⟨_, rfl, rfl, _, rfl, iteFd (decide_eq_false fun z => nn.2.2.1 (V.str.inj z)) ?_⟩⟩⟩
      refine ⟨_, rfl, p, _, (1 : Nat), _, rfl, rfl, h1, i1, a, rfl, ⟨_, h2⟩, fun D nD => lc_tup (K := K) (a := a) (xs := (asInts ids).map V.int) (fun i H' => Same H H' ∧ H' D = some (.lst (((ids.take i).map v).map V.int)))
        ⟨same_upd nD, upd_same⟩ (fun i H' _ h => sqT_same h2 h.1) ?_ ?_⟩
      · rintro i x H' hi ⟨sm, hD⟩
        obtain ⟨pz, rfl, hpz⟩ := nat_item hi
        refine ⟨rfl, ?_⟩
        unfold tYes
        dsimp only
        rw [if_pos rfl]
        refine ⟨_, rfl, _, rfl, dF, _, rfl, dget_at (sm _ _ hF) (hkv pz (List.mem_of_getElem? hpz)), ?_⟩
        refine ⟨_, hD, ?_, ?_, ?_⟩
        · rw [List.length_map, List.length_map, List.length_take]
          exact lt900 (Nat.le_trans (Nat.min_le_right _ _) l9)
        · exact fun b o e => by rw [upd_ne (ne_of_none e nD)]; exact sm _ _ e
        · rw [upd_same, take_snoc hpz, List.map_append, List.map_append]
          rfl
      rintro H' ⟨sm, hD⟩
      rw [show ((asInts ids).map V.int).length = ids.length by rw [List.length_map, asInts, List.length_map], List.take_length] at hD
      refine ⟨_, rfl, rfl, _, rfl, iteFd (decide_eq_false fun z => nn.2.2.2 (V.str.inj z)) ?_⟩
      by_cases e1 : k = .max
      · subst e1
        refine ⟨_, rfl, rfl, _, rfl, iteTd (show decide (V.str ("max" : Str) = V.str "max") = true by decide +kernel) ?_⟩
        refine ⟨_, rfl, D, _, rfl, SqL.of hD, ?_, fun m m1 m2 => ?_⟩
        · rw [List.length_map]
          exact List.length_pos_iff.mpr (ex (.inl rfl))
        · rw [grt_is m1 m2]
          exact q H' sm
      · by_cases e2 : k = .min
        · subst e2
          refine ⟨_, rfl, rfl, _, rfl, iteFd (show decide (V.str ("min" : Str) = V.str "max") = false by decide +kernel) ⟨_, rfl, rfl, _, rfl, iteTd (show decide (V.str ("min" : Str) = V.str "min") = true by decide +kernel) ?_⟩⟩
          refine ⟨_, rfl, D, _, rfl, SqL.of hD, ?_, fun m m1 m2 => ?_⟩
          · rw [List.length_map]
            exact List.length_pos_iff.mpr (ex (.inr rfl))
          · rw [lst_is m1 m2]
            exact q H' sm
        · obtain ⟨hl, hb⟩ := nex fun z => z.elim e1 e2
          have n1 : k.nm ≠ ("max" : Str) := by
            cases k <;> first | exact absurd rfl e1 | (simp only [Bk.nm]; decide +kernel)
          have n2 : k.nm ≠ ("min" : Str) := by
            cases k <;> first | exact absurd rfl e2 | (simp only [Bk.nm]; decide +kernel)
          have eo : opV k (ids.map v) = ptK k (ids.map v) := by
            cases k <;> first | rfl | exact absurd rfl e1 | exact absurd rfl e2
          have q2 : ∀ H2, Same H H2 → Q (.int (ptK k (ids.map v))) H2 := fun H2 s => by
            rw [← eo]
            exact q H2 s
          refine ⟨_, rfl, rfl, _, rfl, iteFd (decide_eq_false fun z => n1 (V.str.inj z)) ⟨_, rfl, rfl, _, rfl, iteFd (decide_eq_false fun z => n2 (V.str.inj z)) ?_⟩⟩
          refine ⟨_, rfl, _, rfl, D, _, rfl, .inl ⟨SqL.of hD, fun pt npt => ?_⟩⟩
          have s2 := Same.trans sm (same_upd (o := .tup ((ids.map v).map V.int)) npt)
          refine ⟨_, rfl, p, _, (2 : Nat), _, rfl, rfl, sqT_same h1 s2, i2, k, pt, c, ids.map v, rfl, SqT.of upd_same, sqT_same h4 s2, by rw [List.length_map]; exact hl, hb, q2 _ s2⟩

def vK (v : Nat → Int) (N : List Nat) : List (L2.Key × V) := N.map fun (j : Nat) => ((Sum.inl (j : Int) : L2.Key), V.int (v j))
theorem vK_look {v : Nat → Int} {p : Nat} : ∀ {N : List Nat}, p ∈ N → valV (vK v N) (Sum.inl (p : Int)) = some (.int (v p))
  | j :: N, h => by
    show (((Sum.inl (j : Int), V.int (v j)) :: vK v N).find? _).map _ = _
    by_cases e : j = p
    · subst e
      rw [List.find?_cons_of_pos (by exact decide_eq_true rfl)]
      rfl
    · have ne : ¬ ((Sum.inl (j : Int) : L2.Key) = Sum.inl (p : Int)) := fun z => e (Int.ofNat_inj.mp (Sum.inl.inj z))
      rw [List.find?_cons_of_neg (by rw [decide_eq_false ne]; exact Bool.false_ne_true)]
      exact vK_look ((List.mem_cons.mp h).resolve_left fun z => e z.symm)
theorem vK_put {v : Nat → Int} {p : Nat} {N : List Nat} (h : p ∉ N) : putK (vK v N) (Sum.inl (p : Int)) (.int (v p)) = vK v (N ++ [p]) := by
  have hn : ((vK v N).any fun kv => decide (kv.1 = Sum.inl (p : Int))) = false := by
    rw [List.any_eq_false]
    intro kv hkv
    obtain ⟨j, hj, rfl⟩ := List.mem_map.mp hkv
    intro z
    exact h (by rw [← Int.ofNat_inj.mp (Sum.inl.inj (of_decide_eq_true z))]; exact hj)
  unfold putK
  rw [hn]
  unfold vK
  rw [List.map_append]
  rfl
theorem bg_between {b : Nat} {x l h : Int} (hl : Bg b l) (hh : Bg b h) (h1 : l ≤ x) (h2 : x ≤ h) : Bg b x := by
  unfold Bg at *
  omega
theorem vok {b : Nat} {T : Tb} (W : Wf b T) (hb : b ≤ 5000) (h63 : T.fs.length ≤ 63) {ρ : PyData → Int} {v : Nat → Int} (S : Sem T ρ v) {i : Nat} (hi : i < T.fs.length) : VOk v (T.fm i) := by
  obtain ⟨F, ho⟩ := W.fok hi
  have vb : ∀ j, j < T.fs.length → Bg 5000 (v j) := fun j hj => (bg_between (W.spb hj).1 (W.spb hj).2 (S.iv j hj).1 (S.iv j hj).2).mono hb
  have few : ∀ l : List Nat, l.Nodup → (∀ p ∈ l, p ∈ parts (T.fm i)) → l.length ≤ 900 := fun l nd h => Nat.le_trans (nodup_lt nd fun p hp => F.pa p (h p hp)) (by omega)
  refine ⟨fun n ps e => ?_, fun k ids e => ?_, fun ids e => ?_⟩
  · obtain ⟨h1, h2, h3⟩ := F.su n ps e
    refine ⟨?_, fun p hp => ⟨(h3 p hp).1.mono hb, vb _ (F.pa _ (by rw [e]; exact List.mem_map.mpr ⟨p, hp, rfl⟩))⟩⟩
    have := few (ps.map (·.1)) h1 (by rw [e]; exact fun p hp => hp)
    rwa [List.length_map] at this
  · have pa : ∀ p ∈ ids, p < T.fs.length := fun p hp => F.pa p (by rw [e]; exact hp)
    by_cases hk : isEx k
    · obtain ⟨h1, _, h3⟩ := F.ex k ids e hk
      exact ⟨few ids h3 (by rw [e]; exact fun p hp => hp), fun _ => h1, fun z => absurd hk z⟩
    · have hl := F.ar k ids e (fun z => hk (.inl z)) (fun z => hk (.inr z))
      have l3 : k.ar ≤ 3 := by cases k <;> simp [Bk.ar]
      refine ⟨by omega, fun z => absurd z hk, fun _ => ⟨hl, ?_⟩⟩
      cases k with
      | mul =>
        match ids, hl, pa with
        | [x, y], _, pa => exact Bg.cmul (vb x (pa x (by simp))) (vb y (pa y (by simp))) (by decide) (by decide) (by decide)
      | shift n => exact F.sh n ids e
      | _ => trivial
  · obtain ⟨h1, h9, h2, h3⟩ := F.pk ids e
    have hm : ids.getLastD 0 ∈ ids := by
      cases ids with
      | nil => simp at h1
      | cons a r =>
        rw [List.getLastD_cons]
        exact List.getLastD_mem_cons ..
    have := S.iv _ (F.pa _ (by rw [e]; exact hm))
    exact ⟨h9, by omega, by omega, by omega⟩
theorem in_take {ns : List Nat} (h : ns.Pairwise (· < ·)) {i : Nat} {x p : Nat} (hx : ns[i]? = some x) (hp : p ∈ ns) (hlt : p < x) : p ∈ ns.take i := by
  obtain ⟨hi, e⟩ := List.getElem?_eq_some_iff.mp hx
  have e2 : ns = ns.take i ++ ns[i] :: ns.drop (i + 1) := by
    rw [← List.drop_eq_getElem_cons hi, List.take_append_drop]
  rw [e2] at hp h
  rcases List.mem_append.mp hp with h1 | h1
  · exact h1
  · have h2 := (List.pairwise_append.mp h).2.1
    rw [List.pairwise_cons] at h2
    rcases List.mem_cons.mp h1 with h1 | h1
    · omega
    · have := h2.1 p h1
      omega
theorem not_in_take {ns : List Nat} (h : ns.Pairwise (· < ·)) {i : Nat} {x : Nat} (hx : ns[i]? = some x) : x ∉ ns.take i := fun hm => by
  obtain ⟨hi, e⟩ := List.getElem?_eq_some_iff.mp hx
  have e2 : ns = ns.take i ++ ns[i] :: ns.drop (i + 1) := by
    rw [← List.drop_eq_getElem_cons hi, List.take_append_drop]
  rw [e2] at h
  have h2 := (List.pairwise_append.mp h).2.2 x hm ns[i] List.mem_cons_self
  omega
def spValue (P : Program) (w : World) (K : PySem.W.Frag) (aT : Addr) : Sp := fun vs H Q _ => ∃ (t dV : Addr) (L : Own) (T : Tb) (i b : Nat) (ρ : PyData → Int) (v : Nat → Int) (vk : List (PyData × V)), vs = [.ref t, .int (i : Int), .ref dV] ∧ TabAt P w K aT H t L T ∧ i < T.fs.length ∧ T.fs.length ≤ 63 ∧ Wf b T ∧ b ≤ 5000 ∧ Sem T ρ v ∧ DV P w K H dV vk ∧ (∀ k, Fm.var k ∈ T.fs → lookV vk k = some (.int (ρ k))) ∧
  ∀ H', Same H H' → Q (.int (v i)) H'
abbrev nva2 : List Str := ["self", "id_of_term", "values", "found", "term"]
theorem scva2 : FnScope nva2 ["self", "id_of_term", "values"] (defScope sMvalue) := ⟨rfl, rfl, rfl, by decide +kernel, rfl, by decide +kernel, by decide +kernel⟩
theorem ok_value {f : Addr} {fd : FuncData} (F : Fun K "value" "Terms.value" sMvalue f fd) (C : TmC K aT) (hNe : MthAt P w K mg base aT 2 "_needed" ["self", "id_of_term"] (spNeeded P w K aT)) (cVo : Calls P w K mg base CX0 4 "value_of" ["form", "found", "values"] (spValOf P w K)) : FnOk P w K mg base CX0 5 f fd ["self", "id_of_term", "values"] (spValue P w K aT) := by
  obtain ⟨fVo, dVo, GVo, kVo, bVo, gVo⟩ := cVo.ex
  obtain ⟨fne, dne, mne, Gne, bne⟩ := hNe
  refine F.ok scva2 (fun vs H Q E h => ?_) (fun cdv A outer s H vs Q E hr4 h => ?_)
  · obtain ⟨_, _, _, _, _, _, _, _, _, rfl, _⟩ := h
    rfl
  · obtain ⟨t, dV, L, Tb, i, b, ρ, v, vk, rfl, hT, hi, h63, W, hb, S, hV, hvar, q⟩ := h
    have hr2 : Room 2 _ := hr4.mono (by decide)
    have cT := C.c
    obtain ⟨⟨dx, h1⟩, h2⟩ := id hT
    obtain ⟨ps, f1, f2⟩ := h2.fs
    refine ⟨_, (pss_cons (ps_set (i := 3) scva2.nd rfl (.inl rfl) pe_dnewK)
      (pss_cons (ps_for PassesOwn.never rfl (pi_list (pe_meth (pv 0) cT mne Gne hr2 bne .nil pass0 (pa_cons (pv 1) pa_nil))) (pg_name (i := 4) scva2.nd rfl (.inl rfl)) (pss_one (ps_asg (pe_call GVo hr4 (by rfl) gVo kVo bVo .nil pass0 (pa_cons (pe_ix ix_list (pe_fld (pv 0) (by rfl)) (pv 4) (fun _ _ => rfl)) (pa_cons (pv 3) (pa_cons (pv 2) pa_nil)))) (pg_sub (pv 3) (pv 4) (set_dict (Nat.lt_of_le_of_lt (Nat.add_le_add_left (by decide) _) hr4.units))))))
      (pss_one (ps_ret (pe_dget (Nat.lt_of_le_of_lt (Nat.add_le_add_left (by decide) _) hr4.units) (pv 3) (pv 1) (fun _ _ => rfl)))))), ?_⟩
    refine fun dF nF => ?_
    have s1 : Same H (upd H dF (.dK [])) := same_upd nF
    have g1 : upd H dF (.dK []) dF = some (.dK (vK v [])) := upd_same
    generalize upd H dF (.dK []) = H1 at *
    refine ⟨_, rfl, t, dx, _, rfl, s1 _ _ h1, rfl, _, rfl, t, L, Tb, i, rfl, hT.same s1, hi, h63, fun j hj => ⟨?_, (W.fok hj).2⟩, fun H2 p ns s2 hp srt hlt him hcl => ?_⟩
    · have ok := vok W hb h63 S hj
      cases e : Tb.fm j with
      | sum n ps =>
        have := (ok.su n ps e).1
        show (ps.map (·.1)).length ≤ 900
        rw [List.length_map]
        exact this
      | op k ids => exact (ok.op k ids e).1
      | pick ids => exact (ok.pk ids e).1
      | num n => exact Nat.zero_le _
      | var k => exact Nat.zero_le _
    have d2 := s2 _ _ g1
    have s02 := Same.trans s1 s2
    have npd : p ≠ dF := ne_of hp d2 (fun z => by cases z)
    refine ⟨p, rfl, ⟨_, SqL.of hp⟩, for_list (K := K) (a := p) (xs := (asInts ns).map V.int) (fun m σ H' => ∃ v4 : Option V, σ = [some (.ref t), some (.int (i : Int)), some (.ref dV), some (.ref dF), v4] ∧ Same H H' ∧ Keep [dF] H2 H' ∧ H' dF = some (.dK (vK v (ns.take m)))) ⟨none, rfl, s02, Keep.refl _ _, by rw [List.take_zero]; exact d2⟩ (fun m σ H' _ ⟨_, _, _, k, _⟩ => SqL.of (k _ _ (fun z => npd (List.mem_singleton.mp z)) hp)) ?_ ?_⟩
    · rintro m x σ H3 hx ⟨v4, rfl, s3, k3, d3⟩
      obtain ⟨j, rfl, hj⟩ := nat_item hx
      have jm := List.mem_of_getElem? hj
      have jl := hlt j jm
      have hpj : j < ps.length := by rw [f2.1]; exact jl
      refine ⟨_, rfl, t, aT, dx, _, _, rfl, s3 _ _ h1, cT, C.nf, rfl, _, rfl, L.f, _, (j : Int), _, rfl, rfl, SqL.of (s3 _ _ f1), nat_at (α := Nat) hpj, _, rfl, _, rfl, ?_⟩
      refine ⟨_, dF, dV, Tb.fm j, v, ρ, _, vk, rfl, (f2.2 j _ _ (List.getElem?_eq_getElem hpj) (fm_at jl)).kt (Same.kt s3), d3, fun x hx => vK_look (in_take srt hj (hcl j jm x hx) ((W.fok jl).2 x hx)), hV.kt (Same.kt s3).keepT (s3 _), fun k e => hvar k (by rw [← e]; exact List.mem_of_getElem? (fm_at jl)), vok W hb h63 S jl, fun H4 s4 => ?_⟩
      have d4 := s4 _ _ d3
      have ev : fmV ρ v (Tb.fm j) = v j := (S.at_ j _ (fm_at jl)).symm
      rw [ev]
      have l9 : (vK v (ns.take m)).length < sizeLine := by
        unfold vK
        rw [List.length_map, List.length_take]
        have : ns.length ≤ 63 := Nat.le_trans (nodup_lt (srt.imp fun h => Nat.ne_of_lt h) hlt) h63
        exact lt900 (by omega)
      refine ⟨_, rfl, _, rfl, dF, _, rfl, DPut.k (k := Sum.inl (j : Int)) d4 l9, ?_⟩
      rw [vK_put (not_in_take srt hj), ← take_snoc hj]
      have k4 : Keep [dF] H2 (upd H4 dF (.dK (vK v (ns.take (m + 1))))) := fun b o n e => by
        rw [upd_ne (fun z => n (by rw [z]; exact List.mem_cons_self))]
        exact s4 _ _ (k3 b o n e)
      refine ⟨_, rfl, fun b o e => ?_, k4, upd_same⟩
      rw [upd_ne (ne_of_none e nF)]
      exact s4 _ _ (s3 _ _ e)
    · rintro σ H3 ⟨v4, rfl, s3, k3, d3⟩
      rw [show ((asInts ns).map V.int).length = ns.length by rw [List.length_map, asInts, List.length_map], List.take_length] at d3
      exact ⟨_, rfl, _, rfl, dF, _, rfl, dget_at d3 (vK_look him), q H3 s3⟩
end

section
variable {P : Program} {w : World} {K : PySem.W.Frag} {mg : Str → Option Value} {base : Heap} {aT aM : Addr}
def Trip (K : PySem.W.Frag) (H : Hp) (p : Addr) (R : Fm × Int × Int) : Prop := ∃ pf, SqT K H p [.ref pf, .int R.2.1, .int R.2.2] ∧ FmAt K H pf R.1
def TrQ (K : PySem.W.Frag) (R : Fm × Int × Int) (Q : VK) (H : Hp) : Prop := ∀ H' p, Same H H' → Trip K H' p R → Q (.ref p) H'
/-- a term of a table -/
def InT (T : Tb) (i : Nat) : Prop := i < T.fs.length ∧ T.sp.length = T.fs.length
def spSumOf (P : Program) (w : World) (K : PySem.W.Frag) (aT : Addr) : Sp := fun vs H Q _ => ∃ (t : Addr) (L : Own) (T : Tb) (i : Nat), vs = [.ref t, .int (i : Int)] ∧ TabAt P w K aT H t L T ∧ i < T.fs.length ∧
  ∀ H' p a ts, Same H H' → SqT K H' p [.int (sumOf T i).1, .ref a] → SqT K H' a ts → PrsAt H' ts (sumOf T i).2 → Q (.ref p) H'
def spFos (P : Program) (w : World) (K : PySem.W.Frag) (aT : Addr) : Sp := fun vs H Q _ => ∃ (t a : Addr) (L : Own) (T : Tb) (n : Int) (ts : List V) (ps : List (Nat × Int)), vs = [.ref t, .int n, .ref a] ∧ TabAt P w K aT H t L T ∧ SqT K H a ts ∧ PrsAt H ts ps ∧ (∀ p ∈ ps, p.1 < T.fs.length) ∧
  ∀ H' p, Same H H' → FmAt K H' p (fos T n ps) → Q (.ref p) H'
def spKnown (P : Program) (w : World) (K : PySem.W.Frag) (aT : Addr) : Sp := fun vs H Q _ => ∃ (t : Addr) (L : Own) (T : Tb) (i : Nat), vs = [.ref t, .int (i : Int)] ∧ TabAt P w K aT H t L T ∧ InT T i ∧ TrQ K (known T i) Q H
def spSettled (K : PySem.W.Frag) : Sp := fun vs H Q _ => ∃ (n : Int), vs = [.int n] ∧ TrQ K (settled n) Q H
def BgT (T : Tb) (i : Nat) : Prop := Bg 400000 (T.lo i) ∧ Bg 400000 (T.hi i)
def spCanc (P : Program) (w : World) (K : PySem.W.Frag) (aT : Addr) : Sp := fun vs H Q _ => ∃ (t a : Addr) (L : Own) (T : Tb) (n : Int) (ts : List V) (ps : List (Nat × Int)), vs = [.ref t, .int n, .ref a] ∧ TabAt P w K aT H t L T ∧ SqT K H a ts ∧ PrsAt H ts ps ∧ ps.length ≤ 900 ∧ (∀ p ∈ ps, InT T p.1 ∧ Bg 400000 p.2 ∧ BgT T p.1) ∧ TrQ K (canc T n ps) Q H
def spTimes (P : Program) (w : World) (K : PySem.W.Frag) (aT : Addr) : Sp := fun vs H Q _ => ∃ (t : Addr) (L : Own) (T : Tb) (i : Nat) (y : Int), vs = [.ref t, .int (i : Int), .int y] ∧ TabAt P w K aT H t L T ∧ InT T i ∧ Bg 400000 y ∧ BgT T i ∧ Bg 400000 (sumOf T i).1 ∧ (sumOf T i).2.length ≤ 900 ∧ (∀ p ∈ (sumOf T i).2, Bg 400000 p.2 ∧ p.1 < T.fs.length) ∧ TrQ K (timesF T i y) Q H
abbrev nSo : List Str := ["table", "term", "form"]
theorem scSo : FnScope nSo ["table", "term"] (defScope ssum_of) := ⟨rfl, rfl, rfl, by decide +kernel, rfl, by decide +kernel, by decide +kernel⟩
abbrev nFs : List Str := ["table", "number", "pairs"]
theorem scFs : FnScope nFs ["table", "number", "pairs"] (defScope sform_of_sum) := ⟨rfl, rfl, rfl, by decide +kernel, rfl, by decide +kernel, by decide +kernel⟩
abbrev nKn : List Str := ["table", "term", "low", "high"]
theorem scKn : FnScope nKn ["table", "term"] (defScope s_known) := ⟨rfl, rfl, rfl, by decide +kernel, rfl, by decide +kernel, by decide +kernel⟩
abbrev nSe : List Str := ["n"]
theorem scSe : FnScope nSe ["n"] (defScope s_settled) := ⟨rfl, rfl, rfl, by decide +kernel, rfl, by decide +kernel, by decide +kernel⟩
abbrev nCa : List Str := ["table", "number", "pairs", "remaining", "low", "high", "unit", "factor", "least", "most", "pair"]
theorem scCa : FnScope nCa ["table", "number", "pairs"] (defScope s_cancelled) := ⟨rfl, rfl, rfl, by decide +kernel, rfl, by decide +kernel, by decide +kernel⟩
abbrev nTi : List Str := ["table", "term", "by", "number", "pairs", "low", "high", "unit", "factor"]
theorem scTi : FnScope nTi ["table", "term", "by"] (defScope s_times) := ⟨rfl, rfl, rfl, by decide +kernel, rfl, by decide +kernel, by decide +kernel⟩
theorem ok_sumof {f : Addr} {fd : FuncData} (F : Fun K "sum_of" "sum_of" ssum_of f fd) (M : Tm2 P w K mg base aT) : FnOk P w K mg base CX0 2 f fd ["table", "term"] (spSumOf P w K aT) := by
  obtain ⟨ffo, dfo, mfo, Gfo, bfo⟩ := M.fo
  have cT := M.c.c
  refine F.ok scSo (fun vs H Q E h => ?_) (fun cdv A outer s H vs Q E hr1 h => ?_)
  · obtain ⟨_, _, _, _, rfl, _⟩ := h
    rfl
  · obtain ⟨t, L, Tb, i, rfl, hT, hi, q⟩ := h
    obtain ⟨⟨dx, h1⟩, h2⟩ := id hT
    refine ⟨_, (pss_cons (ps_set (i := 2) scSo.nd rfl (.inl rfl) (pe_meth (pv 0) cT mfo Gfo hr1 bfo .nil pass0 (pa_cons (pv 1) pa_nil)))
      (pss_cons (ps_if (pt_cmpR op_eq (pe_ix ix_tup (pv 2) pe_int (fun _ _ => rfl)) pe_str (nomark _)) (pss_one (ps_ret (pe_tup (pa_cons (pe_ix ix_tup (pv 2) pe_int (fun _ _ => rfl)) (pa_cons (pe_tup pa_nil) pa_nil))))) pss_nil)
      (pss_cons (ps_if (pt_cmpR op_eq (pe_ix ix_tup (pv 2) pe_int (fun _ _ => rfl)) pe_str (nomark _)) (pss_one (ps_ret (pe_tup (pa_cons (pe_ix ix_tup (pv 2) pe_int (fun _ _ => rfl)) (pa_cons (pe_ix ix_tup (pv 2) pe_int (fun _ _ => rfl)) pa_nil))))) pss_nil)
      (pss_one (ps_ret (pe_tup (pa_cons pe_int (pa_cons (pe_tup (pa_cons (pe_tup (pa_cons (pv 1) (pa_cons pe_int pa_nil))) pa_nil)) pa_nil)))))))), ?_⟩
    refine ⟨_, rfl, t, dx, _, rfl, h1, rfl, _, rfl, t, L, Tb, i, rfl, hT, hi, fun p hf => ?_⟩
    obtain ⟨rest, hh⟩ := fm_head hf
    refine ⟨_, rfl, p, _, (0 : Nat), _, rfl, rfl, hh, i0, rfl, _, rfl, ?_⟩
    have other : fmN (Tb.fm i) ≠ ("number" : Str) → fmN (Tb.fm i) ≠ ("sum" : Str) → sumOf Tb i = (0, [(i, 1)]) := fun n1 n2 => by
      unfold sumOf
      cases e : Tb.fm i with
      | num n => rw [e] at n1; exact absurd rfl n1
      | sum n ps => rw [e] at n2; exact absurd rfl n2
      | _ => rfl
    by_cases e1 : fmN (Tb.fm i) = ("number" : Str)
    · obtain ⟨n, en⟩ : ∃ n, Tb.fm i = .num n := by
        cases e : Tb.fm i with
        | num n => exact ⟨n, rfl⟩
        | var k => rw [e] at e1; exact absurd e1 (show ("variable" : Str) ≠ "number" by decide +kernel)
        | sum n ps => rw [e] at e1; exact absurd e1 (show ("sum" : Str) ≠ "number" by decide +kernel)
        | op k ids => rw [e] at e1; exact absurd e1 (nm_ne k).1
        | pick ids => rw [e] at e1; exact absurd e1 (show ("pick" : Str) ≠ "number" by decide +kernel)
      have es : sumOf Tb i = (n, []) := by unfold sumOf; rw [en]
      rw [es] at q
      rw [en] at hf
      refine iteTd (decide_eq_true (by rw [e1])) ?_
      refine ⟨_, rfl, p, _, (1 : Nat), _, rfl, rfl, hf, i1, by show 0 ≤ sizeLine; decide, fun a na => ⟨two_line, fun p2 np2 => ?_⟩⟩
      have s1 := same_upd (o := .tup []) na
      have s2 := Same.trans s1 (same_upd (o := .tup [.int n, .ref a]) np2)
      exact q _ p2 a [] s2 (SqT.of upd_same) (SqT.of (same_upd np2 _ _ upd_same)) PrsAt.nil
    · refine iteFd (decide_eq_false fun z => e1 (V.str.inj z)) ?_
      refine ⟨_, rfl, p, _, (0 : Nat), _, rfl, rfl, hh, i0, rfl, _, rfl, ?_⟩
      by_cases e2 : fmN (Tb.fm i) = ("sum" : Str)
      · obtain ⟨n, ps, en⟩ : ∃ n ps, Tb.fm i = .sum n ps := by
          cases e : Tb.fm i with
          | num n => rw [e] at e1; exact absurd rfl e1
          | var k => rw [e] at e2; exact absurd e2 (show ("variable" : Str) ≠ "sum" by decide +kernel)
          | sum n ps => exact ⟨n, ps, rfl⟩
          | op k ids => rw [e] at e2; exact absurd e2 (nm_ne k).2.2.1
          | pick ids => rw [e] at e2; exact absurd e2 (show ("pick" : Str) ≠ "sum" by decide +kernel)
        have es : sumOf Tb i = (n, ps) := by unfold sumOf; rw [en]
        rw [es] at q
        rw [en] at hf
        obtain ⟨a, ts, g1, g2, g3⟩ := hf
        refine iteTd (decide_eq_true (by rw [e2])) ?_
        refine ⟨_, rfl, p, _, (1 : Nat), _, rfl, rfl, g1, i1, _, rfl, p, _, (2 : Nat), _, rfl, rfl, g1, i2, two_line, fun p2 np2 => ?_⟩
        have s2 := same_upd (o := .tup [.int n, .ref a]) np2
        exact q _ p2 a ts s2 (SqT.of upd_same) (sqT_same g2 s2) (g3.kt (Same.kt s2))
      · rw [other e1 e2] at q
        refine iteFd (decide_eq_false fun z => e2 (V.str.inj z)) ?_
        refine ⟨_, rfl, two_line, fun p1 n1 => ⟨by show 1 ≤ sizeLine; decide, fun a na => ⟨two_line, fun p2 np2 => ?_⟩⟩⟩
        have s1 := same_upd (o := .tup [.int (i : Int), .int 1]) n1
        have s2 := same_upd (o := .tup [.ref p1]) na
        have s3 := same_upd (o := .tup [.int 0, .ref a]) np2
        refine q _ p2 a [.ref p1] (Same.trans (Same.trans s1 s2) s3) (SqT.of upd_same) (SqT.of (s3 _ _ upd_same)) ⟨rfl, fun j v pr e3 e4 => ?_⟩
        cases j with
        | zero =>
          cases e3
          cases e4
          exact ⟨p1, rfl, s3 _ _ (s2 _ _ upd_same)⟩
        | succ j => cases e3
theorem ok_fos {f : Addr} {fd : FuncData} (F : Fun K "form_of_sum" "form_of_sum" sform_of_sum f fd) (M : Tm2 P w K mg base aT) (T : TxtM mg) : FnOk P w K mg base CX0 2 f fd ["table", "number", "pairs"] (spFos P w K aT) := by
  obtain ⟨ffo, dfo, mfo, Gfo, bfo⟩ := M.fo
  have cT := M.c.c
  refine F.ok scFs (fun vs H Q E h => ?_) (fun cdv A outer s H vs Q E hr1 h => ?_)
  · obtain ⟨_, _, _, _, _, _, _, rfl, _⟩ := h
    rfl
  · obtain ⟨t, a, L, Tb, n, ts, ps, rfl, hT, ha, hp, hlt, q⟩ := h
    obtain ⟨⟨dx, h1⟩, h2⟩ := id hT
    refine ⟨_, (pss_cons (ps_if (PW.pt (pw_and (pt_cmpR op_eq (pv 1) pe_int (nomark _)) (pw_and (pt_cmpR op_eq (pe_callB call_len_seq (by rfl) T.len PySem.boot_len (pa_cons (pv 2) pa_nil)) pe_int (nomark _)) (pw_and1 (pt_cmpR op_eq (pe_ix ix_tup (pe_ix ix_tup (pv 2) pe_int (fun _ _ => rfl)) pe_int (fun _ _ => rfl)) pe_int (nomark _)))))) (pss_one (ps_ret (pe_meth (pv 0) cT mfo Gfo hr1 bfo .nil pass0 (pa_cons (pe_ix ix_tup (pe_ix ix_tup (pv 2) pe_int (fun _ _ => rfl)) pe_int (fun _ _ => rfl)) pa_nil)))) pss_nil)
      (pss_one (ps_ret (pe_tup (pa_cons pe_str (pa_cons (pv 1) (pa_cons (pv 2) pa_nil))))))), ?_⟩
    refine ⟨_, rfl, rfl, _, rfl, ?_⟩
    by_cases e0 : n = 0
    · refine iteTd (decide_eq_true (by rw [e0])) ?_
      refine ⟨_, rfl, a, _, rfl, .inr ha, rfl, _, rfl, ?_⟩
      by_cases e1 : ps.length = 1
      · obtain ⟨u, c, rfl⟩ : ∃ u c, ps = [(u, c)] := by
          match ps, e1 with
          | [(u, c)], _ => exact ⟨u, c, rfl⟩
        obtain ⟨tv, rfl⟩ : ∃ tv, ts = [tv] := by
          match ts, hp.1 with
          | [tv], _ => exact ⟨tv, rfl⟩
        obtain ⟨tq, rfl, gq⟩ := hp.2 0 _ _ rfl rfl
        refine iteTd (decide_eq_true rfl) ?_
        refine ⟨_, rfl, a, _, (0 : Nat), _, rfl, rfl, ha, i0, tq, _, (1 : Nat), _, rfl, rfl, SqT.of gq, i1, rfl, _, rfl, ?_⟩
        by_cases e2 : c = 1
        · have ef : fos Tb n [(u, c)] = Tb.fm u := by
            show (if n = 0 ∧ c = 1 then Tb.fm u else Fm.sum n [(u, c)]) = _
            exact if_pos ⟨e0, e2⟩
          rw [ef] at q
          refine iteTd (decide_eq_true (by rw [e2])) ?_
          refine ⟨_, rfl, t, dx, _, rfl, h1, rfl, _, rfl, a, _, (0 : Nat), _, rfl, rfl, ha, i0, tq, _, (0 : Nat), _, rfl, rfl, SqT.of gq, i0, t, L, Tb, u, rfl, hT, hlt (u, c) List.mem_cons_self, fun p hf => q H p (Same.refl H) hf⟩
        · have gen : fos Tb n [(u, c)] = .sum n [(u, c)] := by
            show (if n = 0 ∧ c = 1 then Tb.fm u else Fm.sum n [(u, c)]) = _
            exact if_neg fun z => e2 z.2
          refine iteFd (decide_eq_false fun z => e2 (V.int.inj z)) ?_
          exact ⟨_, rfl, _, rfl, by show 3 ≤ sizeLine; decide, fun p np => q _ p (same_upd np) (by
      rw [gen]
      exact ⟨a, _, SqT.of upd_same, sqT_same ha (same_upd np), hp.kt (Same.kt (same_upd np))⟩)⟩
      · have gen : fos Tb n ps = .sum n ps := by
          match ps, e1 with
          | [], _ => rfl
          | _ :: _ :: _, _ => rfl
        refine iteFd (decide_eq_false fun z => e1 ?_) ?_
        · have := V.int.inj z
          rw [hp.1] at this
          omega
        · exact ⟨_, rfl, _, rfl, by show 3 ≤ sizeLine; decide, fun p np => q _ p (same_upd np) (by
      rw [gen]
      exact ⟨a, _, SqT.of upd_same, sqT_same ha (same_upd np), hp.kt (Same.kt (same_upd np))⟩)⟩
    · have gen : fos Tb n ps = .sum n ps := by
        match ps with
        | [] => rfl
        | _ :: _ :: _ => rfl
        | [(u, c)] =>
          show (if n = 0 ∧ c = 1 then Tb.fm u else Fm.sum n [(u, c)]) = _
          exact if_neg fun z => e0 z.1
      refine iteFd (decide_eq_false fun z => e0 (V.int.inj z)) ?_
      exact ⟨_, rfl, _, rfl, by show 3 ≤ sizeLine; decide, fun p np => q _ p (same_upd np) (by
      rw [gen]
      exact ⟨a, _, SqT.of upd_same, sqT_same ha (same_upd np), hp.kt (Same.kt (same_upd np))⟩)⟩
theorem ok_known {f : Addr} {fd : FuncData} (F : Fun K "_known" "_known" s_known f fd) (M : Tm2 P w K mg base aT) : FnOk P w K mg base CX0 2 f fd ["table", "term"] (spKnown P w K aT) := by
  obtain ⟨ffo, dfo, mfo, Gfo, bfo⟩ := M.fo
  obtain ⟨fsp, dsp, msp, Gsp, bsp⟩ := M.sp
  have cT := M.c.c
  refine F.ok scKn (fun vs H Q E h => ?_) (fun cdv A outer s H vs Q E hr1 h => ?_)
  · obtain ⟨_, _, _, _, rfl, _⟩ := h
    rfl
  · obtain ⟨t, L, Tb, i, rfl, hT, ⟨hi, hl⟩, q⟩ := h
    obtain ⟨⟨dx, h1⟩, h2⟩ := id hT
    refine ⟨_, (pss_cons (ps_asg (pe_meth (pv 0) cT msp Gsp hr1 bsp .nil pass0 (pa_cons (pv 1) pa_nil)) (pg_tup rfl (pgs_cons (pg_name (i := 2) scKn.nd rfl (.inl rfl)) (pgs_cons (pg_name (i := 3) scKn.nd rfl (.inl rfl)) pgs_nil))))
      (pss_one (ps_ret (pe_tup (pa_cons (pe_meth (pv 0) cT mfo Gfo hr1 bfo .nil pass0 (pa_cons (pv 1) pa_nil)) (pa_cons (pv 2) (pa_cons (pv 3) pa_nil))))))), ?_⟩
    refine ⟨_, rfl, t, dx, _, rfl, h1, rfl, _, rfl, t, L, Tb, i, rfl, hT, by rw [hl]; exact hi, fun p hp => ?_⟩
    refine ⟨p, _, rfl, hp, rfl, _, _, rfl, _, _, rfl, rfl, ?_⟩
    refine ⟨_, rfl, t, dx, _, rfl, h1, rfl, _, rfl, t, L, Tb, i, rfl, hT, hi, fun pf hf => ?_⟩
    refine ⟨_, rfl, _, rfl, by show 3 ≤ sizeLine; decide, fun p3 np3 => ?_⟩
    have s3 := same_upd (o := .tup [.ref pf, .int (Tb.lo i), .int (Tb.hi i)]) np3
    exact q _ p3 s3 ⟨pf, SqT.of upd_same, hf.kt (Same.kt s3)⟩
theorem ok_settled {f : Addr} {fd : FuncData} (F : Fun K "_settled" "_settled" s_settled f fd) : FnOk P w K mg base CX0 1 f fd ["n"] (spSettled K) := by
  refine F.ok scSe (fun vs H Q E h => ?_) (fun cdv A outer s H vs Q E hr1 h => ?_)
  · obtain ⟨_, rfl, _⟩ := h
    rfl
  · obtain ⟨n, rfl, q⟩ := h
    refine ⟨_, (pss_one (ps_ret (pe_tup (pa_cons (pe_tup (pa_cons pe_str (pa_cons (pv 0) pa_nil))) (pa_cons (pv 0) (pa_cons (pv 0) pa_nil)))))), ?_⟩
    refine ⟨_, rfl, two_line, fun pf npf => ⟨_, rfl, _, rfl, by show 3 ≤ sizeLine; decide, fun p3 np3 => ?_⟩⟩
    have s1 := same_upd (o := .tup [.str "number", .int n]) npf
    have s3 := same_upd (o := .tup [.ref pf, .int n, .int n]) np3
    exact q _ p3 (Same.trans s1 s3) ⟨pf, SqT.of upd_same, SqT.of (s3 _ _ upd_same)⟩
theorem ok_canc {f : Addr} {fd : FuncData} (F : Fun K "_cancelled" "_cancelled" s_cancelled f fd) (M : Tm2 P w K mg base aT) (T : TxtM mg) (cCo : Calls P w K mg base CX0 1 "corners" ["one", "other"] (spCorners K)) (cFs : Calls P w K mg base CX0 2 "form_of_sum" ["table", "number", "pairs"] (spFos P w K aT)) : FnOk P w K mg base CX0 3 f fd ["table", "number", "pairs"] (spCanc P w K aT) := by
  obtain ⟨fCo, dCo, GCo, kCo, bCo, gCo⟩ := cCo.ex
  obtain ⟨fFs, dFs, GFs, kFs, bFs, gFs⟩ := cFs.ex
  obtain ⟨fsp, dsp, msp, Gsp, bsp⟩ := M.sp
  have cT := M.c.c
  refine F.ok scCa (fun vs H Q E h => ?_) (fun cdv A outer s H vs Q E hr2 h => ?_)
  · obtain ⟨_, _, _, _, _, _, _, rfl, _⟩ := h
    rfl
  · obtain ⟨t, a, L, Tb, n, ts, ps, rfl, hT, ha, hp, h9, hin, q⟩ := h
    have hr1 : Room 1 _ := hr2.mono (by decide)
    obtain ⟨⟨dx, h1⟩, h2⟩ := id hT
    refine ⟨_, (pss_cons (ps_set (i := 3) scCa.nd rfl (.inl rfl) (pe_callTy call_tuple_of (by rfl) T.tuple (by decide +kernel) (pa_cons (pe_lc (own := [("pair", 10)]) (g := (gName 10)) (tt := (tTest (tOp rNe (tOp (rIxT K) (tVar 10) (tC (.int 1))) (tC (.int 0))))) (te := (tVar 10)) rfl scCa.nd (pi_tup (pv 2)) (blkOk_by (N := nCa) (sc := defScope s_cancelled) (by decide +kernel)) (fun _ _ _ _ _ => (pg_name (i := 10) scCa.nd rfl (.inl rfl) (hf := Or.inr rfl))) (fun _ _ _ _ _ => pts_one (pt_cmpR op_ne (pe_ix ix_tup (pv 10) pe_int (fun _ _ => rfl)) pe_int (nomark _))) (fun _ _ _ _ _ => (pv 10))) pa_nil)))
      (pss_cons (ps_asg2 (pv 1) (pg_name (i := 4) scCa.nd rfl (.inl rfl)) (pg_name (i := 5) scCa.nd rfl (.inl rfl)))
      (pss_cons (ps_for PassesOwn.never rfl (pi_tup (pv 3)) (pg_tup rfl (pgs_cons (pg_name (i := 6) scCa.nd rfl (.inl rfl)) (pgs_cons (pg_name (i := 7) scCa.nd rfl (.inl rfl)) pgs_nil))) (pss_cons (ps_asg (pe_call GCo hr1 (by rfl) gCo kCo bCo .nil pass0 (pa_cons (pe_tup (pa_cons (pv 7) (pa_cons (pv 7) pa_nil))) (pa_cons (pe_meth (pv 0) cT msp Gsp hr1 bsp .nil pass0 (pa_cons (pv 6) pa_nil)) pa_nil))) (pg_tup rfl (pgs_cons (pg_name (i := 8) scCa.nd rfl (.inl rfl)) (pgs_cons (pg_name (i := 9) scCa.nd rfl (.inl rfl)) pgs_nil))))
      (pss_cons (ps_set (i := 4) scCa.nd rfl (.inl rfl) (pe_op op_add (pv 4) (pv 8)))
      (pss_one (ps_set (i := 5) scCa.nd rfl (.inl rfl) (pe_op op_add (pv 5) (pv 9)))))))
      (pss_one (ps_ret (pe_tup (pa_cons (pe_call GFs hr2 (by rfl) gFs kFs bFs .nil pass0 (pa_cons (pv 0) (pa_cons (pv 1) (pa_cons (pv 3) pa_nil)))) (pa_cons (pv 4) (pa_cons (pv 5) pa_nil))))))))), ?_⟩
    refine ⟨_, rfl, a, rfl, ⟨_, ha⟩, fun D nD => lc_tup (K := K) (a := a) (xs := ts) (fun i H' => Same H H' ∧ ∃ us : List V, H' D = some (.lst us) ∧ us.length ≤ i ∧ PrsAt H us ((ps.take i).filter fun p => decide (p.2 ≠ 0)))
      ⟨same_upd nD, [], upd_same, Nat.le_refl _, PrsAt.nil⟩ (fun i H' _ h => sqT_same ha h.1) ?_ ?_⟩
    · rintro i x H' hi ⟨sm, us, hD, hu, hP⟩
      obtain ⟨pr, e1, tq, rfl, g3⟩ := hp.at_ hi
      refine ⟨rfl, ?_⟩
      refine ⟨_, rfl, tq, _, (1 : Nat), _, rfl, rfl, SqT.of (sm _ _ g3), i1, rfl, _, rfl, ?_⟩
      by_cases e2 : pr.2 = 0
      · refine iteFd (by rw [e2]; decide +kernel) ?_
        refine ⟨sm, us, hD, Nat.le_succ_of_le hu, ?_⟩
        rw [take_snoc e1, List.filter_append, List.filter_cons_of_neg (by simp [e2])]
        rw [List.filter_nil, List.append_nil]
        exact hP
      · refine iteTd (by rw [decide_eq_false (fun z => e2 (V.int.inj z))]; rfl) ?_
        have l1 : i < ts.length := (List.getElem?_eq_some_iff.mp hi).1
        refine ⟨_, rfl, us, hD, lt900 (by have := hp.1; omega), ?_⟩
        refine ⟨fun b o e => by rw [upd_ne (ne_of_none e nD)]; exact sm _ _ e, us ++ [.ref tq], upd_same, by rw [List.length_append, List.length_singleton]; omega, ?_⟩
        rw [take_snoc e1, List.filter_append, List.filter_cons_of_pos (by simp [e2])]
        exact hP.snoc ⟨tq, rfl, g3⟩
    rintro H1 ⟨s1, us, hD, hu, hP⟩
    rw [hp.1, List.take_length] at hP
    have hin' : ∀ p ∈ ps.filter (fun p => decide (p.2 ≠ 0)), InT Tb p.1 ∧ Bg 400000 p.2 ∧ BgT Tb p.1 := fun p hp => hin p (List.mem_filter.mp hp).1
    unfold canc at q
    generalize ps.filter (fun p => decide (p.2 ≠ 0)) = rs at *
    refine ⟨D, _, rfl, .inl ⟨SqL.of hD, fun ar nar => ?_⟩⟩
    have s2 := Same.trans s1 (same_upd (o := .tup us) nar)
    have har : SqT K (upd H1 ar (.tup us)) ar us := SqT.of upd_same
    have hP2 := hP.kt (Same.kt s2)
    generalize upd H1 ar (.tup us) = H2 at *
    refine ⟨_, rfl, ?_⟩
    refine ⟨_, rfl, ar, rfl, ⟨_, har⟩, for_tup (K := K) (a := ar) (xs := us) (fun i σ H' => ∃ v6 v7 v8 v9 : Option V, σ = [some (.ref t), some (.int n), some (.ref a), some (.ref ar), some (.int (n + ((rs.take i).map fun p => cLo Tb p.1 p.2).sum)), some (.int (n + ((rs.take i).map fun p => cHi Tb p.1 p.2).sum)), v6, v7, v8, v9, none] ∧ Same H2 H')
      ⟨none, none, none, none, by simp; rfl, Same.refl _⟩ (fun i σ H' _ ⟨_, _, _, _, _, k⟩ => sqT_same har k) ?_ ?_⟩
    · rintro i x σ H3 hx ⟨v6, v7, v8, v9, rfl, s3⟩
      obtain ⟨pr, e1, tq, rfl, g3⟩ := hP2.at_ hx
      obtain ⟨⟨hl1, hl2⟩, b1, b2, b3⟩ := hin' pr (List.mem_of_getElem? e1)
      have s03 := Same.trans s2 s3
      refine ⟨tq, _, rfl, SqT.of (s3 _ _ g3), rfl, _, _, rfl, _, _, rfl, rfl, ?_⟩
      refine ⟨_, rfl, _, rfl, two_line, fun pz npz => ?_⟩
      have s4 := Same.trans s03 (same_upd (o := .tup [.int pr.2, .int pr.2]) npz)
      have s34 := Same.trans s3 (same_upd (o := .tup [.int pr.2, .int pr.2]) npz)
      have hz : SqT K (upd H3 pz (.tup [.int pr.2, .int pr.2])) pz [.int pr.2, .int pr.2] := SqT.of upd_same
      generalize upd H3 pz (.tup [.int pr.2, .int pr.2]) = H4 at *
      refine ⟨_, rfl, t, dx, _, rfl, s4 _ _ h1, rfl, _, rfl, t, L, Tb, pr.1, rfl, hT.same s4, by rw [hl2]; exact hl1, fun pq hq => ?_⟩
      refine ⟨pz, pq, _, _, _, _, rfl, hz, hq, b1, b1, b2, b3, fun H5 pc s5 hc => ?_⟩
      refine ⟨pc, _, rfl, hc, rfl, _, _, rfl, _, _, rfl, rfl, ?_⟩
      refine ⟨_, rfl, _, rfl, _, _, rfl, rfl, _, rfl, _, rfl, _, _, rfl, rfl, ?_⟩
      have eS : ∀ g : Nat × Int → Int, n + ((rs.take (i + 1)).map g).sum = n + ((rs.take i).map g).sum + g pr := fun g => by
        rw [take_snoc e1, List.map_append, List.sum_append, List.map_cons, List.map_nil, List.sum_cons, List.sum_nil]
        omega
      refine ⟨some (.int (pr.1 : Int)), some (.int pr.2), some (.int (cLo Tb pr.1 pr.2)), some (.int (cHi Tb pr.1 pr.2)), ?_, Same.trans s34 s5⟩
      rw [eS, eS]
      rfl
    · rintro σ H3 ⟨v6, v7, v8, v9, rfl, s3⟩
      have s03 := Same.trans s2 s3
      rw [hP2.1, List.take_length]
      refine ⟨_, rfl, _, rfl, _, rfl, t, ar, L, Tb, n, us, rs, rfl, hT.same s03, sqT_same har s3, hP2.kt (Same.kt s3), fun p hp => (hin' p hp).1.1, fun H4 pf s4 hf => ?_⟩
      refine ⟨_, rfl, _, rfl, by show 3 ≤ sizeLine; decide, fun p3 np3 => ?_⟩
      have s5 := same_upd (o := .tup [.ref pf, .int (n + (rs.map fun p => cLo Tb p.1 p.2).sum), .int (n + (rs.map fun p => cHi Tb p.1 p.2).sum)]) np3
      exact q _ p3 (Same.trans s03 (Same.trans s4 s5)) ⟨pf, SqT.of upd_same, hf.kt (Same.kt s5)⟩
theorem ok_times {f : Addr} {fd : FuncData} (F : Fun K "_times" "_times" s_times f fd) (M : Tm2 P w K mg base aT) (T : TxtM mg) (cCo : Calls P w K mg base CX0 1 "corners" ["one", "other"] (spCorners K)) (cFs : Calls P w K mg base CX0 2 "form_of_sum" ["table", "number", "pairs"] (spFos P w K aT)) (cSo : Calls P w K mg base CX0 2 "sum_of" ["table", "term"] (spSumOf P w K aT)) : FnOk P w K mg base CX0 3 f fd ["table", "term", "by"] (spTimes P w K aT) := by
  obtain ⟨fCo, dCo, GCo, kCo, bCo, gCo⟩ := cCo.ex
  obtain ⟨fFs, dFs, GFs, kFs, bFs, gFs⟩ := cFs.ex
  obtain ⟨fSo, dSo, GSo, kSo, bSo, gSo⟩ := cSo.ex
  obtain ⟨fsp, dsp, msp, Gsp, bsp⟩ := M.sp
  have cT := M.c.c
  refine F.ok scTi (fun vs H Q E h => ?_) (fun cdv A outer s H vs Q E hr2 h => ?_)
  · obtain ⟨_, _, _, _, _, rfl, _⟩ := h
    rfl
  · obtain ⟨t, L, Tb, i, y, rfl, hT, ⟨hi, hlen⟩, hy, ⟨bT1, bT2⟩, bn, hl9, hps, q⟩ := h
    have hr1 : Room 1 _ := hr2.mono (by decide)
    obtain ⟨⟨dx, h1⟩, h2⟩ := id hT
    unfold timesF at q
    refine ⟨_, (pss_cons (ps_asg (pe_call GSo hr2 (by rfl) gSo kSo bSo .nil pass0 (pa_cons (pv 0) (pa_cons (pv 1) pa_nil))) (pg_tup rfl (pgs_cons (pg_name (i := 3) scTi.nd rfl (.inl rfl)) (pgs_cons (pg_name (i := 4) scTi.nd rfl (.inl rfl)) pgs_nil))))
      (pss_cons (ps_asg (pe_call GCo hr1 (by rfl) gCo kCo bCo .nil pass0 (pa_cons (pe_tup (pa_cons (pv 2) (pa_cons (pv 2) pa_nil))) (pa_cons (pe_meth (pv 0) cT msp Gsp hr1 bsp .nil pass0 (pa_cons (pv 1) pa_nil)) pa_nil))) (pg_tup rfl (pgs_cons (pg_name (i := 5) scTi.nd rfl (.inl rfl)) (pgs_cons (pg_name (i := 6) scTi.nd rfl (.inl rfl)) pgs_nil))))
      (pss_one (ps_ret (pe_tup (pa_cons (pe_call GFs hr2 (by rfl) gFs kFs bFs .nil pass0 (pa_cons (pv 0) (pa_cons (pe_op op_mulW (pv 2) (pv 3)) (pa_cons (pe_callTy call_tuple_of (by rfl) T.tuple (by decide +kernel) (pa_cons (pe_lc (own := [("unit", 7), ("factor", 8)]) (g := (gTup K 2 (gCons (gName 7) (gCons (gName 8) gNil)))) (tt := tYes) (te := (tTup (tCons (tVar 7) (tCons (tOp (rI CMulW fun i j => .int (i * j)) (tVar 2) (tVar 8)) tNil)))) rfl scTi.nd (pi_tup (pv 4)) (blkOk_by (N := nTi) (sc := defScope s_times) (by decide +kernel)) (fun _ _ _ _ _ => (pg_tup rfl (pgs_cons (pg_name (i := 7) scTi.nd rfl (.inl rfl) (hf := Or.inr rfl)) (pgs_cons (pg_name (i := 8) scTi.nd rfl (.inl rfl) (hf := Or.inr rfl)) pgs_nil)))) (fun _ _ _ _ _ => pts_nil) (fun _ _ _ _ _ => (pe_tup (pa_cons (pv 7) (pa_cons (pe_op op_mulW (pv 2) (pv 8)) pa_nil))))) pa_nil)) pa_nil)))) (pa_cons (pv 5) (pa_cons (pv 6) pa_nil)))))))), ?_⟩
    refine ⟨_, rfl, _, rfl, t, L, Tb, i, rfl, hT, hi, fun H1 p1 a ts s1 hp1 ha hP => ?_⟩
    generalize (sumOf Tb i).2 = ps at *
    generalize (sumOf Tb i).1 = n at *
    refine ⟨p1, _, rfl, hp1, rfl, _, _, rfl, _, _, rfl, rfl, ?_⟩
    refine ⟨_, rfl, _, rfl, two_line, fun pz npz => ?_⟩
    have s2 := Same.trans s1 (same_upd (o := .tup [.int y, .int y]) npz)
    have s12 := same_upd (o := .tup [.int y, .int y]) npz
    have hz : SqT K (upd H1 pz (.tup [.int y, .int y])) pz [.int y, .int y] := SqT.of upd_same
    generalize upd H1 pz (.tup [.int y, .int y]) = H2 at *
    refine ⟨_, rfl, t, dx, _, rfl, s2 _ _ h1, rfl, _, rfl, t, L, Tb, i, rfl, hT.same s2, by rw [hlen]; exact hi, fun pq hq => ?_⟩
    refine ⟨pz, pq, _, _, _, _, rfl, hz, hq, hy, hy, bT1, bT2, fun H3 pc s3 hc => ?_⟩
    refine ⟨pc, _, rfl, hc, rfl, _, _, rfl, _, _, rfl, rfl, ?_⟩
    have s03 := Same.trans s2 s3
    have s13 := Same.trans s12 s3
    refine ⟨_, rfl, _, rfl, _, rfl, _, _, rfl, rfl, Bg.cmul hy bn (by decide) (by decide) (by decide), ?_⟩
    have ha3 := sqT_same ha s13
    have hP3 := hP.kt (Same.kt s13)
    refine ⟨_, rfl, a, rfl, ⟨_, ha3⟩, fun D nD => lc_tup (K := K) (a := a) (xs := ts) (fun i H' => Same H3 H' ∧ ∃ us : List V, H' D = some (.lst us) ∧ us.length ≤ i ∧ PrsAt H' us ((ps.take i).map fun p => (p.1, y * p.2)))
      ⟨same_upd nD, [], upd_same, Nat.le_refl _, PrsAt.nil⟩ (fun i H' _ h => sqT_same ha3 h.1) ?_ ?_⟩
    · rintro i x H' hi ⟨sm, us, hD, hu, hQ⟩
      obtain ⟨pr, e1, tq, rfl, g3⟩ := hP3.at_ hi
      have l1 : i < ts.length := (List.getElem?_eq_some_iff.mp hi).1
      refine ⟨tq, _, rfl, SqT.of (sm _ _ g3), rfl, _, _, rfl, _, _, rfl, rfl, rfl, ?_⟩
      unfold tYes
      dsimp only
      rw [if_pos rfl]
      refine ⟨_, rfl, _, rfl, _, rfl, _, _, rfl, rfl, Bg.cmul hy (hps pr (List.mem_of_getElem? e1)).1 (by decide) (by decide) (by decide), two_line, fun pn npn => ?_⟩
      have nDp : D ≠ pn := ne_of_none hD npn
      refine ⟨us, (upd_ne nDp).trans hD, lt900 (by have := hP3.1; omega), ?_⟩
      have sn := same_upd (o := .tup [.int (pr.1 : Int), .int (y * pr.2)]) npn
      have kt : KT H' (upd (upd H' pn (.tup [.int (pr.1 : Int), .int (y * pr.2)])) D (.lst (us ++ [.ref pn]))) := fun b o io e => by
        rw [upd_ne (fun z => by rw [z, hD] at e; cases e; exact io)]
        exact sn _ _ e
      refine ⟨fun b o e => by rw [upd_ne (ne_of_none e nD)]; exact sn _ _ (sm _ _ e), us ++ [.ref pn], upd_same, by rw [List.length_append, List.length_singleton]; omega, ?_⟩
      rw [take_snoc e1, List.map_append]
      exact (hQ.kt kt).snoc ⟨pn, rfl, by rw [upd_ne (Ne.symm nDp), upd_same]⟩
    · rintro H4 ⟨s4, us, hD, hu, hQ⟩
      rw [hP3.1, List.take_length] at hQ
      have s04 := Same.trans s03 s4
      refine ⟨D, _, rfl, .inl ⟨SqL.of hD, fun ar nar => ?_⟩⟩
      have s5 := same_upd (o := .tup us) nar
      refine ⟨t, ar, L, Tb, _, us, _, rfl, hT.same (Same.trans s04 s5), SqT.of upd_same, hQ.kt (Same.kt s5), fun p hp => ?_, fun H6 pf s6 hf => ?_⟩
      · obtain ⟨p0, h0, rfl⟩ := List.mem_map.mp hp
        exact (hps p0 h0).2
      · refine ⟨_, rfl, _, rfl, by show 3 ≤ sizeLine; decide, fun p3 np3 => ?_⟩
        have s7 := same_upd (o := .tup [.ref pf, .int (cLo Tb i y), .int (cHi Tb i y)]) np3
        exact q _ p3 (Same.trans (Same.trans s04 s5) (Same.trans s6 s7)) ⟨pf, SqT.of upd_same, hf.kt (Same.kt s7)⟩
end

section
variable {P : Program} {w : World} {K : PySem.W.Frag} {mg : Str → Option Value} {base : Heap} {aT aM : Addr}
theorem sumOf_str {b : Nat} {T : Tb} (W : Wf b T) (hb : 1 ≤ b) {i : Nat} (h : i < T.fs.length) :
    ((sumOf T i).2.map (·.1)).Nodup ∧ Bg b (sumOf T i).1 ∧ (∀ p ∈ (sumOf T i).2, p.1 < T.fs.length ∧ Bg b p.2) ∧ (sumOf T i).2.length ≤ T.fs.length := by
  obtain ⟨F, ho⟩ := W.fok h
  have len : ∀ ps : List (Nat × Int), (ps.map (·.1)).Nodup → (∀ p ∈ ps, p.1 < T.fs.length) → ps.length ≤ T.fs.length := fun ps nd hp => by
    have := nodup_lt nd fun x hx => by
      obtain ⟨p, hm, rfl⟩ := List.mem_map.mp hx
      exact hp p hm
    rwa [List.length_map] at this
  unfold sumOf
  have other : (([(i, (1 : Int))] : List (Nat × Int)).map (·.1)).Nodup ∧ Bg b 0 ∧ (∀ p ∈ [(i, (1 : Int))], p.1 < T.fs.length ∧ Bg b p.2) ∧ [(i, (1 : Int))].length ≤ T.fs.length := by
    refine ⟨List.nodup_cons.mpr ⟨List.not_mem_nil, List.nodup_nil⟩, bg_zero b, fun p hp => ?_, by show 1 ≤ _; omega⟩
    rw [List.mem_singleton.mp hp]
    exact ⟨h, bg_one hb⟩
  cases e : T.fm i with
  | num n => exact ⟨List.nodup_nil, F.nu n e, fun p hp => (by cases hp), Nat.zero_le _⟩
  | sum n ps =>
    obtain ⟨h1, h2, h3⟩ := F.su n ps e
    have h4 : ∀ p ∈ ps, p.1 < T.fs.length := fun p hp => F.pa p.1 (by rw [e]; exact List.mem_map.mpr ⟨p, hp, rfl⟩)
    exact ⟨h1, h2, fun p hp => ⟨h4 p hp, (h3 p hp).1⟩, len ps h1 h4⟩
  | var k => exact other
  | op k ids => exact other
  | pick ids => exact other
def spPlus (P : Program) (w : World) (K : PySem.W.Frag) (aT : Addr) : Sp := fun vs H Q _ => ∃ (t : Addr) (L : Own) (T : Tb) (i j b : Nat) (s : Int), vs = [.ref t, .int (i : Int), .int (j : Int), .int s] ∧ TabAt P w K aT H t L T ∧ Wf b T ∧ 1 ≤ b ∧ b ≤ 5000 ∧ T.fs.length ≤ 400 ∧ i < T.fs.length ∧ j < T.fs.length ∧ (s = 1 ∨ s = -1) ∧ TrQ K (plusF T i j s) Q H
/-- the sums while they are joined: a dict of pairs by their units -/
def FdAt (H : Hp) (D : Addr) (l : List (Nat × Int)) : Prop := ∃ kvs : List (L2.Key × V), H D = some (.dK kvs) ∧ kvs.map (·.1) = l.map (fun (p : Nat × Int) => (Sum.inl (p.1 : Int) : L2.Key)) ∧ PrsAt H (kvs.map (·.2)) l
theorem FdAt.look {H : Hp} {D : Addr} {l : List (Nat × Int)} (h : FdAt H D l) (u : Nat) : ∃ kvs, H D = some (.dK kvs) ∧ ((valV kvs (Sum.inl (u : Int)) = none ∧ getP l u = 0 ∧ u ∉ l.map (·.1)) ∨ ∃ v, valV kvs (Sum.inl (u : Int)) = some v ∧ PrAt H v (u, getP l u) ∧ u ∈ l.map (·.1)) := by
  obtain ⟨kvs, h1, h2, h3⟩ := h
  refine ⟨kvs, h1, ?_⟩
  clear h1
  induction kvs generalizing l with
  | nil =>
    cases l with
    | nil => exact .inl ⟨rfl, rfl, by simp⟩
    | cons p l => cases h2
  | cons kv kvs ih =>
    cases l with
    | nil => cases h2
    | cons p l =>
      rw [List.map_cons, List.map_cons] at h2
      injection h2 with h2 h4
      have g0 := h3.2 0 _ _ rfl rfl
      have tl : PrsAt H (kvs.map (·.2)) l := ⟨Nat.succ.inj h3.1, fun i v p a b => h3.2 (i + 1) v p a b⟩
      unfold valV getP
      by_cases e : p.1 = u
      · rw [List.find?_cons_of_pos (by rw [h2, e]; exact decide_eq_true rfl), if_pos e]
        refine .inr ⟨kv.2, rfl, ?_, by rw [List.map_cons, e]; exact List.mem_cons_self⟩
        rw [← e]
        exact g0
      · have ne : ¬ (kv.1 = Sum.inl (u : Int)) := fun z => e (by rw [h2] at z; exact Int.ofNat_inj.mp (Sum.inl.inj z))
        rw [List.find?_cons_of_neg (by rw [decide_eq_false ne]; exact Bool.false_ne_true), if_neg e]
        rcases ih h4 tl with ⟨a1, a2, a3⟩ | ⟨v, a1, a2, a3⟩
        · refine .inl ⟨a1, a2, fun z => ?_⟩
          rw [List.map_cons] at z
          rcases List.mem_cons.mp z with z | z
          · exact e z.symm
          · exact a3 z
        · exact .inr ⟨v, a1, a2, by rw [List.map_cons]; exact List.mem_cons_of_mem _ a3⟩
theorem fd_put {kvs : List (L2.Key × V)} {l : List (Nat × Int)} {H : Hp} (h2 : kvs.map (·.1) = l.map (fun (p : Nat × Int) => (Sum.inl (p.1 : Int) : L2.Key))) (h3 : PrsAt H (kvs.map (·.2)) l) (nd : (l.map (·.1)).Nodup) {u : Nat} {c : Int} {v : V} (hv : PrAt H v (u, c)) :
    (putK kvs (Sum.inl (u : Int)) v).map (·.1) = (putP l u c).map (fun (p : Nat × Int) => (Sum.inl (p.1 : Int) : L2.Key)) ∧ PrsAt H ((putK kvs (Sum.inl (u : Int)) v).map (·.2)) (putP l u c) := by
  induction kvs generalizing l with
  | nil =>
    cases l with
    | nil => exact ⟨rfl, PrsAt.nil.snoc hv⟩
    | cons p l => cases h2
  | cons kv kvs ih =>
    cases l with
    | nil => cases h2
    | cons p l =>
      rw [List.map_cons, List.map_cons] at h2
      injection h2 with h2 h4
      have g0 := h3.2 0 _ _ rfl rfl
      have tl : PrsAt H (kvs.map (·.2)) l := ⟨Nat.succ.inj h3.1, fun i v p a b => h3.2 (i + 1) v p a b⟩
      rw [List.map_cons, List.nodup_cons] at nd
      have cons : ∀ {w : V} {q : Nat × Int} {ws : List V} {qs : List (Nat × Int)}, PrAt H w q → PrsAt H ws qs → PrsAt H (w :: ws) (q :: qs) := fun {w q ws qs} a b => ⟨by rw [List.length_cons, List.length_cons, b.1], fun i x y e1 e2 => by
        cases i with
        | zero =>
          cases e1
          cases e2
          exact a
        | succ i => exact b.2 i x y e1 e2⟩
      unfold putP
      by_cases e : p.1 = u
      · rw [if_pos e]
        have hk : kv.1 = Sum.inl (u : Int) := by rw [h2, e]
        have no : ∀ x ∈ kvs, ¬ x.1 = Sum.inl (u : Int) := fun x hx z => by
          have : (Sum.inl (u : Int) : L2.Key) ∈ kvs.map (·.1) := by rw [← z]; exact List.mem_map.mpr ⟨x, hx, rfl⟩
          rw [h4] at this
          obtain ⟨y, hy, e3⟩ := List.mem_map.mp this
          exact nd.1 (List.mem_map.mpr ⟨y, hy, by rw [Int.ofNat_inj.mp (Sum.inl.inj e3), e]⟩)
        have ep : putK (kv :: kvs) (Sum.inl (u : Int)) v = (kv.1, v) :: kvs := by
          unfold putK
          rw [if_pos (by rw [List.any_cons, hk, decide_eq_true rfl]; rfl), List.map_cons, if_pos hk]
          congr 1
          refine (List.map_congr_left fun x hx => ?_).trans (List.map_id kvs)
          rw [if_neg (no x hx)]
          rfl
        rw [ep]
        refine ⟨?_, cons hv tl⟩
        rw [List.map_cons, List.map_cons, h4, hk]
      · rw [if_neg e]
        have hk : ¬ kv.1 = Sum.inl (u : Int) := fun z => e (by rw [h2] at z; exact Int.ofNat_inj.mp (Sum.inl.inj z))
        have ep : putK (kv :: kvs) (Sum.inl (u : Int)) v = kv :: putK kvs (Sum.inl (u : Int)) v := by
          unfold putK
          rw [List.any_cons, decide_eq_false hk, Bool.false_or]
          split
          · rw [List.map_cons, if_neg hk]
          · rfl
        rw [ep]
        obtain ⟨i1, i2⟩ := ih h4 tl nd.2
        refine ⟨?_, cons g0 i2⟩
        rw [List.map_cons, List.map_cons, i1, h2]
theorem putP_new {u : Nat} {c : Int} : ∀ {l : List (Nat × Int)}, u ∉ l.map (·.1) → putP l u c = l ++ [(u, c)]
  | [], _ => rfl
  | p :: r, h => by
    rw [List.map_cons, List.mem_cons, not_or] at h
    unfold putP
    rw [if_neg fun z => h.1 z.symm, putP_new h.2]
    rfl
theorem mergeP_snoc (s : Int) (q : Nat × Int) : ∀ (xs l : List (Nat × Int)), mergeP l s (xs ++ [q]) = putP (mergeP l s xs) q.1 (getP (mergeP l s xs) q.1 + s * q.2)
  | [], l => rfl
  | x :: xs, l => by
    show mergeP _ s (xs ++ [q]) = putP (mergeP _ s xs) _ (getP (mergeP _ s xs) _ + _)
    exact mergeP_snoc s q xs _
theorem cancP_snoc (s : Int) (q : Nat × Int) : ∀ (xs l : List (Nat × Int)) (c : Bool), cancP c l s (xs ++ [q]) = (cancP c l s xs || decide (getP (mergeP l s xs) q.1 * s * q.2 < 0))
  | [], l, c => rfl
  | x :: xs, l, c => by
    show cancP _ _ s (xs ++ [q]) = (cancP _ _ s xs || decide (getP (mergeP _ s xs) q.1 * s * q.2 < 0))
    exact cancP_snoc s q xs _ _
/-- what a pair's reference stands for -/
def prOf (H : Hp) (x : V) : Nat × Int := match x with
  | .ref t => (match H t with
    | some (.tup [.int u, .int c]) => (u.toNat, c)
    | _ => (0, 0))
  | _ => (0, 0)
def kOf (H : Hp) (x : V) : Int × Int := (((prOf H x).1 : Int), (prOf H x).2)
theorem prOf_at {H : Hp} {x : V} {p : Nat × Int} (h : PrAt H x p) : prOf H x = p := by
  obtain ⟨t, rfl, e⟩ := h
  unfold prOf
  simp only [e, Int.toNat_natCast]
theorem prs_map {H : Hp} : ∀ {ts : List V} {ps : List (Nat × Int)}, PrsAt H ts ps → ps = ts.map (prOf H)
  | [], [], _ => rfl
  | v :: ts, p :: ps, h => by
    rw [List.map_cons, prOf_at (h.2 0 v p rfl rfl), ← prs_map (ts := ts) (ps := ps) ⟨Nat.succ.inj h.1, fun i v p a b => h.2 (i + 1) v p a b⟩]
  | [], _ :: _, h => absurd h.1 (by simp)
  | _ :: _, [], h => absurd h.1 (by simp)
theorem prs_mem {H : Hp} {ts : List V} {ps : List (Nat × Int)} (h : PrsAt H ts ps) {x : V} (hx : x ∈ ts) : PrAt H x (prOf H x) := by
  obtain ⟨i, hi⟩ := List.getElem?_of_mem hx
  obtain ⟨p, _, g⟩ := h.at_ hi
  rw [prOf_at g]
  exact g
theorem prs_of {H : Hp} {ts : List V} (h : ∀ x ∈ ts, PrAt H x (prOf H x)) : PrsAt H ts (ts.map (prOf H)) := ⟨(List.length_map _).symm, fun i v p a b => by
  rw [List.getElem?_map, a] at b
  cases b
  exact h v (List.mem_of_getElem? a)⟩
theorem sorted_vals {H : Hp} {ts ys : List V} {l : List (Nat × Int)} (h : PrsAt H ts l) (nd : (l.map (·.1)).Nodup) (hs : SrtO.Srtd (ltP (kOf H)) ys) (hb : SrtO.Stb (ltP (kOf H)) ys ts) : PrsAt H ys (sortP l) := by
  have perm := hb.perm
  have e := prs_map h
  have p2 : (ys.map (prOf H)).Perm l := by
    rw [e]
    exact perm.map _
  have all : ∀ x ∈ ys, PrAt H x (prOf H x) := fun x hx => prs_mem h (perm.mem_iff.mp hx)
  have nd2 : ((ys.map (prOf H)).map (·.1)).Nodup := (p2.map _).nodup_iff.mpr nd
  have st : (ys.map (prOf H)).Pairwise (fun a b => a.1 < b.1) := by
    rw [List.pairwise_map]
    rw [List.map_map] at nd2
    have nd3 : ys.Pairwise fun a b => (prOf H a).1 ≠ (prOf H b).1 := by
      have := nd2
      unfold List.Nodup at this
      rw [List.pairwise_map] at this
      exact this
    refine (hs.and nd3).imp fun {a b} ⟨h1, h2⟩ => ?_
    have := SrtO.lexB_no.mp h1
    unfold kOf at this
    omega
  have : sortP l = ys.map (prOf H) := sorted_uniq ((sortP_perm l).trans p2.symm) (sortP_sorted nd) st
  rw [this]
  exact prs_of all
abbrev nPl : List Str := ["table", "one", "other", "sign", "number", "pairs", "more", "further", "found", "cancels", "unit", "factor", "before", "low", "high", "least", "most", "pair"]
theorem scPl : FnScope nPl ["table", "one", "other", "sign"] (defScope s_plus) := ⟨rfl, rfl, rfl, by decide +kernel, rfl, by decide +kernel, by decide +kernel⟩
theorem ok_plus {f : Addr} {fd : FuncData} (F : Fun K "_plus" "_plus" s_plus f fd) (M : Tm2 P w K mg base aT) (T : TxtM mg) (cSo : Calls P w K mg base CX0 2 "sum_of" ["table", "term"] (spSumOf P w K aT)) (cCo : Calls P w K mg base CX0 1 "corners" ["one", "other"] (spCorners K)) (cFs : Calls P w K mg base CX0 2 "form_of_sum" ["table", "number", "pairs"] (spFos P w K aT)) (cCa : Calls P w K mg base CX0 3 "_cancelled" ["table", "number", "pairs"] (spCanc P w K aT)) : FnOk P w K mg base CX0 4 f fd ["table", "one", "other", "sign"] (spPlus P w K aT) := by
  obtain ⟨fSo, dSo, GSo, kSo, bSo, gSo⟩ := cSo.ex
  obtain ⟨fCo, dCo, GCo, kCo, bCo, gCo⟩ := cCo.ex
  obtain ⟨fFs, dFs, GFs, kFs, bFs, gFs⟩ := cFs.ex
  obtain ⟨fCa, dCa, GCa, kCa, bCa, gCa⟩ := cCa.ex
  obtain ⟨fsp, dsp, msp, Gsp, bsp⟩ := M.sp
  have cT := M.c.c
  refine F.ok scPl (fun vs H Q E h => ?_) (fun cdv A outer s H vs Q E hr3 h => ?_)
  · obtain ⟨_, _, _, _, _, _, _, rfl, _⟩ := h
    rfl
  · obtain ⟨t, L, Tb, i, j, b, sg, rfl, hT, W, hb, hb5, h4, hi, hj, hs, q⟩ := h
    have hr1 : Room 1 _ := hr3.mono (by decide)
    have hr2 : Room 2 _ := hr3.mono (by decide)
    obtain ⟨⟨dx, h1⟩, h2⟩ := id hT
    obtain ⟨nd1, bn1, g1, l1⟩ := sumOf_str W hb hi
    obtain ⟨nd2, bn2, g2, l2⟩ := sumOf_str W hb hj
    unfold plusF at q
    refine ⟨_, (pss_cons (ps_asg (pe_call GSo hr2 (by rfl) gSo kSo bSo .nil pass0 (pa_cons (pv 0) (pa_cons (pv 1) pa_nil))) (pg_tup rfl (pgs_cons (pg_name (i := 4) scPl.nd rfl (.inl rfl)) (pgs_cons (pg_name (i := 5) scPl.nd rfl (.inl rfl)) pgs_nil))))
      (pss_cons (ps_asg (pe_call GSo hr2 (by rfl) gSo kSo bSo .nil pass0 (pa_cons (pv 0) (pa_cons (pv 2) pa_nil))) (pg_tup rfl (pgs_cons (pg_name (i := 6) scPl.nd rfl (.inl rfl)) (pgs_cons (pg_name (i := 7) scPl.nd rfl (.inl rfl)) pgs_nil))))
      (pss_cons (ps_set (i := 4) scPl.nd rfl (.inl rfl) (pe_op op_add (pv 4) (pe_op op_mulW (pv 3) (pv 6))))
      (pss_cons (ps_setDc (i := 8) (own := [("pair", 17)]) (g := (gName 17)) (tt := tYes) (tk := (tOp (rIxT K) (tVar 17) (tC (.int 0)))) (tv := (tVar 17)) (by rfl) scPl.nd rfl rfl (sw_dict rfl rfl rfl (by decide +kernel)) (pi_tup (pv 5)) (blkOk_by (N := nPl) (sc := defScope s_plus) (by decide +kernel)) (fun _ _ _ _ _ => (pg_name (i := 17) scPl.nd rfl (.inl rfl) (hf := Or.inr rfl))) (fun _ _ _ _ _ => pts_nil) (fun _ _ _ _ _ => (pe_ix ix_tup (pv 17) pe_int (fun _ _ => rfl))) (fun _ _ _ _ _ => (pv 17)))
      (pss_cons (ps_set (i := 9) scPl.nd rfl (.inl rfl) pe_bl)
      (pss_cons (ps_for PassesOwn.never rfl (pi_tup (pv 7)) (pg_tup rfl (pgs_cons (pg_name (i := 10) scPl.nd rfl (.inl rfl)) (pgs_cons (pg_name (i := 11) scPl.nd rfl (.inl rfl)) pgs_nil))) (pss_cons (ps_set (i := 12) scPl.nd rfl (.inl rfl) (pe_ifExp (pt_cmp (pc_din (Nat.lt_of_le_of_lt (Nat.add_le_add_left (by decide) _) hr3.units) (pv 10) (pv 8))) (pe_ix ix_tup (pe_dget (Nat.lt_of_le_of_lt (Nat.add_le_add_left (by decide) _) hr3.units) (pv 8) (pv 10) (fun _ _ => rfl)) pe_int (fun _ _ => rfl)) pe_int))
      (pss_cons (ps_asg (pe_tup (pa_cons (pv 10) (pa_cons (pe_op op_add (pv 12) (pe_op op_mulW (pv 3) (pv 11))) pa_nil))) (pg_sub (pv 8) (pv 10) (set_dict (Nat.lt_of_le_of_lt (Nat.add_le_add_left (by decide) _) hr3.units))))
      (pss_one (ps_set (i := 9) scPl.nd rfl (.inl rfl) (pe_or (pv 9) (pe_one (pe_cmpR op_lt (pe_op op_mulW (pe_op op_mulW (pv 12) (pv 3)) (pv 11)) pe_int (nomark _)))))))))
      (pss_cons (ps_set (i := 5) scPl.nd rfl (.inl rfl) (pe_callTy call_tuple_of (by rfl) T.tuple (by decide +kernel) (pa_cons (pe_callB (cr_sortVals rfl) (by rfl) T.sorted (by decide +kernel) (pa_cons (pe_bm0 PySem.F.plainAttrs_dict PySem.F.slot_dict_values PySem.F.type_dict_values mt_valuesK (pv 8)) pa_nil)) pa_nil)))
      (pss_cons (ps_if (pt_val (pv 9)) (pss_one (ps_ret (pe_call GCa hr3 (by rfl) gCa kCa bCa .nil pass0 (pa_cons (pv 0) (pa_cons (pv 4) (pa_cons (pv 5) pa_nil)))))) pss_nil)
      (pss_cons (ps_asg (pe_meth (pv 0) cT msp Gsp hr1 bsp .nil pass0 (pa_cons (pv 1) pa_nil)) (pg_tup rfl (pgs_cons (pg_name (i := 13) scPl.nd rfl (.inl rfl)) (pgs_cons (pg_name (i := 14) scPl.nd rfl (.inl rfl)) pgs_nil))))
      (pss_cons (ps_asg (pe_call GCo hr1 (by rfl) gCo kCo bCo .nil pass0 (pa_cons (pe_tup (pa_cons (pv 3) (pa_cons (pv 3) pa_nil))) (pa_cons (pe_meth (pv 0) cT msp Gsp hr1 bsp .nil pass0 (pa_cons (pv 2) pa_nil)) pa_nil))) (pg_tup rfl (pgs_cons (pg_name (i := 15) scPl.nd rfl (.inl rfl)) (pgs_cons (pg_name (i := 16) scPl.nd rfl (.inl rfl)) pgs_nil))))
      (pss_one (ps_ret (pe_tup (pa_cons (pe_call GFs hr2 (by rfl) gFs kFs bFs .nil pass0 (pa_cons (pv 0) (pa_cons (pv 4) (pa_cons (pv 5) pa_nil)))) (pa_cons (pe_op op_add (pv 13) (pv 15)) (pa_cons (pe_op op_add (pv 14) (pv 16)) pa_nil)))))))))))))))), ?_⟩
    refine ⟨_, rfl, _, rfl, t, L, Tb, i, rfl, hT, hi, fun H1 p1 a1 ts1 s1 hp1 ha1 hP1 => ?_⟩
    refine ⟨p1, _, rfl, hp1, rfl, _, _, rfl, _, _, rfl, rfl, ?_⟩
    refine ⟨_, rfl, _, rfl, t, L, Tb, j, rfl, hT.same s1, hj, fun H2 p2 a2 ts2 s2 hp2 ha2 hP2 => ?_⟩
    refine ⟨p2, _, rfl, hp2, rfl, _, _, rfl, _, _, rfl, rfl, ?_⟩
    generalize (sumOf Tb i).2 = ps at *
    generalize (sumOf Tb i).1 = n at *
    generalize (sumOf Tb j).2 = qs at *
    generalize (sumOf Tb j).1 = m at *
    have bs : Bg 1 sg := by
      rcases hs with rfl | rfl
      · exact bg_one (Nat.le_refl 1)
      · exact bg_neg (bg_one (Nat.le_refl 1))
    refine ⟨_, rfl, _, rfl, _, rfl, _, _, rfl, rfl, Bg.cmul bs bn2 (by decide) hb (by omega), _, _, rfl, rfl, ?_⟩
    have hn9 : ps.length ≤ 900 := by omega
    have ha1' := sqT_same ha1 s2
    have hP1' := hP1.kt (Same.kt s2)
    have s02 := Same.trans s1 s2
    refine ⟨_, rfl, a1, rfl, ⟨_, ha1'⟩, fun D nD => dc_tup (K := K) (a := a1) (xs := ts1) (fun i H' => Same H2 H' ∧ FdAt H' D (ps.take i))
      ⟨same_upd nD, [], upd_same, rfl, PrsAt.nil⟩ (fun i H' _ h => sqT_same ha1' h.1) ?_ ?_⟩
    · rintro i x H' hi ⟨sm, kvs, hD, hk, hv⟩
      obtain ⟨pr, e1, tq, rfl, g3⟩ := hP1'.at_ hi
      have l1 : i < ts1.length := (List.getElem?_eq_some_iff.mp hi).1
      refine ⟨rfl, ?_⟩
      unfold tYes
      dsimp only
      rw [if_pos rfl]
      have hnew : pr.1 ∉ (ps.take i).map (·.1) := fun hm => by
        have e2 := List.take_append_drop i ps
        rw [List.drop_eq_getElem_cons (List.getElem?_eq_some_iff.mp e1).1, (List.getElem?_eq_some_iff.mp e1).2] at e2
        rw [← e2, List.map_append, List.map_cons] at nd1
        have := (List.nodup_append.mp nd1).2.2 pr.1 hm pr.1 List.mem_cons_self
        exact this rfl
      have lk : kvs.length = i := by
        have := congrArg List.length hk
        rw [List.length_map, List.length_map, List.length_take] at this
        have := hP1'.1
        omega
      refine ⟨_, rfl, tq, _, (0 : Nat), _, rfl, rfl, SqT.of (sm _ _ g3), i0, _, rfl, kvs, Sum.inl (pr.1 : Int), rfl, hD, lt900 (by have := hP1'.1; omega), ?_⟩
      have nd0 : ((ps.take i).map (·.1)).Nodup := ((List.take_sublist i ps).map _).nodup nd1
      have kt : KT H' (upd H' D (.dK (putK kvs (Sum.inl (pr.1 : Int)) (.ref tq)))) := fun b o io e => by
        rw [upd_ne (fun z => by rw [z, hD] at e; cases e; exact io)]
        exact e
      obtain ⟨p1, p2⟩ := fd_put hk hv nd0 (u := pr.1) (c := pr.2) (v := .ref tq) ⟨tq, rfl, sm _ _ g3⟩
      rw [putP_new hnew] at p1 p2
      rw [take_snoc e1]
      exact ⟨fun b o e => by rw [upd_ne (ne_of_none e nD)]; exact sm _ _ e, _, upd_same, p1, p2.kt kt⟩
    rintro H3 ⟨s3, hF⟩
    rw [hP1'.1, List.take_length] at hF
    have s03 := Same.trans s02 s3
    have ha2' := sqT_same ha2 s3
    have hP2' := hP2.kt (Same.kt s3)
    have nD0 : H2 D = none := nD
    refine ⟨_, rfl, a2, rfl, ⟨_, ha2'⟩, for_tup (K := K) (a := a2) (xs := ts2) (fun k σ H' => ∃ v10 v11 v12 : Option V, σ = [some (.ref t), some (.int (i : Int)), some (.int (j : Int)), some (.int sg), some (.int (n + sg * m)), some (.ref a1), some (.int m), some (.ref a2), some (.ref D), some (.bl (cancP false ps sg (qs.take k))), v10, v11, v12, none, none, none, none, none] ∧ Keep [D] H3 H' ∧ KT H3 H' ∧ FdAt H' D (mergeP ps sg (qs.take k)))
      ⟨none, none, none, by rw [List.take_zero]; rfl, Keep.refl _ _, KT.refl _, by rw [List.take_zero]; exact hF⟩ (fun i σ H' _ ⟨_, _, _, _, _, k, _⟩ => sqT_kt ha2' k) ?_ ?_⟩
    · rintro k x σ H4 hx ⟨v10, v11, v12, rfl, k4, kt4, hF4⟩
      obtain ⟨pr, e1, tq, rfl, g3⟩ := hP2'.at_ hx
      obtain ⟨o1, o2, o3⟩ := mergeP_ok (b := b) hs (G := fun u => u < Tb.fs.length) (qs.take k) ps nd1 (((List.take_sublist k qs).map _).nodup nd2) (fun q hq => ⟨(g2 q (List.mem_of_mem_take hq)).2, (g2 q (List.mem_of_mem_take hq)).1⟩) fun p hp => ⟨(g1 p hp).2.mono (by omega), (g1 p hp).1, fun _ => (g1 p hp).2⟩
      have gq := kt4 tq (.tup [.int (pr.1 : Int), .int pr.2]) trivial g3
      have bf := (g2 pr (List.mem_of_getElem? e1)).2
      have bs1 : Bg (1 + b) (sg * pr.2) := bs.mul bf
      have lenl : (mergeP ps sg (qs.take k)).length ≤ 900 := by
        have := nodup_lt o1 fun x hx => by
          obtain ⟨p, hp, rfl⟩ := List.mem_map.mp hx
          exact (o2 p hp).2
        rw [List.length_map] at this
        omega
      obtain ⟨kvs, hD, hlook⟩ := hF4.look pr.1
      refine ⟨tq, _, rfl, SqT.of gq, rfl, _, _, rfl, _, _, rfl, rfl, ?_⟩
      refine ⟨_, rfl, _, rfl, D, _, rfl, DGet.k (k := Sum.inl (pr.1 : Int)) hD, _, rfl, ?_⟩
      obtain ⟨kvs', hD', hk', hv'⟩ := hF4
      rw [hD] at hD'
      cases hD'
      have gb : Bg (b + 1) (getP (mergeP ps sg (qs.take k)) pr.1) := by
        rcases getP_mem (l := mergeP ps sg (qs.take k)) (u := pr.1) with e | e
        · rw [e]
          exact bg_zero _
        · exact (o2 _ e).1
      have lk : kvs.length < sizeLine := by
        have := congrArg List.length hk'
        rw [List.length_map, List.length_map] at this
        exact lt900 (by omega)
      have rest : ∀ (σ0 : List (Option V)) (B : Prop), B → B := fun _ _ b => b
      have fin : ∀ (pn : Addr) (H5 : Hp), H4 pn = none → H5 = upd (upd H4 pn (.tup [.int (pr.1 : Int), .int (getP (mergeP ps sg (qs.take k)) pr.1 + sg * pr.2)])) D (.dK (putK kvs (Sum.inl (pr.1 : Int)) (.ref pn))) → Keep [D] H3 H5 ∧ KT H3 H5 ∧ FdAt H5 D (mergeP ps sg (qs.take (k + 1))) := fun pn H5 npn e5 => by
        have sn := same_upd (o := .tup [.int (pr.1 : Int), .int (getP (mergeP ps sg (qs.take k)) pr.1 + sg * pr.2)]) npn
        have nDp : D ≠ pn := ne_of_none hD npn
        have kt : KT H4 H5 := fun b o io e => by
          rw [e5, upd_ne (fun z => by rw [z, hD] at e; cases e; exact io)]
          exact sn _ _ e
        have gp : H5 pn = some (.tup [.int (pr.1 : Int), .int (getP (mergeP ps sg (qs.take k)) pr.1 + sg * pr.2)]) := by rw [e5, upd_ne (Ne.symm nDp), upd_same]
        obtain ⟨p1, p2⟩ := fd_put hk' (hv'.kt kt) o1 (u := pr.1) (c := getP (mergeP ps sg (qs.take k)) pr.1 + sg * pr.2) (v := .ref pn) ⟨pn, rfl, gp⟩
        rw [take_snoc e1, mergeP_snoc]
        refine ⟨fun b o nb e => ?_, kt4.trans kt, _, by rw [e5, upd_same], p1, p2⟩
        have nb' : b ≠ D := fun z => nb (by rw [z]; exact List.mem_cons_self)
        rw [e5, upd_ne nb']
        exact sn _ _ (k4 b o nb e)
      rcases hlook with ⟨e2, e3, _⟩ | ⟨v, e2, hva, _⟩
      · rw [e2]
        refine iteFd rfl ?_
        have q0 : ∀ (B : Int → Prop), B (getP (mergeP ps sg (qs.take k)) pr.1) → B 0 := fun B h => by rw [e3] at h; exact h
        refine q0 (fun z => tC (V.int z) _ _ _) ?_
        refine ⟨_, rfl, _, rfl, _, rfl, _, rfl, _, _, rfl, rfl, Bg.cmul bs bf (by decide) hb (by omega), _, _, rfl, rfl, two_line, fun pn npn => ?_⟩
        have nDp : D ≠ pn := ne_of_none hD npn
        refine ⟨_, rfl, _, rfl, D, _, rfl, DPut.k (k := Sum.inl (pr.1 : Int)) ((upd_ne nDp).trans hD) lk, ?_⟩
        obtain ⟨f1, f2, f3⟩ := fin pn _ npn rfl
        have ec := cancP_snoc sg pr (qs.take k) ps false
        rw [← take_snoc e1] at ec
        refine ⟨_, rfl, _, rfl, ?_⟩
        cases hc : cancP false ps sg (qs.take k) with
        | true =>
          rw [hc, Bool.true_or] at ec
          refine iteTd rfl ?_
          refine ⟨some (.int (pr.1 : Int)), some (.int pr.2), some (.int (getP (mergeP ps sg (qs.take k)) pr.1)), ?_, f1, f2, f3⟩
          rw [ec]
          rfl
        | false =>
          rw [hc, Bool.false_or] at ec
          refine iteFd rfl ?_
          refine ⟨_, rfl, _, rfl, _, _, rfl, rfl, Bg.cmul gb bs (by omega) (by decide) (by omega), _, rfl, _, _, rfl, rfl, Bg.cmul (gb.mul bs) bf (by omega) hb (by omega), _, _, rfl, rfl, ?_⟩
          refine ⟨some (.int (pr.1 : Int)), some (.int pr.2), some (.int (getP (mergeP ps sg (qs.take k)) pr.1)), ?_, f1, f2, f3⟩
          rw [ec]
          rfl
      · rw [e2]
        obtain ⟨tp, rfl, gtp⟩ := hva
        refine iteTd rfl ?_
        refine ⟨_, rfl, _, rfl, D, _, rfl, dget_at hD e2, tp, _, (1 : Nat), _, rfl, rfl, SqT.of gtp, i1, ?_⟩
        refine ⟨_, rfl, _, rfl, _, rfl, _, rfl, _, _, rfl, rfl, Bg.cmul bs bf (by decide) hb (by omega), _, _, rfl, rfl, two_line, fun pn npn => ?_⟩
        have nDp : D ≠ pn := ne_of_none hD npn
        refine ⟨_, rfl, _, rfl, D, _, rfl, DPut.k (k := Sum.inl (pr.1 : Int)) ((upd_ne nDp).trans hD) lk, ?_⟩
        obtain ⟨f1, f2, f3⟩ := fin pn _ npn rfl
        have ec := cancP_snoc sg pr (qs.take k) ps false
        rw [← take_snoc e1] at ec
        refine ⟨_, rfl, _, rfl, ?_⟩
        cases hc : cancP false ps sg (qs.take k) with
        | true =>
          rw [hc, Bool.true_or] at ec
          refine iteTd rfl ?_
          refine ⟨some (.int (pr.1 : Int)), some (.int pr.2), some (.int (getP (mergeP ps sg (qs.take k)) pr.1)), ?_, f1, f2, f3⟩
          rw [ec]
          rfl
        | false =>
          rw [hc, Bool.false_or] at ec
          refine iteFd rfl ?_
          refine ⟨_, rfl, _, rfl, _, _, rfl, rfl, Bg.cmul gb bs (by omega) (by decide) (by omega), _, rfl, _, _, rfl, rfl, Bg.cmul (gb.mul bs) bf (by omega) hb (by omega), _, _, rfl, rfl, ?_⟩
          refine ⟨some (.int (pr.1 : Int)), some (.int pr.2), some (.int (getP (mergeP ps sg (qs.take k)) pr.1)), ?_, f1, f2, f3⟩
          rw [ec]
          rfl
    · rintro σ H4 ⟨v10, v11, v12, rfl, k4, kt4, hF4⟩
      rw [hP2'.1, List.take_length] at hF4 ⊢
      obtain ⟨o1, o2, o3⟩ := mergeP_ok (b := b) hs (G := fun u => u < Tb.fs.length) qs ps nd1 nd2 (fun q hq => ⟨(g2 q hq).2, (g2 q hq).1⟩) fun p hp => ⟨(g1 p hp).2.mono (by omega), (g1 p hp).1, fun _ => (g1 p hp).2⟩
      obtain ⟨kvs, hD, hk, hv⟩ := hF4
      have s04 : Same H H4 := fun b o e => by
        have e3 := s03 _ _ e
        have e2 := s02 _ _ e
        refine k4 b o (fun z => ?_) e3
        rw [List.mem_singleton.mp z, nD0] at e2
        cases e2
      generalize hl : mergeP ps sg qs = l at *
      have lenl : l.length ≤ 400 := by
        have := nodup_lt o1 fun x hx => by
          obtain ⟨p, hp, rfl⟩ := List.mem_map.mp hx
          exact (o2 p hp).2
        rw [List.length_map] at this
        omega
      refine ⟨_, rfl, .inr (.inr (.inl ⟨rfl, .inl ⟨_, hD⟩⟩)), D, kvs, rfl, rfl, hD, fun pv npv => ?_⟩
      have sv := same_upd (o := valsO pv D) npv
      refine ⟨pv, D, kvs, kOf H4, rfl, upd_same, sv _ _ hD, fun x hx => ?_, fun ys py srt stb npy => ?_⟩
      · obtain ⟨tx, ex, gx⟩ := prs_mem hv hx
        exact ⟨tx, ex, sv _ _ gx⟩
      · have hys := sorted_vals hv o1 srt stb
        have sy := same_upd (o := .lst ys) npy
        refine ⟨py, _, rfl, .inl ⟨SqL.of upd_same, fun pt npt => ?_⟩⟩
        have st := same_upd (o := .tup ys) npt
        have s45 : Same H4 (upd (upd (upd H4 pv (valsO pv D)) py (.lst ys)) pt (.tup ys)) := Same.trans sv (Same.trans sy st)
        have hpt : SqT K (upd (upd (upd H4 pv (valsO pv D)) py (.lst ys)) pt (.tup ys)) pt ys := SqT.of upd_same
        have hys5 := hys.kt (Same.kt s45)
        generalize upd (upd (upd H4 pv (valsO pv D)) py (.lst ys)) pt (.tup ys) = H5 at *
        have s05 := Same.trans s04 s45
        have mem : ∀ p ∈ sortP l, p.1 < Tb.fs.length ∧ Bg (b + 1) p.2 := fun p hp => let h := o2 p ((sortP_perm l).mem_iff.mp hp); ⟨h.2, h.1⟩
        have lens : (sortP l).length ≤ 900 := by rw [(sortP_perm l).length_eq]; omega
        refine ⟨_, rfl, ?_⟩
        cases hc : cancP false ps sg qs with
        | true =>
          rw [hc, if_pos rfl] at q
          refine ⟨_, rfl, iteTd rfl ?_⟩
          refine ⟨_, rfl, _, rfl, _, rfl, t, pt, L, Tb, _, ys, _, rfl, hT.same s05, hpt, hys5, lens, fun p hp => ⟨⟨(mem p hp).1, W.len⟩, (mem p hp).2.mono (by omega), (W.spb (mem p hp).1).1.mono (by omega), (W.spb (mem p hp).1).2.mono (by omega)⟩, fun H6 p6 s6 h6 => q _ p6 (Same.trans s05 s6) h6⟩
        | false =>
          rw [hc, if_neg (by exact Bool.false_ne_true)] at q
          refine ⟨_, rfl, iteFd rfl ?_⟩
          refine ⟨_, rfl, t, dx, _, rfl, s05 _ _ h1, rfl, _, rfl, t, L, Tb, i, rfl, hT.same s05, by rw [W.len]; exact hi, fun pi hpi => ?_⟩
          refine ⟨pi, _, rfl, hpi, rfl, _, _, rfl, _, _, rfl, rfl, ?_⟩
          refine ⟨_, rfl, _, rfl, two_line, fun pz npz => ?_⟩
          have s6 := same_upd (o := .tup [.int sg, .int sg]) npz
          have hz : SqT K (upd H5 pz (.tup [.int sg, .int sg])) pz [.int sg, .int sg] := SqT.of upd_same
          generalize upd H5 pz (.tup [.int sg, .int sg]) = H6 at *
          have s06 := Same.trans s05 s6
          refine ⟨_, rfl, t, dx, _, rfl, s06 _ _ h1, rfl, _, rfl, t, L, Tb, j, rfl, hT.same s06, by rw [W.len]; exact hj, fun pj hpj => ?_⟩
          refine ⟨pz, pj, _, _, _, _, rfl, hz, hpj, bs.mono (by decide), bs.mono (by decide), (W.spb hj).1.mono (by omega), (W.spb hj).2.mono (by omega), fun H7 pc s7 hc7 => ?_⟩
          refine ⟨pc, _, rfl, hc7, rfl, _, _, rfl, _, _, rfl, rfl, ?_⟩
          have s57 := Same.trans s6 s7
          have s07 := Same.trans s05 s57
          refine ⟨_, rfl, _, rfl, _, rfl, t, pt, L, Tb, _, ys, _, rfl, hT.same s07, sqT_same hpt s57, hys5.kt (Same.kt s57), fun p hp => (mem p hp).1, fun H8 pf s8 hf => ?_⟩
          refine ⟨_, rfl, _, rfl, _, _, rfl, rfl, _, rfl, _, rfl, _, _, rfl, rfl, by show 3 ≤ sizeLine; decide, fun p9 np9 => ?_⟩
          have s9 := same_upd (o := .tup [.ref pf, .int (Tb.lo i + cLo Tb j sg), .int (Tb.hi i + cHi Tb j sg)]) np9
          exact q _ p9 (Same.trans s07 (Same.trans s8 s9)) ⟨pf, SqT.of upd_same, hf.kt (Same.kt s9)⟩
end

section
variable {P : Program} {w : World} {K : PySem.W.Frag} {mg : Str → Option Value} {base : Heap} {aT aM : Addr}
structure MkPre (P : Program) (w : World) (K : PySem.W.Frag) (aT : Addr) (H : Hp) (t pi pc : Addr) (L : Own) (T : Tb) (k : Bk) (ids : List Nat) (b : Nat) : Prop where
  tab : TabAt P w K aT H t L T
  sqi : SqT K H pi ((asInts ids).map V.int)
  sqc : SqT K H pc (k.is.map V.int)
  wf : Wf b T
  b2 : 200 ≤ b
  b5 : b ≤ 4500
  l60 : T.fs.length ≤ 60
  len : ids.length = k.ar
  kc : KC k
  inn : ∀ i ∈ ids, i < T.fs.length ∧ Small T i
def spMF (P : Program) (w : World) (K : PySem.W.Frag) (aT : Addr) (p : Bk → Prop) : Sp := fun vs H Q _ => ∃ (t pi pc : Addr) (L : Own) (T : Tb) (k : Bk) (ids : List Nat) (b : Nat), vs = [.ref t, .str k.nm, .ref pi, .ref pc] ∧ p k ∧ MkPre P w K aT H t pi pc L T k ids b ∧
  ∀ H' x, Keep L.l H H' → TabAt P w K aT H' t L (mkForm T k ids).1 → Trip K H' x (mkForm T k ids).2 → Q (.ref x) H'
theorem trq {H : Hp} {t : Addr} {L : Own} {T : Tb} {R : Fm × Int × Int} {Q : VK} (hT : TabAt P w K aT H t L T) (q : ∀ H' x, Keep L.l H H' → TabAt P w K aT H' t L T → Trip K H' x R → Q (.ref x) H') : TrQ K R Q H := fun H' x s h => q H' x (Same.keeps s) (hT.same s) h
theorem ids2 {ids : List Nat} (h : ids.length = 2) : ∃ i j, ids = [i, j] := by
  match ids, h with
  | [i, j], _ => exact ⟨i, j, rfl⟩
theorem ids1 {ids : List Nat} (h : ids.length = 1) : ∃ i, ids = [i] := by
  match ids, h with
  | [i], _ => exact ⟨i, rfl⟩
theorem ids3 {ids : List Nat} (h : ids.length = 3) : ∃ c i j, ids = [c, i, j] := by
  match ids, h with
  | [c, i, j], _ => exact ⟨c, i, j, rfl⟩
/-- a tuple (form, low, high) where the form is a new tuple (kind, ids, info) -/
theorem trip_new {H1 H2 : Hp} {pf p3 a c : Addr} {k : Bk} {ids : List Nat} {lo hi : Int} (s : Same H1 H2) (e2 : H2 pf = some (.tup [.str k.nm, .ref a, .ref c])) (n3 : H2 p3 = none)
    (ha : SqT K H1 a ((asInts ids).map V.int)) (hx : isEx k → TupP H1 a ((asInts ids).map V.int)) (hc : SqT K H1 c (k.is.map V.int)) : Same H1 (upd H2 p3 (.tup [.ref pf, .int lo, .int hi])) ∧ Trip K (upd H2 p3 (.tup [.ref pf, .int lo, .int hi])) p3 (.op k ids, lo, hi) := by
  have s3 : Same H2 (upd H2 p3 (.tup [.ref pf, .int lo, .int hi])) := same_upd n3
  have s := Same.trans s s3
  exact ⟨s, pf, SqT.of upd_same, a, c, SqT.of (s3 _ _ e2), sqT_same ha s, fun z => (hx z).kt (Same.kt s), sqT_same hc s⟩
theorem trq1 {H H1 : Hp} {t : Addr} {L : Own} {T : Tb} {R : Fm × Int × Int} {Q : VK} (s1 : Same H H1) (hT : TabAt P w K aT H t L T) (q : ∀ H' x, Keep L.l H H' → TabAt P w K aT H' t L T → Trip K H' x R → Q (.ref x) H') : TrQ K R Q H1 := fun H' x s h => q H' x (Same.keeps (Same.trans s1 s)) (hT.same (Same.trans s1 s)) h
theorem nex {k : Bk} (h1 : k ≠ .max) (h2 : k ≠ .min) {B : Prop} : isEx k → B := fun z => absurd z fun z => z.elim h1 h2
theorem asI2 (i j : Nat) : (asInts [i, j]).map V.int = [V.int (i : Int), V.int (j : Int)] := rfl
/-- sorted((a, b)) -/
theorem sort2_of {i j : Nat} {ys : List Int} (h : ys.Perm (asInts [i, j])) (s : ys.Pairwise (· ≤ ·)) : ys = asInts (sort2 i j) := by
  obtain ⟨ns, rfl, hp⟩ := perm_nat h
  have st : ns.Pairwise (· ≤ ·) := by
    unfold asInts at s
    rw [List.pairwise_map] at s
    exact s.imp fun h => by omega
  have hl : ns.length = 2 := hp.length_eq
  obtain ⟨x, y, rfl⟩ := ids2 hl
  have hxy : x ≤ y := by
    rw [List.pairwise_cons] at st
    exact st.1 y List.mem_cons_self
  have m1 : x ∈ [i, j] := hp.mem_iff.mp (by simp)
  have m2 : y ∈ [i, j] := hp.mem_iff.mp (by simp)
  have m3 : i ∈ [x, y] := hp.mem_iff.mpr (by simp)
  have m4 : j ∈ [x, y] := hp.mem_iff.mpr (by simp)
  simp only [List.mem_cons, List.not_mem_nil, or_false] at m1 m2 m3 m4
  congr 1
  unfold sort2
  split
  · rename_i hlt
    have : x = j := by omega
    have : y = i := by omega
    subst x y
    rfl
  · rename_i hlt
    have : x = i := by omega
    have : y = j := by omega
    subst x y
    rfl
abbrev nAd : List Str := ["table", "kind", "ids", "info"]
theorem scAd : FnScope nAd ["table", "kind", "ids", "info"] (defScope s_add_form) := ⟨rfl, rfl, rfl, by decide +kernel, rfl, by decide +kernel, by decide +kernel⟩
abbrev nSb : List Str := ["table", "kind", "ids", "info"]
theorem scSb : FnScope nSb ["table", "kind", "ids", "info"] (defScope s_sub_form) := ⟨rfl, rfl, rfl, by decide +kernel, rfl, by decide +kernel, by decide +kernel⟩
abbrev nNg : List Str := ["table", "kind", "ids", "info"]
theorem scNg : FnScope nNg ["table", "kind", "ids", "info"] (defScope s_neg_form) := ⟨rfl, rfl, rfl, by decide +kernel, rfl, by decide +kernel, by decide +kernel⟩
abbrev nLe : List Str := ["table", "kind", "ids", "info", "low", "high", "least", "most"]
theorem scLe : FnScope nLe ["table", "kind", "ids", "info"] (defScope s_less_form) := ⟨rfl, rfl, rfl, by decide +kernel, rfl, by decide +kernel, by decide +kernel⟩
abbrev nEq : List Str := ["table", "kind", "ids", "info", "low", "high", "least", "most"]
theorem scEq : FnScope nEq ["table", "kind", "ids", "info"] (defScope s_equal_form) := ⟨rfl, rfl, rfl, by decide +kernel, rfl, by decide +kernel, by decide +kernel⟩
abbrev nCl : List Str := ["table", "kind", "ids", "info", "low", "high"]
theorem scCl : FnScope nCl ["table", "kind", "ids", "info"] (defScope s_clamp_form) := ⟨rfl, rfl, rfl, by decide +kernel, rfl, by decide +kernel, by decide +kernel⟩
abbrev nSh : List Str := ["table", "kind", "ids", "info", "low", "high"]
theorem scSh : FnScope nSh ["table", "kind", "ids", "info"] (defScope s_shift_form) := ⟨rfl, rfl, rfl, by decide +kernel, rfl, by decide +kernel, by decide +kernel⟩
abbrev nWh : List Str := ["table", "kind", "ids", "info", "c", "a", "b", "low", "high", "least", "most"]
theorem scWh : FnScope nWh ["table", "kind", "ids", "info"] (defScope s_where_form) := ⟨rfl, rfl, rfl, by decide +kernel, rfl, by decide +kernel, by decide +kernel⟩
theorem ok_mad {f : Addr} {fd : FuncData} (F : Fun K "_add_form" "_add_form" s_add_form f fd) (M : Tm2 P w K mg base aT) (cPl : Calls P w K mg base CX0 4 "_plus" ["table", "one", "other", "sign"] (spPlus P w K aT)) : FnOk P w K mg base CX0 5 f fd ["table", "kind", "ids", "info"] (spMF P w K aT (fun k => k = .add)) := by
  obtain ⟨fPl, dPl, GPl, kPl, bPl, gPl⟩ := cPl.ex
  have cT := M.c.c
  refine F.ok scAd (fun vs H Q E h => ?_) (fun cdv A outer s H vs Q E hr4 h => ?_)
  · obtain ⟨_, _, _, _, _, _, _, _, rfl, _⟩ := h
    rfl
  · obtain ⟨t, pi, pc, L, Tb, k, ids, b, rfl, hk, ⟨hT, hpi, hpc, W, hb, hb5, h60, hl, kc, hin⟩, q⟩ := h
    obtain ⟨⟨dx, h1⟩, h2⟩ := id hT
    have hr1 : Room 1 _ := hr4.mono (by decide)
    have hr2 : Room 2 _ := hr4.mono (by decide)
    have hr3 : Room 3 _ := hr4.mono (by decide)
    subst hk
    obtain ⟨i, j, rfl⟩ := ids2 (hl.trans (by rfl))
    have hi := hin i (by simp)
    have hj := hin j (by simp)
    exact ⟨_, (pss_one (ps_ret (pe_call GPl hr4 (by rfl) gPl kPl bPl .nil pass0 (pa_cons (pv 0) (pa_cons (pe_ix ix_tup (pv 2) pe_int (fun _ _ => rfl)) (pa_cons (pe_ix ix_tup (pv 2) pe_int (fun _ _ => rfl)) (pa_cons pe_int pa_nil))))))), _, rfl, _, rfl, pi, _, (0 : Nat), _, rfl, rfl, hpi, i0, _, rfl, pi, _, (1 : Nat), _, rfl, rfl, hpi, i1, t, L, Tb, i, j, b, 1, rfl, hT, W, by omega, by omega, by omega, hi.1, hj.1, .inl rfl, trq hT q⟩
theorem ok_msb {f : Addr} {fd : FuncData} (F : Fun K "_sub_form" "_sub_form" s_sub_form f fd) (M : Tm2 P w K mg base aT) (cPl : Calls P w K mg base CX0 4 "_plus" ["table", "one", "other", "sign"] (spPlus P w K aT)) : FnOk P w K mg base CX0 5 f fd ["table", "kind", "ids", "info"] (spMF P w K aT (fun k => k = .sub)) := by
  obtain ⟨fPl, dPl, GPl, kPl, bPl, gPl⟩ := cPl.ex
  have cT := M.c.c
  refine F.ok scSb (fun vs H Q E h => ?_) (fun cdv A outer s H vs Q E hr4 h => ?_)
  · obtain ⟨_, _, _, _, _, _, _, _, rfl, _⟩ := h
    rfl
  · obtain ⟨t, pi, pc, L, Tb, k, ids, b, rfl, hk, ⟨hT, hpi, hpc, W, hb, hb5, h60, hl, kc, hin⟩, q⟩ := h
    obtain ⟨⟨dx, h1⟩, h2⟩ := id hT
    have hr1 : Room 1 _ := hr4.mono (by decide)
    have hr2 : Room 2 _ := hr4.mono (by decide)
    have hr3 : Room 3 _ := hr4.mono (by decide)
    subst hk
    obtain ⟨i, j, rfl⟩ := ids2 (hl.trans (by rfl))
    have hi := hin i (by simp)
    have hj := hin j (by simp)
    exact ⟨_, (pss_one (ps_ret (pe_call GPl hr4 (by rfl) gPl kPl bPl .nil pass0 (pa_cons (pv 0) (pa_cons (pe_ix ix_tup (pv 2) pe_int (fun _ _ => rfl)) (pa_cons (pe_ix ix_tup (pv 2) pe_int (fun _ _ => rfl)) (pa_cons (pe_un un_neg pe_int) pa_nil))))))), _, rfl, _, rfl, pi, _, (0 : Nat), _, rfl, rfl, hpi, i0, _, rfl, pi, _, (1 : Nat), _, rfl, rfl, hpi, i1, _, rfl, t, L, Tb, i, j, b, -1, rfl, hT, W, by omega, by omega, by omega, hi.1, hj.1, .inr rfl, trq hT q⟩
theorem ok_mng {f : Addr} {fd : FuncData} (F : Fun K "_neg_form" "_neg_form" s_neg_form f fd) (M : Tm2 P w K mg base aT) (cTi : Calls P w K mg base CX0 3 "_times" ["table", "term", "by"] (spTimes P w K aT)) : FnOk P w K mg base CX0 4 f fd ["table", "kind", "ids", "info"] (spMF P w K aT (fun k => k = .neg)) := by
  obtain ⟨fTi, dTi, GTi, kTi, bTi, gTi⟩ := cTi.ex
  have cT := M.c.c
  refine F.ok scNg (fun vs H Q E h => ?_) (fun cdv A outer s H vs Q E hr3 h => ?_)
  · obtain ⟨_, _, _, _, _, _, _, _, rfl, _⟩ := h
    rfl
  · obtain ⟨t, pi, pc, L, Tb, k, ids, b, rfl, hk, ⟨hT, hpi, hpc, W, hb, hb5, h60, hl, kc, hin⟩, q⟩ := h
    obtain ⟨⟨dx, h1⟩, h2⟩ := id hT
    have hr1 : Room 1 _ := hr3.mono (by decide)
    have hr2 : Room 2 _ := hr3.mono (by decide)
    subst hk
    obtain ⟨i, rfl⟩ := ids1 (hl.trans (by rfl))
    have hi := hin i (by simp)
    obtain ⟨nd1, bn1, g1, l1⟩ := sumOf_str W (by omega) hi.1
    exact ⟨_, (pss_one (ps_ret (pe_call GTi hr3 (by rfl) gTi kTi bTi .nil pass0 (pa_cons (pv 0) (pa_cons (pe_ix ix_tup (pv 2) pe_int (fun _ _ => rfl)) (pa_cons (pe_un un_neg pe_int) pa_nil)))))), _, rfl, _, rfl, pi, _, (0 : Nat), _, rfl, rfl, hpi, i0, _, rfl, t, L, Tb, i, -1, rfl, hT, ⟨hi.1, W.len⟩, bg_neg (bg_one (by decide)), ⟨(W.spb hi.1).1.mono (by omega), (W.spb hi.1).2.mono (by omega)⟩, bn1.mono (by omega), by omega, fun p hp => ⟨(g1 p hp).2.mono (by omega), (g1 p hp).1⟩, trq hT q⟩
theorem ok_mle {f : Addr} {fd : FuncData} (F : Fun K "_less_form" "_less_form" s_less_form f fd) (M : Tm2 P w K mg base aT) (cSe : Calls P w K mg base CX0 1 "_settled" ["n"] (spSettled K)) : FnOk P w K mg base CX0 2 f fd ["table", "kind", "ids", "info"] (spMF P w K aT (fun k => k = .less)) := by
  obtain ⟨fSe, dSe, GSe, kSe, bSe, gSe⟩ := cSe.ex
  obtain ⟨fsp, dsp, msp, Gsp, bsp⟩ := M.sp
  have cT := M.c.c
  refine F.ok scLe (fun vs H Q E h => ?_) (fun cdv A outer s H vs Q E hr1 h => ?_)
  · obtain ⟨_, _, _, _, _, _, _, _, rfl, _⟩ := h
    rfl
  · obtain ⟨t, pi, pc, L, Tb, k, ids, b, rfl, hk, ⟨hT, hpi, hpc, W, hb, hb5, h60, hl, kc, hin⟩, q⟩ := h
    obtain ⟨⟨dx, h1⟩, h2⟩ := id hT
    subst hk
    obtain ⟨i, j, rfl⟩ := ids2 (hl.trans (by rfl))
    have hi := hin i (by simp)
    have hj := hin j (by simp)
    refine ⟨_, (pss_cons (ps_asg (pe_tup (pa_cons (pe_meth (pv 0) cT msp Gsp hr1 bsp .nil pass0 (pa_cons (pe_ix ix_tup (pv 2) pe_int (fun _ _ => rfl)) pa_nil)) (pa_cons (pe_meth (pv 0) cT msp Gsp hr1 bsp .nil pass0 (pa_cons (pe_ix ix_tup (pv 2) pe_int (fun _ _ => rfl)) pa_nil)) pa_nil))) (pg_tup rfl (pgs_cons (pg_tup rfl (pgs_cons (pg_name (i := 4) scLe.nd rfl (.inl rfl)) (pgs_cons (pg_name (i := 5) scLe.nd rfl (.inl rfl)) pgs_nil))) (pgs_cons (pg_tup rfl (pgs_cons (pg_name (i := 6) scLe.nd rfl (.inl rfl)) (pgs_cons (pg_name (i := 7) scLe.nd rfl (.inl rfl)) pgs_nil))) pgs_nil))))
      (pss_cons (ps_if (pt_cmpR op_lt (pv 5) (pv 6) (nomark _)) (pss_one (ps_ret (pe_call GSe hr1 (by rfl) gSe kSe bSe .nil pass0 (pa_cons pe_int pa_nil)))) pss_nil)
      (pss_cons (ps_if (PW.pt (pw_or (pt_cmpR op_ge (pv 4) (pv 7) (nomark _)) (pw_or1 (pt_cmpR op_eq (pe_ix ix_tup (pv 2) pe_int (fun _ _ => rfl)) (pe_ix ix_tup (pv 2) pe_int (fun _ _ => rfl)) (nomark _))))) (pss_one (ps_ret (pe_call GSe hr1 (by rfl) gSe kSe bSe .nil pass0 (pa_cons pe_int pa_nil)))) pss_nil)
      (pss_one (ps_ret (pe_tup (pa_cons (pe_tup (pa_cons (pv 1) (pa_cons (pv 2) (pa_cons (pe_tup pa_nil) pa_nil)))) (pa_cons pe_int (pa_cons pe_int pa_nil))))))))), ?_⟩
    refine ⟨_, rfl, t, dx, _, rfl, h1, rfl, _, rfl, pi, _, (0 : Nat), _, rfl, rfl, hpi, i0, t, L, Tb, i, rfl, hT, by rw [W.len]; exact hi.1, fun q1 hq1 => ?_⟩
    refine ⟨_, rfl, t, dx, _, rfl, h1, rfl, _, rfl, pi, _, (1 : Nat), _, rfl, rfl, hpi, i1, t, L, Tb, j, rfl, hT, by rw [W.len]; exact hj.1, fun q2 hq2 => ?_⟩
    refine ⟨two_line, fun pp npp => ?_⟩
    have s1 := same_upd (o := .tup [.ref q1, .ref q2]) npp
    refine ⟨pp, _, rfl, SqT.of upd_same, rfl, _, _, rfl, q1, _, rfl, sqT_same hq1 s1, rfl, _, _, rfl, _, _, rfl, rfl, _, _, rfl, q2, _, rfl, sqT_same hq2 s1, rfl, _, _, rfl, _, _, rfl, rfl, rfl, ?_⟩
    have hpi1 := sqT_same hpi s1
    have hpc1 := sqT_same hpc s1
    have hT1 := hT.same s1
    generalize upd H pp (.tup [.ref q1, .ref q2]) = H1 at *
    have q : ∀ H' x, Keep L.l H H' → TabAt P w K aT H' t L Tb → Trip K H' x (lessF Tb i j) → Q (.ref x) H' := q
    unfold lessF at q
    refine ⟨_, rfl, _, rfl, _, _, rfl, rfl, _, rfl, ?_⟩
    by_cases e1 : Tb.hi i < Tb.lo j
    · rw [if_pos e1] at q
      exact iteTd (decide_eq_true e1) ⟨1, rfl, trq1 s1 hT q⟩
    · rw [if_neg e1] at q
      refine iteFd (decide_eq_false e1) ?_
      refine ⟨_, rfl, _, rfl, _, _, rfl, rfl, _, rfl, ?_⟩
      by_cases e2 : Tb.hi j ≤ Tb.lo i
      · rw [if_pos (.inl e2)] at q
        exact iteTd (decide_eq_true e2) (iteTd rfl ⟨0, rfl, trq1 s1 hT q⟩)
      · refine iteFd (decide_eq_false e2) ?_
        refine ⟨_, rfl, pi, _, (0 : Nat), _, rfl, rfl, hpi1, i0, _, rfl, pi, _, (1 : Nat), _, rfl, rfl, hpi1, i1, rfl, _, rfl, ?_⟩
        by_cases e3 : i = j
        · rw [if_pos (.inr e3)] at q
          exact iteTd (decide_eq_true (by rw [e3])) ⟨0, rfl, trq1 s1 hT q⟩
        · rw [if_neg (fun z => z.elim e2 e3)] at q
          refine iteFd (decide_eq_false fun z => e3 (Int.ofNat_inj.mp (V.int.inj z))) ?_
          refine ⟨_, rfl, _, rfl, by show 0 ≤ sizeLine; decide, fun pz npz => ⟨by show 3 ≤ sizeLine; decide, fun pf npf => ⟨by show 3 ≤ sizeLine; decide, fun p3 np3 => ?_⟩⟩⟩
          have s2 := same_upd (o := .tup []) npz
          obtain ⟨s3, tr⟩ := trip_new (k := .less) (ids := [i, j]) (same_upd npf) upd_same np3 (sqT_same hpi1 s2) (nex (by decide) (by decide)) (SqT.of upd_same)
          exact q _ p3 (Same.keeps (Same.trans s1 (Same.trans s2 s3))) (hT1.same (Same.trans s2 s3)) tr
theorem ok_meq {f : Addr} {fd : FuncData} (F : Fun K "_equal_form" "_equal_form" s_equal_form f fd) (M : Tm2 P w K mg base aT) (T : TxtM mg) (cSe : Calls P w K mg base CX0 1 "_settled" ["n"] (spSettled K)) : FnOk P w K mg base CX0 2 f fd ["table", "kind", "ids", "info"] (spMF P w K aT (fun k => k = .equal)) := by
  obtain ⟨fSe, dSe, GSe, kSe, bSe, gSe⟩ := cSe.ex
  obtain ⟨fsp, dsp, msp, Gsp, bsp⟩ := M.sp
  have cT := M.c.c
  refine F.ok scEq (fun vs H Q E h => ?_) (fun cdv A outer s H vs Q E hr1 h => ?_)
  · obtain ⟨_, _, _, _, _, _, _, _, rfl, _⟩ := h
    rfl
  · obtain ⟨t, pi, pc, L, Tb, k, ids, b, rfl, hk, ⟨hT, hpi, hpc, W, hb, hb5, h60, hl, kc, hin⟩, q⟩ := h
    obtain ⟨⟨dx, h1⟩, h2⟩ := id hT
    subst hk
    obtain ⟨i, j, rfl⟩ := ids2 (hl.trans (by rfl))
    have hi := hin i (by simp)
    have hj := hin j (by simp)
    refine ⟨_, (pss_cons (ps_asg (pe_tup (pa_cons (pe_meth (pv 0) cT msp Gsp hr1 bsp .nil pass0 (pa_cons (pe_ix ix_tup (pv 2) pe_int (fun _ _ => rfl)) pa_nil)) (pa_cons (pe_meth (pv 0) cT msp Gsp hr1 bsp .nil pass0 (pa_cons (pe_ix ix_tup (pv 2) pe_int (fun _ _ => rfl)) pa_nil)) pa_nil))) (pg_tup rfl (pgs_cons (pg_tup rfl (pgs_cons (pg_name (i := 4) scEq.nd rfl (.inl rfl)) (pgs_cons (pg_name (i := 5) scEq.nd rfl (.inl rfl)) pgs_nil))) (pgs_cons (pg_tup rfl (pgs_cons (pg_name (i := 6) scEq.nd rfl (.inl rfl)) (pgs_cons (pg_name (i := 7) scEq.nd rfl (.inl rfl)) pgs_nil))) pgs_nil))))
      (pss_cons (ps_if (pt_cmpR op_eq (pe_ix ix_tup (pv 2) pe_int (fun _ _ => rfl)) (pe_ix ix_tup (pv 2) pe_int (fun _ _ => rfl)) (nomark _)) (pss_one (ps_ret (pe_call GSe hr1 (by rfl) gSe kSe bSe .nil pass0 (pa_cons pe_int pa_nil)))) pss_nil)
      (pss_cons (ps_if (PW.pt (pw_or (pt_cmpR op_lt (pv 5) (pv 6) (nomark _)) (pw_or1 (pt_cmpR op_lt (pv 7) (pv 4) (nomark _))))) (pss_one (ps_ret (pe_call GSe hr1 (by rfl) gSe kSe bSe .nil pass0 (pa_cons pe_int pa_nil)))) pss_nil)
      (pss_one (ps_ret (pe_tup (pa_cons (pe_tup (pa_cons (pv 1) (pa_cons (pe_callTy call_tuple_of (by rfl) T.tuple (by decide +kernel) (pa_cons (pe_callB cr_sortTI (by rfl) T.sorted (by decide +kernel) (pa_cons (pv 2) pa_nil)) pa_nil)) (pa_cons (pe_tup pa_nil) pa_nil)))) (pa_cons pe_int (pa_cons pe_int pa_nil))))))))), ?_⟩
    refine ⟨_, rfl, t, dx, _, rfl, h1, rfl, _, rfl, pi, _, (0 : Nat), _, rfl, rfl, hpi, i0, t, L, Tb, i, rfl, hT, by rw [W.len]; exact hi.1, fun q1 hq1 => ?_⟩
    refine ⟨_, rfl, t, dx, _, rfl, h1, rfl, _, rfl, pi, _, (1 : Nat), _, rfl, rfl, hpi, i1, t, L, Tb, j, rfl, hT, by rw [W.len]; exact hj.1, fun q2 hq2 => ?_⟩
    refine ⟨two_line, fun pp npp => ?_⟩
    have s1 := same_upd (o := .tup [.ref q1, .ref q2]) npp
    refine ⟨pp, _, rfl, SqT.of upd_same, rfl, _, _, rfl, q1, _, rfl, sqT_same hq1 s1, rfl, _, _, rfl, _, _, rfl, rfl, _, _, rfl, q2, _, rfl, sqT_same hq2 s1, rfl, _, _, rfl, _, _, rfl, rfl, rfl, ?_⟩
    have hpi1 := sqT_same hpi s1
    have hpc1 := sqT_same hpc s1
    have hT1 := hT.same s1
    generalize upd H pp (.tup [.ref q1, .ref q2]) = H1 at *
    have q : ∀ H' x, Keep L.l H H' → TabAt P w K aT H' t L Tb → Trip K H' x (equalF Tb i j) → Q (.ref x) H' := q
    unfold equalF at q
    refine ⟨_, rfl, pi, _, (0 : Nat), _, rfl, rfl, hpi1, i0, _, rfl, pi, _, (1 : Nat), _, rfl, rfl, hpi1, i1, rfl, _, rfl, ?_⟩
    by_cases e3 : i = j
    · rw [if_pos e3] at q
      exact iteTd (decide_eq_true (by rw [e3])) ⟨1, rfl, trq1 s1 hT q⟩
    · rw [if_neg e3] at q
      refine iteFd (decide_eq_false fun z => e3 (Int.ofNat_inj.mp (V.int.inj z))) ?_
      refine ⟨_, rfl, _, rfl, _, _, rfl, rfl, _, rfl, ?_⟩
      by_cases e1 : Tb.hi i < Tb.lo j
      · rw [if_pos (.inl e1)] at q
        exact iteTd (decide_eq_true e1) (iteTd rfl ⟨0, rfl, trq1 s1 hT q⟩)
      · refine iteFd (decide_eq_false e1) ?_
        refine ⟨_, rfl, _, rfl, _, _, rfl, rfl, _, rfl, ?_⟩
        by_cases e2 : Tb.hi j < Tb.lo i
        · rw [if_pos (.inr e2)] at q
          exact iteTd (decide_eq_true e2) ⟨0, rfl, trq1 s1 hT q⟩
        · rw [if_neg (fun z => z.elim e1 e2)] at q
          refine iteFd (decide_eq_false e2) ?_
          refine ⟨_, rfl, _, rfl, pi, asInts [i, j], rfl, hpi1, by show 2 < 64; decide, fun ys py perm srt npy => ⟨py, _, rfl, .inl ⟨SqL.of upd_same, fun pt npt => ?_⟩⟩⟩
          have ey := sort2_of perm srt
          have sA := same_upd (o := .lst (ys.map V.int)) npy
          have sB := same_upd (o := .tup (ys.map V.int)) npt
          have hpt : SqT K (upd (upd H1 py (.lst (ys.map V.int))) pt (.tup (ys.map V.int))) pt ((asInts (sort2 i j)).map V.int) := by rw [← ey]; exact SqT.of upd_same
          have sAB := Same.trans sA sB
          generalize upd (upd H1 py (.lst (ys.map V.int))) pt (.tup (ys.map V.int)) = H2 at *
          refine ⟨by show 0 ≤ sizeLine; decide, fun pz npz => ⟨by show 3 ≤ sizeLine; decide, fun pf npf => ⟨by show 3 ≤ sizeLine; decide, fun p3 np3 => ?_⟩⟩⟩
          have s2 := same_upd (o := .tup []) npz
          obtain ⟨s3, tr⟩ := trip_new (k := .equal) (ids := sort2 i j) (same_upd npf) upd_same np3 (sqT_same hpt s2) (nex (by decide) (by decide)) (SqT.of upd_same)
          exact q _ p3 (Same.keeps (Same.trans s1 (Same.trans sAB (Same.trans s2 s3)))) (hT1.same (Same.trans sAB (Same.trans s2 s3))) tr
theorem ok_mcl {f : Addr} {fd : FuncData} (F : Fun K "_clamp_form" "_clamp_form" s_clamp_form f fd) (M : Tm2 P w K mg base aT) (cKn : Calls P w K mg base CX0 2 "_known" ["table", "term"] (spKnown P w K aT)) (cLm : Calls P w K mg base CX0 1 "limit" ["n", "low", "high"] spLimit) : FnOk P w K mg base CX0 3 f fd ["table", "kind", "ids", "info"] (spMF P w K aT (fun k => ∃ l h, k = .clamp l h)) := by
  obtain ⟨fKn, dKn, GKn, kKn, bKn, gKn⟩ := cKn.ex
  obtain ⟨fLm, dLm, GLm, kLm, bLm, gLm⟩ := cLm.ex
  obtain ⟨fsp, dsp, msp, Gsp, bsp⟩ := M.sp
  have cT := M.c.c
  refine F.ok scCl (fun vs H Q E h => ?_) (fun cdv A outer s H vs Q E hr2 h => ?_)
  · obtain ⟨_, _, _, _, _, _, _, _, rfl, _⟩ := h
    rfl
  · obtain ⟨t, pi, pc, L, Tb, k, ids, b, rfl, hk, ⟨hT, hpi, hpc, W, hb, hb5, h60, hl, kc, hin⟩, q⟩ := h
    obtain ⟨⟨dx, h1⟩, h2⟩ := id hT
    have hr1 : Room 1 _ := hr2.mono (by decide)
    obtain ⟨l, u, rfl⟩ := hk
    obtain ⟨i, rfl⟩ := ids1 (hl.trans (by rfl))
    have hi := hin i (by simp)
    refine ⟨_, (pss_cons (ps_asg (pe_meth (pv 0) cT msp Gsp hr1 bsp .nil pass0 (pa_cons (pe_ix ix_tup (pv 2) pe_int (fun _ _ => rfl)) pa_nil)) (pg_tup rfl (pgs_cons (pg_name (i := 4) scCl.nd rfl (.inl rfl)) (pgs_cons (pg_name (i := 5) scCl.nd rfl (.inl rfl)) pgs_nil))))
      (pss_cons (ps_if (PW.pt (pw_and (pt_cmpR op_le (pe_ix ix_tup (pv 3) pe_int (fun _ _ => rfl)) (pv 4) (nomark _)) (pw_and1 (pt_cmpR op_le (pv 5) (pe_ix ix_tup (pv 3) pe_int (fun _ _ => rfl)) (nomark _))))) (pss_one (ps_ret (pe_call GKn hr2 (by rfl) gKn kKn bKn .nil pass0 (pa_cons (pv 0) (pa_cons (pe_ix ix_tup (pv 2) pe_int (fun _ _ => rfl)) pa_nil))))) pss_nil)
      (pss_one (ps_ret (pe_tup (pa_cons (pe_tup (pa_cons (pv 1) (pa_cons (pv 2) (pa_cons (pv 3) pa_nil)))) (pa_cons (pe_call GLm hr1 (by rfl) gLm kLm bLm .nil pass0 (pa_cons (pv 4) (pa_cons (pe_ix ix_tup (pv 3) pe_int (fun _ _ => rfl)) (pa_cons (pe_ix ix_tup (pv 3) pe_int (fun _ _ => rfl)) pa_nil)))) (pa_cons (pe_call GLm hr1 (by rfl) gLm kLm bLm .nil pass0 (pa_cons (pv 5) (pa_cons (pe_ix ix_tup (pv 3) pe_int (fun _ _ => rfl)) (pa_cons (pe_ix ix_tup (pv 3) pe_int (fun _ _ => rfl)) pa_nil)))) pa_nil)))))))), ?_⟩
    have q : ∀ H' x, Keep L.l H H' → TabAt P w K aT H' t L Tb → Trip K H' x (clampF Tb l u i) → Q (.ref x) H' := q
    unfold clampF at q
    refine ⟨_, rfl, t, dx, _, rfl, h1, rfl, _, rfl, pi, _, (0 : Nat), _, rfl, rfl, hpi, i0, t, L, Tb, i, rfl, hT, by rw [W.len]; exact hi.1, fun q1 hq1 => ?_⟩
    refine ⟨q1, _, rfl, hq1, rfl, _, _, rfl, _, _, rfl, rfl, ?_⟩
    refine ⟨_, rfl, pc, _, (0 : Nat), _, rfl, rfl, hpc, i0, _, rfl, _, _, rfl, rfl, _, rfl, ?_⟩
    have fin : ∀ (e : ¬ (l ≤ Tb.lo i ∧ Tb.hi i ≤ u)), True := fun _ => trivial
    by_cases e1 : l ≤ Tb.lo i
    · refine iteTd (decide_eq_true e1) ?_
      refine ⟨_, rfl, _, rfl, pc, _, (1 : Nat), _, rfl, rfl, hpc, i1, _, _, rfl, rfl, _, rfl, ?_⟩
      by_cases e2 : Tb.hi i ≤ u
      · rw [if_pos ⟨e1, e2⟩] at q
        exact iteTd (decide_eq_true e2) ⟨_, rfl, _, rfl, pi, _, (0 : Nat), _, rfl, rfl, hpi, i0, t, L, Tb, i, rfl, hT, ⟨hi.1, W.len⟩, trq hT q⟩
      · rw [if_neg (fun z => e2 z.2)] at q
        refine iteFd (decide_eq_false e2) ?_
        refine ⟨_, rfl, _, rfl, _, rfl, by show 3 ≤ sizeLine; decide, fun pf npf => ?_⟩
        have s1 := same_upd (o := .tup [.str (Bk.clamp l u).nm, .ref pi, .ref pc]) npf
        have hpc1 := sqT_same hpc s1
        refine ⟨_, rfl, _, rfl, pc, _, (0 : Nat), _, rfl, rfl, hpc1, i0, _, rfl, pc, _, (1 : Nat), _, rfl, rfl, hpc1, i1, _, _, _, rfl, ?_⟩
        refine ⟨_, rfl, _, rfl, pc, _, (0 : Nat), _, rfl, rfl, hpc1, i0, _, rfl, pc, _, (1 : Nat), _, rfl, rfl, hpc1, i1, _, _, _, rfl, by show 3 ≤ sizeLine; decide, fun p3 np3 => ?_⟩
        obtain ⟨s3, tr⟩ := trip_new (k := .clamp l u) (ids := [i]) s1 upd_same np3 hpi (nex (fun z => by cases z) (fun z => by cases z)) hpc
        exact q _ p3 (Same.keeps s3) (hT.same s3) tr
    · rw [if_neg (fun z => e1 z.1)] at q
      refine iteFd (decide_eq_false e1) ?_
      refine iteFd rfl ?_
      refine ⟨_, rfl, _, rfl, _, rfl, by show 3 ≤ sizeLine; decide, fun pf npf => ?_⟩
      have s1 := same_upd (o := .tup [.str (Bk.clamp l u).nm, .ref pi, .ref pc]) npf
      have hpc1 := sqT_same hpc s1
      refine ⟨_, rfl, _, rfl, pc, _, (0 : Nat), _, rfl, rfl, hpc1, i0, _, rfl, pc, _, (1 : Nat), _, rfl, rfl, hpc1, i1, _, _, _, rfl, ?_⟩
      refine ⟨_, rfl, _, rfl, pc, _, (0 : Nat), _, rfl, rfl, hpc1, i0, _, rfl, pc, _, (1 : Nat), _, rfl, rfl, hpc1, i1, _, _, _, rfl, by show 3 ≤ sizeLine; decide, fun p3 np3 => ?_⟩
      obtain ⟨s3, tr⟩ := trip_new (k := .clamp l u) (ids := [i]) s1 upd_same np3 hpi (nex (fun z => by cases z) (fun z => by cases z)) hpc
      exact q _ p3 (Same.keeps s3) (hT.same s3) tr
theorem ok_msh {f : Addr} {fd : FuncData} (F : Fun K "_shift_form" "_shift_form" s_shift_form f fd) (M : Tm2 P w K mg base aT) (cPw : Calls P w K mg base CX0 3 "pointwise" ["kind", "values", "info"] (spPwK K)) : FnOk P w K mg base CX0 4 f fd ["table", "kind", "ids", "info"] (spMF P w K aT (fun k => ∃ n, k = .shift n)) := by
  obtain ⟨fPw, dPw, GPw, kPw, bPw, gPw⟩ := cPw.ex
  obtain ⟨fsp, dsp, msp, Gsp, bsp⟩ := M.sp
  have cT := M.c.c
  refine F.ok scSh (fun vs H Q E h => ?_) (fun cdv A outer s H vs Q E hr3 h => ?_)
  · obtain ⟨_, _, _, _, _, _, _, _, rfl, _⟩ := h
    rfl
  · obtain ⟨t, pi, pc, L, Tb, k, ids, b, rfl, hk, ⟨hT, hpi, hpc, W, hb, hb5, h60, hl, kc, hin⟩, q⟩ := h
    obtain ⟨⟨dx, h1⟩, h2⟩ := id hT
    have hr1 : Room 1 _ := hr3.mono (by decide)
    have hr2 : Room 2 _ := hr3.mono (by decide)
    obtain ⟨n, rfl⟩ := hk
    obtain ⟨i, rfl⟩ := ids1 (hl.trans (by rfl))
    have hi := hin i (by simp)
    refine ⟨_, (pss_cons (ps_asg (pe_meth (pv 0) cT msp Gsp hr1 bsp .nil pass0 (pa_cons (pe_ix ix_tup (pv 2) pe_int (fun _ _ => rfl)) pa_nil)) (pg_tup rfl (pgs_cons (pg_name (i := 4) scSh.nd rfl (.inl rfl)) (pgs_cons (pg_name (i := 5) scSh.nd rfl (.inl rfl)) pgs_nil))))
      (pss_one (ps_ret (pe_tup (pa_cons (pe_tup (pa_cons (pv 1) (pa_cons (pv 2) (pa_cons (pv 3) pa_nil)))) (pa_cons (pe_call GPw hr3 (by rfl) gPw kPw bPw .nil pass0 (pa_cons (pv 1) (pa_cons (pe_tup (pa_cons (pv 4) pa_nil)) (pa_cons (pv 3) pa_nil)))) (pa_cons (pe_call GPw hr3 (by rfl) gPw kPw bPw .nil pass0 (pa_cons (pv 1) (pa_cons (pe_tup (pa_cons (pv 5) pa_nil)) (pa_cons (pv 3) pa_nil)))) pa_nil))))))), ?_⟩
    refine ⟨_, rfl, t, dx, _, rfl, h1, rfl, _, rfl, pi, _, (0 : Nat), _, rfl, rfl, hpi, i0, t, L, Tb, i, rfl, hT, by rw [W.len]; exact hi.1, fun q1 hq1 => ?_⟩
    refine ⟨q1, _, rfl, hq1, rfl, _, _, rfl, _, _, rfl, rfl, ?_⟩
    refine ⟨_, rfl, _, rfl, _, rfl, by show 3 ≤ sizeLine; decide, fun pf npf => ?_⟩
    have s1 := same_upd (o := .tup [.str (Bk.shift n).nm, .ref pi, .ref pc]) npf
    have gf : upd H pf (.tup [.str (Bk.shift n).nm, .ref pi, .ref pc]) pf = some (.tup [.str (Bk.shift n).nm, .ref pi, .ref pc]) := upd_same
    generalize upd H pf (.tup [.str (Bk.shift n).nm, .ref pi, .ref pc]) = H1 at *
    refine ⟨_, rfl, _, rfl, by show 1 ≤ sizeLine; decide, fun pl npl => ⟨_, rfl, ?_⟩⟩
    have s2 := same_upd (o := .tup [.int (Tb.lo i)]) npl
    refine ⟨.shift n, pl, pc, [Tb.lo i], rfl, SqT.of upd_same, sqT_same hpc (Same.trans s1 s2), rfl, kc, ?_⟩
    generalize upd H1 pl (.tup [.int (Tb.lo i)]) = H2 at *
    refine ⟨_, rfl, _, rfl, by show 1 ≤ sizeLine; decide, fun ph nph => ⟨_, rfl, ?_⟩⟩
    have s3 := same_upd (o := .tup [.int (Tb.hi i)]) nph
    refine ⟨.shift n, ph, pc, [Tb.hi i], rfl, SqT.of upd_same, sqT_same hpc (Same.trans s1 (Same.trans s2 s3)), rfl, kc, ?_⟩
    generalize upd H2 ph (.tup [.int (Tb.hi i)]) = H3 at *
    refine ⟨by show 3 ≤ sizeLine; decide, fun p3 np3 => ?_⟩
    obtain ⟨s4, tr⟩ := trip_new (k := .shift n) (ids := [i]) (Same.trans s1 (Same.trans s2 s3)) (s3 _ _ (s2 _ _ gf)) np3 hpi (nex (fun z => by cases z) (fun z => by cases z)) hpc
    exact q _ p3 (Same.keeps s4) (hT.same s4) tr
theorem ok_mwh {f : Addr} {fd : FuncData} (F : Fun K "_where_form" "_where_form" s_where_form f fd) (M : Tm2 P w K mg base aT) (T : TxtM mg) (cKn : Calls P w K mg base CX0 2 "_known" ["table", "term"] (spKnown P w K aT)) : FnOk P w K mg base CX0 3 f fd ["table", "kind", "ids", "info"] (spMF P w K aT (fun k => k = .wher)) := by
  obtain ⟨fKn, dKn, GKn, kKn, bKn, gKn⟩ := cKn.ex
  obtain ⟨fsp, dsp, msp, Gsp, bsp⟩ := M.sp
  have cT := M.c.c
  refine F.ok scWh (fun vs H Q E h => ?_) (fun cdv A outer s H vs Q E hr2 h => ?_)
  · obtain ⟨_, _, _, _, _, _, _, _, rfl, _⟩ := h
    rfl
  · obtain ⟨t, pi, pc, L, Tb, k, ids, b, rfl, hk, ⟨hT, hpi, hpc, W, hb, hb5, h60, hl, kc, hin⟩, q⟩ := h
    obtain ⟨⟨dx, h1⟩, h2⟩ := id hT
    have hr1 : Room 1 _ := hr2.mono (by decide)
    subst hk
    obtain ⟨c, i, j, rfl⟩ := ids3 (hl.trans (by rfl))
    have hc := hin c (by simp)
    have hi := hin i (by simp)
    have hj := hin j (by simp)
    refine ⟨_, (pss_cons (ps_asg (pv 2) (pg_tup rfl (pgs_cons (pg_name (i := 4) scWh.nd rfl (.inl rfl)) (pgs_cons (pg_name (i := 5) scWh.nd rfl (.inl rfl)) (pgs_cons (pg_name (i := 6) scWh.nd rfl (.inl rfl)) pgs_nil)))))
      (pss_cons (ps_asg (pe_meth (pv 0) cT msp Gsp hr1 bsp .nil pass0 (pa_cons (pv 4) pa_nil)) (pg_tup rfl (pgs_cons (pg_name (i := 7) scWh.nd rfl (.inl rfl)) (pgs_cons (pg_name (i := 8) scWh.nd rfl (.inl rfl)) pgs_nil))))
      (pss_cons (ps_if (PW.pt (pw_or (pt_cmpR op_gt (pv 7) pe_int (nomark _)) (pw_or (pt_cmpR op_lt (pv 8) pe_int (nomark _)) (pw_or1 (pt_cmpR op_eq (pv 5) (pv 6) (nomark _)))))) (pss_one (ps_ret (pe_call GKn hr2 (by rfl) gKn kKn bKn .nil pass0 (pa_cons (pv 0) (pa_cons (pv 5) pa_nil))))) pss_nil)
      (pss_cons (ps_if (pt_cmpR op_eq (pv 7) (pv 8) (nomark _)) (pss_one (ps_ret (pe_call GKn hr2 (by rfl) gKn kKn bKn .nil pass0 (pa_cons (pv 0) (pa_cons (pv 6) pa_nil))))) pss_nil)
      (pss_cons (ps_asg (pe_tup (pa_cons (pe_meth (pv 0) cT msp Gsp hr1 bsp .nil pass0 (pa_cons (pv 5) pa_nil)) (pa_cons (pe_meth (pv 0) cT msp Gsp hr1 bsp .nil pass0 (pa_cons (pv 6) pa_nil)) pa_nil))) (pg_tup rfl (pgs_cons (pg_tup rfl (pgs_cons (pg_name (i := 7) scWh.nd rfl (.inl rfl)) (pgs_cons (pg_name (i := 8) scWh.nd rfl (.inl rfl)) pgs_nil))) (pgs_cons (pg_tup rfl (pgs_cons (pg_name (i := 9) scWh.nd rfl (.inl rfl)) (pgs_cons (pg_name (i := 10) scWh.nd rfl (.inl rfl)) pgs_nil))) pgs_nil))))
      (pss_one (ps_ret (pe_tup (pa_cons (pe_tup (pa_cons (pv 1) (pa_cons (pv 2) (pa_cons (pe_tup pa_nil) pa_nil)))) (pa_cons (pe_callB (call_min2 rfl) (by rfl) T.min (by decide +kernel) (pa_cons (pv 7) (pa_cons (pv 9) pa_nil))) (pa_cons (pe_callB (call_max2 rfl) (by rfl) T.max (by decide +kernel) (pa_cons (pv 8) (pa_cons (pv 10) pa_nil))) pa_nil))))))))))), ?_⟩
    have q : ∀ H' x, Keep L.l H H' → TabAt P w K aT H' t L Tb → Trip K H' x (whereF Tb c i j) → Q (.ref x) H' := q
    unfold whereF at q
    refine ⟨_, rfl, pi, _, rfl, hpi, rfl, _, _, rfl, _, _, rfl, _, _, rfl, rfl, ?_⟩
    refine ⟨_, rfl, t, dx, _, rfl, h1, rfl, _, rfl, t, L, Tb, c, rfl, hT, by rw [W.len]; exact hc.1, fun q1 hq1 => ?_⟩
    refine ⟨q1, _, rfl, hq1, rfl, _, _, rfl, _, _, rfl, rfl, ?_⟩
    refine ⟨_, rfl, _, _, rfl, rfl, _, rfl, ?_⟩
    by_cases e1 : Tb.lo c > 0
    · rw [if_pos (.inl e1)] at q
      exact iteTd (decide_eq_true e1) (iteTd rfl ⟨_, rfl, _, rfl, t, L, Tb, i, rfl, hT, ⟨hi.1, W.len⟩, trq hT q⟩)
    · refine iteFd (decide_eq_false e1) ?_
      refine ⟨_, rfl, _, _, rfl, rfl, _, rfl, ?_⟩
      by_cases e2 : Tb.hi c < 0
      · rw [if_pos (.inr (.inl e2))] at q
        exact iteTd (decide_eq_true e2) (iteTd rfl ⟨_, rfl, _, rfl, t, L, Tb, i, rfl, hT, ⟨hi.1, W.len⟩, trq hT q⟩)
      · refine iteFd (decide_eq_false e2) ?_
        refine ⟨_, rfl, _, rfl, rfl, _, rfl, ?_⟩
        by_cases e3 : i = j
        · rw [if_pos (.inr (.inr e3))] at q
          exact iteTd (decide_eq_true (by rw [e3])) ⟨_, rfl, _, rfl, t, L, Tb, i, rfl, hT, ⟨hi.1, W.len⟩, trq hT q⟩
        · rw [if_neg (fun z => z.elim e1 fun z => z.elim e2 e3)] at q
          refine iteFd (decide_eq_false fun z => e3 (Int.ofNat_inj.mp (V.int.inj z))) ?_
          refine ⟨_, rfl, _, rfl, rfl, _, rfl, ?_⟩
          by_cases e4 : Tb.lo c = Tb.hi c
          · rw [if_pos e4] at q
            exact iteTd (decide_eq_true (by rw [e4])) ⟨_, rfl, _, rfl, t, L, Tb, j, rfl, hT, ⟨hj.1, W.len⟩, trq hT q⟩
          · rw [if_neg e4] at q
            refine iteFd (decide_eq_false fun z => e4 (V.int.inj z)) ?_
            refine ⟨_, rfl, t, dx, _, rfl, h1, rfl, _, rfl, t, L, Tb, i, rfl, hT, by rw [W.len]; exact hi.1, fun q1 hq1 => ?_⟩
            refine ⟨_, rfl, t, dx, _, rfl, h1, rfl, _, rfl, t, L, Tb, j, rfl, hT, by rw [W.len]; exact hj.1, fun q2 hq2 => ?_⟩
            refine ⟨two_line, fun pp npp => ?_⟩
            have s1 := same_upd (o := .tup [.ref q1, .ref q2]) npp
            refine ⟨pp, _, rfl, SqT.of upd_same, rfl, _, _, rfl, q1, _, rfl, sqT_same hq1 s1, rfl, _, _, rfl, _, _, rfl, rfl, _, _, rfl, q2, _, rfl, sqT_same hq2 s1, rfl, _, _, rfl, _, _, rfl, rfl, rfl, ?_⟩
            have hpi1 := sqT_same hpi s1
            have hpc1 := sqT_same hpc s1
            have hT1 := hT.same s1
            generalize upd H pp (.tup [.ref q1, .ref q2]) = H1 at *
            refine ⟨_, rfl, _, rfl, by show 0 ≤ sizeLine; decide, fun pz npz => ⟨by show 3 ≤ sizeLine; decide, fun pf npf => ?_⟩⟩
            have s2 := same_upd (o := .tup []) npz
            refine ⟨_, rfl, _, rfl, _, _, rfl, _, rfl, _, rfl, _, _, rfl, by show 3 ≤ sizeLine; decide, fun p3 np3 => ?_⟩
            obtain ⟨s3, tr⟩ := trip_new (k := .wher) (ids := [c, i, j]) (same_upd npf) upd_same np3 (sqT_same hpi1 s2) (nex (by decide) (by decide)) (SqT.of upd_same)
            exact q _ p3 (Same.keeps (Same.trans s1 (Same.trans s2 s3))) (hT1.same (Same.trans s2 s3)) tr
end

section
variable {P : Program} {w : World} {K : PySem.W.Frag} {mg : Str → Option Value} {base : Heap} {aT aM : Addr}
abbrev nMu : List Str := ["table", "kind", "ids", "info", "a", "b", "one", "other", "low", "high"]
theorem scMu : FnScope nMu ["table", "kind", "ids", "info"] (defScope s_mul_form) := ⟨rfl, rfl, rfl, by decide +kernel, rfl, by decide +kernel, by decide +kernel⟩
theorem ok_mmu {f : Addr} {fd : FuncData} (F : Fun K "_mul_form" "_mul_form" s_mul_form f fd) (M : Tm2 P w K mg base aT) (T : TxtM mg) (cTi : Calls P w K mg base CX0 3 "_times" ["table", "term", "by"] (spTimes P w K aT)) (cCo : Calls P w K mg base CX0 1 "corners" ["one", "other"] (spCorners K)) : FnOk P w K mg base CX0 4 f fd ["table", "kind", "ids", "info"] (spMF P w K aT (fun k => k = .mul)) := by
  obtain ⟨fTi, dTi, GTi, kTi, bTi, gTi⟩ := cTi.ex
  obtain ⟨fCo, dCo, GCo, kCo, bCo, gCo⟩ := cCo.ex
  obtain ⟨fsp, dsp, msp, Gsp, bsp⟩ := M.sp
  have cT := M.c.c
  refine F.ok scMu (fun vs H Q E h => ?_) (fun cdv A outer s H vs Q E hr3 h => ?_)
  · obtain ⟨_, _, _, _, _, _, _, _, rfl, _⟩ := h
    rfl
  · obtain ⟨t, pi, pc, L, Tb, k, ids, b, rfl, hk, ⟨hT, hpi, hpc, W, hb, hb5, h60, hl, kc, hin⟩, q⟩ := h
    obtain ⟨⟨dx, h1⟩, h2⟩ := id hT
    have hr1 : Room 1 _ := hr3.mono (by decide)
    have hr2 : Room 2 _ := hr3.mono (by decide)
    subst hk
    obtain ⟨i, j, rfl⟩ := ids2 (hl.trans (by rfl))
    have hi := hin i (by simp)
    have hj := hin j (by simp)
    refine ⟨_, (pss_cons (ps_asg (pv 2) (pg_tup rfl (pgs_cons (pg_name (i := 4) scMu.nd rfl (.inl rfl)) (pgs_cons (pg_name (i := 5) scMu.nd rfl (.inl rfl)) pgs_nil))))
      (pss_cons (ps_for PassesOwn.never rfl (pi_tup (pe_tup (pa_cons (pe_tup (pa_cons (pv 4) (pa_cons (pv 5) pa_nil))) (pa_cons (pe_tup (pa_cons (pv 5) (pa_cons (pv 4) pa_nil))) pa_nil)))) (pg_tup rfl (pgs_cons (pg_name (i := 6) scMu.nd rfl (.inl rfl)) (pgs_cons (pg_name (i := 7) scMu.nd rfl (.inl rfl)) pgs_nil))) (pss_cons (ps_asg (pe_meth (pv 0) cT msp Gsp hr1 bsp .nil pass0 (pa_cons (pv 6) pa_nil)) (pg_tup rfl (pgs_cons (pg_name (i := 8) scMu.nd rfl (.inl rfl)) (pgs_cons (pg_name (i := 9) scMu.nd rfl (.inl rfl)) pgs_nil))))
      (pss_one (ps_if (pt_cmpR op_eq (pv 8) (pv 9) (nomark _)) (pss_one (ps_ret (pe_call GTi hr3 (by rfl) gTi kTi bTi .nil pass0 (pa_cons (pv 0) (pa_cons (pv 7) (pa_cons (pv 8) pa_nil)))))) pss_nil))))
      (pss_cons (ps_asg (pe_call GCo hr1 (by rfl) gCo kCo bCo .nil pass0 (pa_cons (pe_meth (pv 0) cT msp Gsp hr1 bsp .nil pass0 (pa_cons (pv 4) pa_nil)) (pa_cons (pe_meth (pv 0) cT msp Gsp hr1 bsp .nil pass0 (pa_cons (pv 5) pa_nil)) pa_nil))) (pg_tup rfl (pgs_cons (pg_name (i := 8) scMu.nd rfl (.inl rfl)) (pgs_cons (pg_name (i := 9) scMu.nd rfl (.inl rfl)) pgs_nil))))
      (pss_one (ps_ret (pe_tup (pa_cons (pe_tup (pa_cons (pv 1) (pa_cons (pe_callTy call_tuple_of (by rfl) T.tuple (by decide +kernel) (pa_cons (pe_callB cr_sortTI (by rfl) T.sorted (by decide +kernel) (pa_cons (pv 2) pa_nil)) pa_nil)) (pa_cons (pe_tup pa_nil) pa_nil)))) (pa_cons (pv 8) (pa_cons (pv 9) pa_nil))))))))), ?_⟩
    have q : ∀ H' x, Keep L.l H H' → TabAt P w K aT H' t L Tb → Trip K H' x (mulF Tb i j) → Q (.ref x) H' := q
    unfold mulF at q
    have tq : ∀ {u : Nat} {y : Int} {H1 : Hp}, u < Tb.fs.length ∧ Small Tb u → Bg 400000 y → TrQ K (timesF Tb u y) Q H1 → TabAt P w K aT H1 t L Tb → spTimes P w K aT [.ref t, .int (u : Int), .int y] H1 Q E0 := fun {u y H1} hu hy r hT1 => by
      obtain ⟨nd1, bn1, g1, l1⟩ := sumOf_str W (by omega) hu.1
      exact ⟨t, L, Tb, u, y, rfl, hT1, ⟨hu.1, W.len⟩, hy, ⟨(W.spb hu.1).1.mono (by omega), (W.spb hu.1).2.mono (by omega)⟩, bn1.mono (by omega), by omega, fun p hp => ⟨(g1 p hp).2.mono (by omega), (g1 p hp).1⟩, r⟩
    refine ⟨_, rfl, pi, _, rfl, hpi, rfl, _, _, rfl, _, _, rfl, rfl, ?_⟩
    refine ⟨_, rfl, _, rfl, two_line, fun pa npa => ⟨_, rfl, _, rfl, two_line, fun pb npb => ⟨two_line, fun pt npt => ?_⟩⟩⟩
    have sa := same_upd (o := .tup [.int (i : Int), .int (j : Int)]) npa
    have sb := same_upd (o := .tup [.int (j : Int), .int (i : Int)]) npb
    have st := same_upd (o := .tup [.ref pa, .ref pb]) npt
    have ga := st _ _ (sb _ _ upd_same)
    have gb := st _ _ (upd_same (H := upd H pa (.tup [.int (i : Int), .int (j : Int)])) (a := pb) (o := .tup [.int (j : Int), .int (i : Int)]))
    have gt : SqT K (upd (upd (upd H pa (.tup [.int (i : Int), .int (j : Int)])) pb (.tup [.int (j : Int), .int (i : Int)])) pt (.tup [.ref pa, .ref pb])) pt [.ref pa, .ref pb] := SqT.of upd_same
    have s1 := Same.trans sa (Same.trans sb st)
    generalize upd (upd (upd H pa (.tup [.int (i : Int), .int (j : Int)])) pb (.tup [.int (j : Int), .int (i : Int)])) pt (.tup [.ref pa, .ref pb]) = H1 at *
    refine ⟨pt, rfl, ⟨_, gt⟩, for_tup (K := K) (a := pt) (xs := [.ref pa, .ref pb]) (fun m σ H' => Same H1 H' ∧ (∃ v6 v7 v8 v9, σ = [some (.ref t), some (.str "mul"), some (.ref pi), some (.ref pc), some (.int (i : Int)), some (.int (j : Int)), v6, v7, v8, v9]) ∧ (1 ≤ m → Tb.lo i ≠ Tb.hi i) ∧ (2 ≤ m → Tb.lo j ≠ Tb.hi j))
      ⟨Same.refl _, ⟨none, none, none, none, rfl⟩, fun z => absurd z (by decide), fun z => absurd z (by decide)⟩ (fun m σ H' _ h => sqT_same gt h.1) ?_ ?_⟩
    · rintro m x σ H2 hx ⟨s2, ⟨v6, v7, v8, v9, rfl⟩, c1, c2⟩
      have s12 := Same.trans s1 s2
      have step : ∀ (px : Addr) (a b : Nat), H1 px = some (.tup [.int (a : Int), .int (b : Int)]) → a < Tb.fs.length → True := fun _ _ _ _ _ => trivial
      match m, hx with
      | 0, hx =>
        cases hx
        refine ⟨pa, _, rfl, SqT.of (s2 _ _ ga), rfl, _, _, rfl, _, _, rfl, rfl, ?_⟩
        refine ⟨_, rfl, t, dx, _, rfl, s12 _ _ h1, rfl, _, rfl, t, L, Tb, i, rfl, hT.same s12, by rw [W.len]; exact hi.1, fun q1 hq1 => ?_⟩
        refine ⟨q1, _, rfl, hq1, rfl, _, _, rfl, _, _, rfl, rfl, ?_⟩
        refine ⟨_, rfl, _, rfl, rfl, _, rfl, ?_⟩
        by_cases e : Tb.lo i = Tb.hi i
        · rw [if_pos e] at q
          refine iteTd (decide_eq_true (by rw [e])) ?_
          exact ⟨_, rfl, _, rfl, _, rfl, tq hj ((W.spb hi.1).1.mono (by omega)) (trq1 s12 hT q) (hT.same s12)⟩
        · exact iteFd (decide_eq_false fun z => e (V.int.inj z)) ⟨s2, ⟨_, _, _, _, rfl⟩, fun _ => e, fun z => absurd z (by decide)⟩
      | 1, hx =>
        cases hx
        have ni := c1 (Nat.le_refl 1)
        rw [if_neg ni] at q
        refine ⟨pb, _, rfl, SqT.of (s2 _ _ gb), rfl, _, _, rfl, _, _, rfl, rfl, ?_⟩
        refine ⟨_, rfl, t, dx, _, rfl, s12 _ _ h1, rfl, _, rfl, t, L, Tb, j, rfl, hT.same s12, by rw [W.len]; exact hj.1, fun q1 hq1 => ?_⟩
        refine ⟨q1, _, rfl, hq1, rfl, _, _, rfl, _, _, rfl, rfl, ?_⟩
        refine ⟨_, rfl, _, rfl, rfl, _, rfl, ?_⟩
        by_cases e : Tb.lo j = Tb.hi j
        · rw [if_pos e] at q
          refine iteTd (decide_eq_true (by rw [e])) ?_
          exact ⟨_, rfl, _, rfl, _, rfl, tq hi ((W.spb hj.1).1.mono (by omega)) (trq1 s12 hT q) (hT.same s12)⟩
        · exact iteFd (decide_eq_false fun z => e (V.int.inj z)) ⟨s2, ⟨_, _, _, _, rfl⟩, fun _ => ni, fun _ => e⟩
      | m + 2, hx => cases hx
    · rintro σ H2 ⟨s2, ⟨v6, v7, v8, v9, rfl⟩, c1, c2⟩
      have s12 := Same.trans s1 s2
      rw [if_neg (c1 (by show 1 ≤ 2; decide)), if_neg (c2 (by show 2 ≤ 2; decide))] at q
      have s1 := s12
      have hpi1 := sqT_same hpi s12
      have hT1 := hT.same s12
      refine ⟨_, rfl, t, dx, _, rfl, s12 _ _ h1, rfl, _, rfl, t, L, Tb, i, rfl, hT1, by rw [W.len]; exact hi.1, fun q1 hq1 => ?_⟩
      refine ⟨_, rfl, t, dx, _, rfl, s12 _ _ h1, rfl, _, rfl, t, L, Tb, j, rfl, hT1, by rw [W.len]; exact hj.1, fun q2 hq2 => ?_⟩
      refine ⟨q1, q2, _, _, _, _, rfl, hq1, hq2, (W.spb hi.1).1.mono (by omega), (W.spb hi.1).2.mono (by omega), (W.spb hj.1).1.mono (by omega), (W.spb hj.1).2.mono (by omega), fun H3 p3 s3 h3 => ?_⟩
      refine ⟨p3, _, rfl, h3, rfl, _, _, rfl, _, _, rfl, rfl, ?_⟩
      have s1 := Same.trans s12 s3
      have hpi1 := sqT_same hpi s1
      have hT1 := hT.same s1
      refine ⟨_, rfl, _, rfl, pi, asInts [i, j], rfl, hpi1, by show 2 < 64; decide, fun ys py perm srt npy => ⟨py, _, rfl, .inl ⟨SqL.of upd_same, fun pt npt => ?_⟩⟩⟩
      have ey := sort2_of perm srt
      have sA := same_upd (o := .lst (ys.map V.int)) npy
      have sB := same_upd (o := .tup (ys.map V.int)) npt
      have hpt : SqT K (upd (upd H3 py (.lst (ys.map V.int))) pt (.tup (ys.map V.int))) pt ((asInts (sort2 i j)).map V.int) := by rw [← ey]; exact SqT.of upd_same
      have sAB := Same.trans sA sB
      generalize upd (upd H3 py (.lst (ys.map V.int))) pt (.tup (ys.map V.int)) = H2 at *
      refine ⟨by show 0 ≤ sizeLine; decide, fun pz npz => ⟨by show 3 ≤ sizeLine; decide, fun pf npf => ⟨_, rfl, _, rfl, by show 3 ≤ sizeLine; decide, fun p3 np3 => ?_⟩⟩⟩
      have s2 := same_upd (o := .tup []) npz
      obtain ⟨s3, tr⟩ := trip_new (k := .mul) (ids := sort2 i j) (same_upd npf) upd_same np3 (sqT_same hpt s2) (nex (by decide) (by decide)) (SqT.of upd_same)
      exact q _ p3 (Same.keeps (Same.trans s1 (Same.trans sAB (Same.trans s2 s3)))) (hT1.same (Same.trans sAB (Same.trans s2 s3))) tr
end

section
variable {P : Program} {w : World} {K : PySem.W.Frag} {mg : Str → Option Value} {base : Heap} {aT aM : Addr}
theorem exnm {k k' : Bk} (hk : isEx k) (h : k'.nm = k.nm) : k' = k := by
  rcases hk with rfl | rfl <;> cases k' <;> first | rfl | (simp only [Bk.nm] at h; exact absurd h (by decide +kernel))
theorem memb_eq {T : Tb} {k : Bk} (hk : isEx k) {i : Nat} (h : fmN (T.fm i) = k.nm) : ∃ is, T.fm i = .op k is ∧ memb T k i = is := by
  have nn := nm_ne k
  cases e : T.fm i with
  | num n => rw [e] at h; exact absurd h.symm nn.1
  | var n => rw [e] at h; exact absurd h.symm nn.2.1
  | sum n ps => rw [e] at h; exact absurd h.symm nn.2.2.1
  | pick ids => rw [e] at h; exact absurd h.symm nn.2.2.2
  | op k' is =>
    rw [e] at h
    obtain rfl := exnm hk h
    refine ⟨is, rfl, ?_⟩
    unfold memb
    rw [e]
    exact if_pos rfl
theorem memb_ne {T : Tb} {k : Bk} {i : Nat} (h : fmN (T.fm i) ≠ k.nm) : memb T k i = [i] := by
  unfold memb
  cases e : T.fm i with
  | op k' is =>
    rw [e] at h
    exact if_neg fun z => h (by rw [z]; rfl)
  | _ => rfl
theorem isNum_nm {T : Tb} {i : Nat} : fmN (T.fm i) = ("number" : Str) ↔ isNum T i = true := by
  unfold isNum
  cases T.fm i with
  | num n => exact ⟨fun _ => rfl, fun _ => rfl⟩
  | var k => exact ⟨fun h => absurd h (show ("variable" : Str) ≠ "number" by decide +kernel), fun h => by cases h⟩
  | sum n ps => exact ⟨fun h => absurd h (show ("sum" : Str) ≠ "number" by decide +kernel), fun h => by cases h⟩
  | op k ids => exact ⟨fun h => absurd h (nm_ne k).1, fun h => by cases h⟩
  | pick ids => exact ⟨fun h => absurd h (show ("pick" : Str) ≠ "number" by decide +kernel), fun h => by cases h⟩
theorem inV_ints {m : Nat} : ∀ {l : List Nat}, inV (.int (m : Int)) ((asInts l).map V.int) = decide (m ∈ l)
  | [] => by simp [inV, asInts]
  | x :: l => by
    have ih := inV_ints (m := m) (l := l)
    unfold inV at ih ⊢
    show (eqV (.int (x : Int)) (.int (m : Int)) || ((asInts l).map V.int).any fun y => eqV y (.int (m : Int))) = _
    rw [ih]
    have e : eqV (.int (x : Int)) (.int (m : Int)) = decide (x = m) := by
      show decide ((x : Int) = (m : Int)) = _
      by_cases h : x = m
      · rw [decide_eq_true h, decide_eq_true (by rw [h])]
      · rw [decide_eq_false h, decide_eq_false fun z => h (Int.ofNat_inj.mp z)]
    rw [e]
    by_cases h : x = m
    · subst h
      simp
    · have : ¬ m = x := fun z => h z.symm
      simp [h, this]
theorem wf_pl {b : Nat} {T : Tb} (W : Wf b T) : ∀ g ∈ T.fs, plF g := fun g hg => by
  obtain ⟨i, hi⟩ := List.getElem?_of_mem hg
  have F := (W.fo i g hi).1
  cases g with
  | var k => exact F.vk k rfl
  | _ => trivial
theorem memb_len {b : Nat} {T : Tb} (W : Wf b T) {k : Bk} (hk : isEx k) {i : Nat} (hi : i < T.fs.length) : (memb T k i).length ≤ T.fs.length := by
  by_cases h : fmN (T.fm i) = k.nm
  · obtain ⟨is, e1, e2⟩ := memb_eq hk h
    rw [e2]
    obtain ⟨F, _⟩ := W.fok hi
    exact nodup_lt (F.ex k is e1 hk).2.2 fun p hp => F.pa p (by rw [e1]; exact hp)
  · rw [memb_ne h]
    show 1 ≤ _
    omega
theorem cutV_from (xs : List V) (p : Nat) : cutV xs (some (p : Int)) none = xs.drop p := by
  unfold cutV
  rw [HT.sIx_nat, HT.sIx_none, List.take_of_length_le (by rw [List.length_drop]; exact Nat.le_refl _)]
  by_cases h : p ≤ xs.length
  · rw [Nat.min_eq_left h]
  · rw [List.drop_eq_nil_of_le (by omega), List.drop_eq_nil_of_le (by omega)]
theorem foldK_snoc (k : Bk) (f : Nat → Int) (a : Nat) : ∀ (l : List Nat) (x : Int), foldK k f x (l ++ [a]) = ptK k [foldK k f x l, f a]
  | [], x => rfl
  | m :: l, x => foldK_snoc k f a l (ptK k [x, f m])
theorem ints_flat (l : List Nat) : ((asInts l).map V.int).all flatV = true := by
  rw [List.all_eq_true]
  intro v hv
  obtain ⟨x, _, rfl⟩ := List.mem_map.mp hv
  rfl
theorem few_ints {ks : List Int} {l : List Nat} {N : Nat} (nd : ks.Nodup) (h : ∀ k, k ∈ ks ↔ k ∈ asInts l) (hl : ∀ x ∈ l, x < N) : ks.length ≤ N := by
  have e : ks = asInts (ks.map Int.toNat) := by
    unfold asInts
    rw [List.map_map]
    refine (List.map_id ks).symm.trans (List.map_congr_left fun y hy => ?_)
    obtain ⟨n, _, rfl⟩ := List.mem_map.mp ((h y).mp hy)
    show (n : Int) = (((n : Int).toNat : Nat) : Int)
    rw [Int.toNat_natCast]
  have nd2 : (ks.map Int.toNat).Nodup := by
    rw [e] at nd
    unfold asInts at nd
    unfold List.Nodup at nd ⊢
    rw [List.pairwise_map] at nd
    exact nd.imp fun h z => h (by rw [z])
  have := nodup_lt nd2 fun x hx => by
    obtain ⟨y, hy, rfl⟩ := List.mem_map.mp hx
    obtain ⟨n, hn, rfl⟩ := List.mem_map.mp ((h y).mp hy)
    rw [Int.toNat_natCast]
    exact hl n hn
  rwa [List.length_map] at this
theorem sorted_set_is {ns : List Int} {l : List Nat} (st : ns.Pairwise (· < ·)) (h : ∀ k : Int, k ∈ ns ↔ decide (k ∈ asInts l) = true) : ns = asInts (sortS l) := by
  have h' : ∀ k : Int, k ∈ ns ↔ k ∈ asInts l := fun k => by rw [h k, decide_eq_true_eq]
  have e : ns = asInts (ns.map Int.toNat) := by
    unfold asInts
    rw [List.map_map]
    refine (List.map_id ns).symm.trans (List.map_congr_left fun y hy => ?_)
    obtain ⟨n, _, rfl⟩ := List.mem_map.mp ((h' y).mp hy)
    show (n : Int) = (((n : Int).toNat : Nat) : Int)
    rw [Int.toNat_natCast]
  have st2 : (ns.map Int.toNat).Pairwise (· < ·) := by
    rw [e] at st
    unfold asInts at st
    rw [List.pairwise_map] at st
    exact st.imp fun h => by omega
  rw [e]
  congr 1
  refine sorted_ext st2 (sortS_sorted l) fun x => ?_
  rw [sortS_mem]
  constructor
  · intro hx
    obtain ⟨y, hy, rfl⟩ := List.mem_map.mp hx
    obtain ⟨n, hn, rfl⟩ := List.mem_map.mp ((h' y).mp hy)
    rw [Int.toNat_natCast]
    exact hn
  · intro hx
    exact List.mem_map.mpr ⟨(x : Int), (h' _).mpr (List.mem_map.mpr ⟨x, hx, rfl⟩), Int.toNat_natCast x⟩
abbrev nEx : List Str := ["table", "kind", "ids", "info", "members", "term", "form", "member", "numbers", "ends", "low", "high", "least", "most"]
theorem scEx : FnScope nEx ["table", "kind", "ids", "info"] (defScope s_extreme_form) := ⟨rfl, rfl, rfl, by decide +kernel, rfl, by decide +kernel, by decide +kernel⟩
theorem ok_mex {f : Addr} {fd : FuncData} (F : Fun K "_extreme_form" "_extreme_form" s_extreme_form f fd) (M : Tm2 P w K mg base aT) (T : TxtM mg) (cKn : Calls P w K mg base CX0 2 "_known" ["table", "term"] (spKnown P w K aT)) (cPw : Calls P w K mg base CX0 3 "pointwise" ["kind", "values", "info"] (spPwK K)) : FnOk P w K mg base CX0 4 f fd ["table", "kind", "ids", "info"] (spMF P w K aT (isEx)) := by
  obtain ⟨fKn, dKn, GKn, kKn, bKn, gKn⟩ := cKn.ex
  obtain ⟨fPw, dPw, GPw, kPw, bPw, gPw⟩ := cPw.ex
  obtain ⟨fsp, dsp, msp, Gsp, bsp⟩ := M.sp
  obtain ⟨ffo, dfo, mfo, Gfo, bfo⟩ := M.fo
  obtain ⟨fnu, dnu, mnu, Gnu, bnu⟩ := M.nu
  have cT := M.c.c
  refine F.ok scEx (fun vs H Q E h => ?_) (fun cdv A outer s H vs Q E hr3 h => ?_)
  · obtain ⟨_, _, _, _, _, _, _, _, rfl, _⟩ := h
    rfl
  · obtain ⟨t, pi, pc, L, Tb, k, ids, b, rfl, hk, ⟨hT, hpi, hpc, W, hb, hb5, h60, hl, kc, hin⟩, q⟩ := h
    obtain ⟨⟨dx, h1⟩, h2⟩ := id hT
    have hr1 : Room 1 _ := hr3.mono (by decide)
    have hr2 : Room 2 _ := hr3.mono (by decide)
    obtain ⟨i, j, rfl⟩ := ids2 (hl.trans (by rcases hk with rfl | rfl <;> rfl))
    have hi := hin i (by simp)
    have hj := hin j (by simp)
    refine ⟨_, (pss_cons (ps_set (i := 4) scEx.nd rfl (.inl rfl) (pe_lst pa_nil))
      (pss_cons (ps_for PassesOwn.never rfl (pi_tup (pv 2)) (pg_name (i := 5) scEx.nd rfl (.inl rfl)) (pss_cons (ps_set (i := 6) scEx.nd rfl (.inl rfl) (pe_meth (pv 0) cT mfo Gfo hr1 bfo .nil pass0 (pa_cons (pv 5) pa_nil)))
      (pss_one (ps_expr (pe_bm PySem.F.plainAttrs_list PySem.F.slot_list_extend PySem.F.type_list_extend mt_extendT (pv 4) (pa_cons (pe_ifExp (pt_cmpR op_eq (pe_ix ix_tup (pv 6) pe_int (fun _ _ => rfl)) (pv 1) (nomark _)) (pe_ix ix_tup (pv 6) pe_int (fun _ _ => rfl)) (pe_tupF (pa_cons (pv 5) pa_nil))) pa_nil))))))
      (pss_cons (ps_set (i := 8) scEx.nd rfl (.inr rfl) (pe_lc (own := [("member", 7)]) (g := (gName 7)) (tt := (tTest (tOp rEq (tOp (rIxT K) (tMeth aT "form" (spForm P w K aT) [] E0 (tVar 0) (tCons (tVar 7) tNil)) (tC (.int 0))) (tC (.str "number"))))) (te := (tVar 7)) rfl scEx.nd (pi_list (pv 4)) (blkOk_by (N := nEx) (sc := defScope s_extreme_form) (by decide +kernel)) (fun _ _ _ _ _ => (pg_name (i := 7) scEx.nd rfl (.inl rfl))) (fun _ _ _ _ _ => pts_one (pt_cmpR op_eq (pe_ix ix_tup (pe_meth (pv 0) cT mfo Gfo hr1 bfo .nil pass0 (pa_cons (pv 7) pa_nil)) pe_int (fun _ _ => rfl)) pe_str (nomark _))) (fun _ _ _ _ _ => (pv 7))))
      (Evl.pss_cut (ps_if (pt_cmpR op_gt (pe_callB call_len_seq (by rfl) T.len PySem.boot_len (pa_cons (pv 8) pa_nil)) pe_int (nomark _)) (pss_cons (ps_setLc (i := 4) (own := [("member", 7)]) (g := (gName 7)) (tt := (tTest (tOp (rIn K true) (tVar 7) (tVar 8)))) (te := (tVar 7)) (by rfl) scEx.nd rfl rfl (sw_true rfl rfl rfl (by decide +kernel)) (pi_list (pv 4)) (blkOk_by (N := nEx) (sc := defScope s_extreme_form) (by decide +kernel)) (fun _ _ _ _ _ => (pg_name (i := 7) scEx.nd rfl (.inl rfl))) (fun _ _ _ _ _ => pts_one (pt_cmpR op_notIn_seq (pv 7) (pv 8) rfl)) (fun _ _ _ _ _ => (pv 7)))
      (pss_cons (ps_set (i := 9) scEx.nd rfl (.inl rfl) (pe_callTy call_tuple_ofF (by rfl) T.tuple (by decide +kernel) (pa_cons (pe_lc (own := [("member", 7)]) (g := (gName 7)) (tt := tYes) (te := (tOp (rIxT K) (tMeth aT "form" (spForm P w K aT) [] E0 (tVar 0) (tCons (tVar 7) tNil)) (tC (.int 1)))) rfl scEx.nd (pi_list (pv 8)) (blkOk_by (N := nEx) (sc := defScope s_extreme_form) (by decide +kernel)) (fun _ _ _ _ _ => (pg_name (i := 7) scEx.nd rfl (.inl rfl))) (fun _ _ _ _ _ => pts_nil) (fun _ _ _ _ _ => (pe_ix ix_tup (pe_meth (pv 0) cT mfo Gfo hr1 bfo .nil pass0 (pa_cons (pv 7) pa_nil)) pe_int (fun _ _ => rfl)))) pa_nil)))
      (pss_one (ps_expr (pe_bm PySem.F.plainAttrs_list PySem.F.slot_list_append PySem.F.type_list_append mt_append (pv 4) (pa_cons (pe_meth (pv 0) cT mnu Gnu hr2 bnu .nil pass0 (pa_cons (pe_call GPw hr3 (by rfl) gPw kPw bPw .nil pass0 (pa_cons (pv 1) (pa_cons (pv 9) (pa_cons (pe_tup pa_nil) pa_nil)))) pa_nil)) pa_nil)))))) pss_nil)
      (pss_cons (ps_set (i := 4) scEx.nd rfl (.inl rfl) (pe_callB (cr_sortedSetW w rfl rfl) (by rfl) T.sorted (by decide +kernel) (pa_cons (pe_callTy (cr_setLW w rfl rfl) (by rfl) T.set (by decide +kernel) (pa_cons (pv 4) pa_nil)) pa_nil)))
      (pss_cons (ps_if (pt_cmpR op_eq (pe_callB call_len_seq (by rfl) T.len PySem.boot_len (pa_cons (pv 4) pa_nil)) pe_int (nomark _)) (pss_one (ps_ret (pe_call GKn hr2 (by rfl) gKn kKn bKn .nil pass0 (pa_cons (pv 0) (pa_cons (pe_ix ix_list (pv 4) pe_int (fun _ _ => rfl)) pa_nil))))) pss_nil)
      (pss_cons (ps_asg (pe_meth (pv 0) cT msp Gsp hr1 bsp .nil pass0 (pa_cons (pe_ix ix_list (pv 4) pe_int (fun _ _ => rfl)) pa_nil)) (pg_tup rfl (pgs_cons (pg_name (i := 10) scEx.nd rfl (.inl rfl)) (pgs_cons (pg_name (i := 11) scEx.nd rfl (.inl rfl)) pgs_nil))))
      (pss_cons (ps_for PassesOwn.never rfl (pi_list (pe_slice sl_list (pv 4) (po_some pe_int) po_none)) (pg_name (i := 7) scEx.nd rfl (.inl rfl)) (pss_cons (ps_asg (pe_meth (pv 0) cT msp Gsp hr1 bsp .nil pass0 (pa_cons (pv 7) pa_nil)) (pg_tup rfl (pgs_cons (pg_name (i := 12) scEx.nd rfl (.inl rfl)) (pgs_cons (pg_name (i := 13) scEx.nd rfl (.inl rfl)) pgs_nil))))
      (pss_cons (ps_set (i := 10) scEx.nd rfl (.inl rfl) (pe_call GPw hr3 (by rfl) gPw kPw bPw .nil pass0 (pa_cons (pv 1) (pa_cons (pe_tup (pa_cons (pv 10) (pa_cons (pv 12) pa_nil))) (pa_cons (pe_tup pa_nil) pa_nil)))))
      (pss_one (ps_set (i := 11) scEx.nd rfl (.inl rfl) (pe_call GPw hr3 (by rfl) gPw kPw bPw .nil pass0 (pa_cons (pv 1) (pa_cons (pe_tup (pa_cons (pv 11) (pa_cons (pv 13) pa_nil))) (pa_cons (pe_tup pa_nil) pa_nil)))))))))
      (pss_one (ps_ret (pe_tup (pa_cons (pe_tup (pa_cons (pv 1) (pa_cons (pe_callTy call_tuple_ofF (by rfl) T.tuple (by decide +kernel) (pa_cons (pv 4) pa_nil)) (pa_cons (pe_tup pa_nil) pa_nil)))) (pa_cons (pv 10) (pa_cons (pv 11) pa_nil)))))))))))))), ?_⟩
    have kar : k.ar = 2 := by rcases hk with rfl | rfl <;> rfl
    have kis : k.is = [] := by rcases hk with rfl | rfl <;> rfl
    have kbc : ∀ xs : List Int, BkC k xs := fun xs => by rcases hk with rfl | rfl <;> trivial
    have kmk : mkForm Tb k [i, j] = ((joined Tb k (memb Tb k i ++ memb Tb k j)).1, extF (joined Tb k (memb Tb k i ++ memb Tb k j)).1 k (sortS (joined Tb k (memb Tb k i ++ memb Tb k j)).2)) := by rcases hk with rfl | rfl <;> rfl
    rw [kmk] at q
    obtain ⟨a1, a2, a3, a4⟩ := memb_ok W hk hi.1
    obtain ⟨b1, b2, b3, b4⟩ := memb_ok W hk hj.1
    have l1 := memb_len W hk hi.1
    have l2 := memb_len W hk hj.1
    have J := joined_ok W hk (mem := memb Tb k i ++ memb Tb k j) (fun m hm => by
      rcases List.mem_append.mp hm with h | h
      · exact a1 m h
      · exact b1 m h) (by simp [a2]) (by rw [List.filter_append, List.length_append]; omega)
    have hmem : ∀ m ∈ memb Tb k i ++ memb Tb k j, m < Tb.fs.length := fun m hm => by
      rcases List.mem_append.mp hm with h | h
      · exact a1 m h
      · exact b1 m h
    have hnum : ((memb Tb k i ++ memb Tb k j).filter (isNum Tb)).length ≤ 2 := by rw [List.filter_append, List.length_append]; omega
    have hmlen : (memb Tb k i ++ memb Tb k j).length ≤ 120 := by rw [List.length_append]; omega
    have notL : ∀ {Hx : Hp} {p : Addr}, Same H Hx → Hx p = none → p ∉ L.l := fun {Hx p} sx np hm => by
      obtain ⟨⟨o, ho⟩, _⟩ := h2.noT p hm
      have := sx _ _ ho
      rw [np] at this
      cases this
    refine ⟨Nat.zero_le _, fun pM npM => ?_⟩
    have s0 : Same H (upd H pM (.lst [])) := same_upd npM
    refine ⟨_, rfl, pi, rfl, ⟨_, sqT_same hpi s0⟩, for_tup (K := K) (a := pi) (xs := (asInts [i, j]).map V.int) (fun m σ H' => Same H H' ∧ (∃ v5 v6, σ = [some (.ref t), some (.str k.nm), some (.ref pi), some (.ref pc), some (.ref pM), v5, v6, none, none, none, none, none, none, none]) ∧ H' pM = some (.lst ((asInts (([i, j].take m).flatMap (memb Tb k))).map V.int)))
      ⟨s0, ⟨none, none, rfl⟩, upd_same⟩ (fun m σ H' _ h => sqT_same hpi h.1) ?_ ?_⟩
    · rintro m x σ H1 hx ⟨s1, ⟨v5, v6, rfl⟩, hM⟩
      obtain ⟨u, rfl, hu⟩ := nat_item hx
      have um : u ∈ [i, j] := List.mem_of_getElem? hu
      have ul := (hin u um).1
      have lm := memb_len W hk ul
      have eT : ([i, j].take (m + 1)).flatMap (memb Tb k) = ([i, j].take m).flatMap (memb Tb k) ++ memb Tb k u := by
        rw [take_snoc hu, List.flatMap_append]
        simp
      have lf : (([i, j].take m).flatMap (memb Tb k)).length ≤ 300 := by
        match m, hu with
        | 0, _ => exact Nat.zero_le _
        | 1, _ =>
          show ([i].flatMap (memb Tb k)).length ≤ 300
          simp
          omega
      have eA : ∀ l l' : List Nat, (asInts (l ++ l')).map V.int = (asInts l).map V.int ++ (asInts l').map V.int := fun l l' => by
        unfold asInts
        rw [List.map_append, List.map_append]
      refine ⟨_, rfl, t, dx, _, rfl, s1 _ _ h1, rfl, _, rfl, t, L, Tb, u, rfl, hT.same s1, ul, fun pf hf => ?_⟩
      obtain ⟨rest, hh⟩ := fm_head hf
      refine ⟨_, rfl, .inl ⟨rfl, _, SqL.of hM⟩, _, rfl, pf, _, (0 : Nat), _, rfl, rfl, hh, i0, _, rfl, rfl, _, rfl, ?_⟩
      by_cases e : fmN (Tb.fm u) = k.nm
      · obtain ⟨is, e1, e2⟩ := memb_eq hk e
        rw [e1] at hf
        obtain ⟨ax, cx, g1, g2, g3, g4⟩ := hf
        refine iteTd (decide_eq_true (by rw [e])) ?_
        refine ⟨_, rfl, pf, _, (1 : Nat), _, rfl, rfl, g1, i1, pM, ax, _, _, rfl, rfl, hM, g2, (g3 hk).noD, ?_, ?_⟩
        · rw [e2] at lm
          rw [List.length_map, List.length_map, asInts, asInts, List.length_map, List.length_map]
          exact Nat.le_of_lt (lt900 (by omega))
        · rw [eT, e2, eA]
          exact ⟨fun b o e => by rw [upd_ne (ne_of_none e npM)]; exact s1 _ _ e, ⟨_, _, rfl⟩, upd_same⟩
      · refine iteFd (decide_eq_false fun z => e (V.str.inj z)) ?_
        refine ⟨_, rfl, by show 1 ≤ sizeLine; decide, fun pq o npq pln => ?_⟩
        have sq := same_upd (o := .frz o (.tup [.int (u : Int)])) npq
        have hp2 : TupP (upd H1 pq (.frz o (.tup [.int (u : Int)]))) pq [.int (u : Int)] := ⟨o, pln, upd_same⟩
        refine ⟨pM, pq, _, _, rfl, rfl, sq _ _ hM, hp2.sq, hp2.noD, ?_, ?_⟩
        · rw [List.length_map, asInts, List.length_map]
          exact Nat.le_of_lt (lt900 (by show _ + 1 ≤ _; omega))
        · rw [eT, memb_ne e, eA]
          exact ⟨fun b o e => by rw [upd_ne (ne_of_none e npM)]; exact sq _ _ (s1 _ _ e), ⟨_, _, rfl⟩, upd_same⟩
    rintro σ H1 ⟨s1, ⟨v5, v6, rfl⟩, hM⟩
    have eM : ([i, j].take ((asInts [i, j]).map V.int).length).flatMap (memb Tb k) = memb Tb k i ++ memb Tb k j := by
      show [i, j].flatMap (memb Tb k) = _
      simp
    rw [eM] at hM
    generalize memb Tb k i ++ memb Tb k j = mem at *
    have lmi : ((asInts mem).map V.int).length = mem.length := by rw [List.length_map, asInts, List.length_map]
    refine ⟨_, rfl, pM, rfl, ⟨_, SqL.of hM⟩, fun D nD => lc_list (K := K) (a := pM) (xs := (asInts mem).map V.int) (fun m H' => Same H1 H' ∧ H' D = some (.lst ((asInts ((mem.take m).filter (isNum Tb))).map V.int)))
      ⟨same_upd nD, upd_same⟩ (fun m H' _ h => SqL.of (h.1 _ _ hM)) ?_ ?_⟩
    · rintro m x H2 hx ⟨s2, hD⟩
      obtain ⟨u, rfl, hu⟩ := nat_item hx
      have ul := hmem u (List.mem_of_getElem? hu)
      have s02 := Same.trans s1 s2
      refine ⟨rfl, ?_⟩
      refine ⟨_, rfl, t, dx, _, rfl, s02 _ _ h1, rfl, _, rfl, t, L, Tb, u, rfl, hT.same s02, ul, fun pf hf => ?_⟩
      obtain ⟨rest, hh⟩ := fm_head hf
      refine ⟨pf, _, (0 : Nat), _, rfl, rfl, hh, i0, rfl, _, rfl, ?_⟩
      by_cases e : isNum Tb u = true
      · refine iteTd (decide_eq_true (by rw [isNum_nm.mpr e])) ?_
        refine ⟨_, rfl, _, hD, ?_, ?_, ?_⟩
        · rw [List.length_map, asInts, List.length_map]
          exact lt900 (Nat.le_trans (List.length_filter_le _ _) (by rw [List.length_take]; omega))
        · exact fun b o e => by rw [upd_ne (ne_of_none e nD)]; exact s2 _ _ e
        · rw [upd_same, take_snoc hu, List.filter_append, List.filter_cons_of_pos e]
          unfold asInts
          rw [List.map_append, List.map_append]
          rfl
      · refine iteFd (decide_eq_false fun z => e (isNum_nm.mp (V.str.inj z))) ⟨s2, ?_⟩
        rw [take_snoc hu, List.filter_append, List.filter_cons_of_neg e, List.filter_nil, List.append_nil]
        exact hD
    rintro H2 ⟨s2, hD⟩
    rw [lmi, List.take_length] at hD
    have s02 := Same.trans s1 s2
    have hM2 := s2 _ _ hM
    refine ⟨fun σ' H' => ∃ (pN : Addr) (v5 v6 v7 v8 v9 : Option V), σ' = [some (.ref t), some (.str k.nm), some (.ref pi), some (.ref pc), some (.ref pN), v5, v6, v7, v8, v9, none, none, none, none] ∧ Keep L.l H H' ∧ TabAt P w K aT H' t L (joined Tb k mem).1 ∧ H' pN = some (.lst ((asInts (joined Tb k mem).2).map V.int)), ?_, ?_⟩
    · refine ⟨_, rfl, D, _, rfl, .inl (SqL.of hD), _, _, rfl, rfl, _, rfl, ?_⟩
      have lD : ((asInts (mem.filter (isNum Tb))).map V.int).length = (mem.filter (isNum Tb)).length := by rw [List.length_map, asInts, List.length_map]
      rw [lD]
      unfold joined
      by_cases e : 1 < (mem.filter (isNum Tb)).length
      · rw [if_pos e]
        refine iteTd (decide_eq_true (by omega)) ?_
        obtain ⟨x, y, hxy⟩ : ∃ x y, mem.filter (isNum Tb) = [x, y] := by
          match e3 : mem.filter (isNum Tb), hnum, e with
          | [x, y], _, _ => exact ⟨x, y, rfl⟩
          | [], _, h => exact absurd h (by simp)
          | [_], _, h => exact absurd h (by simp)
          | _ :: _ :: _ :: _, h, _ => exact absurd h (by simp)
        have notin : ∀ u ∈ mem, decide (u ∈ mem.filter (isNum Tb)) = isNum Tb u := fun u hu => by
          cases hb : isNum Tb u with
          | true => exact decide_eq_true (List.mem_filter.mpr ⟨hu, hb⟩)
          | false =>
            refine decide_eq_false fun z => ?_
            have := (List.mem_filter.mp z).2
            rw [hb] at this
            cases this
        have nlt : ∀ u ∈ mem.filter (isNum Tb), u < Tb.fs.length ∧ Tb.fm u = .num (numOf Tb u) := fun u hu => ⟨hmem u (List.mem_filter.mp hu).1, isNum_eq (List.mem_filter.mp hu).2⟩
        refine ⟨_, rfl, pM, rfl, ⟨_, SqL.of hM2⟩, fun D2 nD2 => lc_list (K := K) (a := pM) (xs := (asInts mem).map V.int) (fun m H' => Same H2 H' ∧ H' D2 = some (.lst ((asInts ((mem.take m).filter (fun z => !isNum Tb z))).map V.int)))
          ⟨same_upd nD2, upd_same⟩ (fun m H' _ h => SqL.of (h.1 _ _ hM2)) ?_ ?_⟩
        · rintro m x H3 hx ⟨s3, hD2⟩
          obtain ⟨u, rfl, hu⟩ := nat_item hx
          have um := List.mem_of_getElem? hu
          refine ⟨rfl, ?_⟩
          refine ⟨_, rfl, _, rfl, D, _, rfl, .inl (SqL.of (s3 _ _ hD)), rfl, ints_flat _, _, rfl, ?_⟩
          show if (!inV (V.int (u : Int)) ((asInts (mem.filter (isNum Tb))).map V.int)) = true then _ else _
          rw [inV_ints, notin u um]
          cases hb : isNum Tb u with
          | false =>
            refine iteTd rfl ?_
            refine ⟨_, rfl, _, hD2, ?_, ?_, ?_⟩
            · rw [List.length_map, asInts, List.length_map]
              exact lt900 (Nat.le_trans (List.length_filter_le _ _) (by rw [List.length_take]; omega))
            · exact fun b o e => by rw [upd_ne (ne_of_none e nD2)]; exact s3 _ _ e
            · rw [upd_same, take_snoc hu, List.filter_append, List.filter_cons_of_pos (by rw [hb]; rfl)]
              unfold asInts
              rw [List.map_append, List.map_append]
              rfl
          | true =>
            refine iteFd rfl ⟨s3, ?_⟩
            rw [take_snoc hu, List.filter_append, List.filter_cons_of_neg (by rw [hb]; exact Bool.false_ne_true), List.filter_nil, List.append_nil]
            exact hD2
        rintro H3 ⟨s3, hD2⟩
        rw [lmi, List.take_length] at hD2
        have s03 := Same.trans s02 s3
        have hD3 := s3 _ _ hD
        have nD2H : H2 D2 = none := nD2
        have tD2 : t ≠ D2 := fun z => by
          have := s02 _ _ h1
          rw [z, nD2H] at this
          cases this
        have lD2 : D2 ∉ L.l := notL s02 nD2H
        refine ⟨_, rfl, D, rfl, ⟨_, SqL.of hD3⟩, fun D3 nD3 => lc_list (K := K) (a := D) (xs := (asInts (mem.filter (isNum Tb))).map V.int) (fun m H' => Same H3 H' ∧ H' D3 = some (.lst ((((mem.filter (isNum Tb)).take m).map (numOf Tb)).map V.int)))
          ⟨same_upd nD3, upd_same⟩ (fun m H' _ h => SqL.of (h.1 _ _ hD3)) ?_ ?_⟩
        · rintro m x H4 hx ⟨s4, hD3'⟩
          obtain ⟨u, rfl, hu⟩ := nat_item hx
          obtain ⟨ul, en⟩ := nlt u (List.mem_of_getElem? hu)
          have s04 := Same.trans s03 s4
          refine ⟨rfl, ?_⟩
          unfold tYes
          dsimp only
          rw [if_pos rfl]
          refine ⟨_, rfl, t, dx, _, rfl, s04 _ _ h1, rfl, _, rfl, t, L, Tb, u, rfl, hT.same s04, ul, fun pf hf => ?_⟩
          rw [en] at hf
          refine ⟨pf, _, (1 : Nat), _, rfl, rfl, hf, i1, _, hD3', ?_, ?_, ?_⟩
          · rw [List.length_map, List.length_map, List.length_take]
            exact lt900 (by omega)
          · exact fun b o e => by rw [upd_ne (ne_of_none e nD3)]; exact s4 _ _ e
          · rw [upd_same, take_snoc hu, List.map_append, List.map_append]
            rfl
        rintro H4 ⟨s4, hD3'⟩
        rw [lD, List.take_length, hxy] at hD3'
        rw [hxy]
        refine ⟨D3, _, rfl, SqL.of hD3', fun pe o npe pln => ?_⟩
        have se := same_upd (o := .frz o (.tup (([x, y].map (numOf Tb)).map V.int))) npe
        have hpe : SqT K (upd H4 pe (.frz o (.tup (([x, y].map (numOf Tb)).map V.int)))) pe ([numOf Tb x, numOf Tb y].map V.int) := .inl (.inr ⟨o, upd_same⟩)
        have s35 := Same.trans s4 se
        generalize upd H4 pe (.frz o (.tup (([x, y].map (numOf Tb)).map V.int))) = H5 at *
        have s05 := Same.trans s03 s35
        refine ⟨_, rfl, .inl ⟨rfl, _, SqL.of (s35 _ _ hD2)⟩, _, rfl, t, dx, _, rfl, s05 _ _ h1, rfl, _, rfl, _, rfl, by show 0 ≤ sizeLine; decide, fun pz npz => ?_⟩
        have sz := same_upd (o := .tup []) npz
        have s06 := Same.trans s05 sz
        refine ⟨k, pe, pz, [numOf Tb x, numOf Tb y], rfl, sqT_same hpe sz, by rw [kis]; exact SqT.of upd_same, by rw [kar]; rfl, kbc _, ?_⟩
        refine ⟨t, L, Tb, _, rfl, hT.same s06, wf_pl W, W.len, by omega, fun H6 k6 hT6 => ?_⟩
        have hD26 : H6 D2 = some (.lst ((asInts (mem.filter (fun z => !isNum Tb z))).map V.int)) := k6 _ _ lD2 (sz _ _ (s35 _ _ hD2))
        refine ⟨D2, _, _, rfl, rfl, hD26, ?_, ?_⟩
        · rw [List.length_map, asInts, List.length_map]
          exact lt900 (Nat.le_trans (List.length_filter_le _ _) (by omega))
        · have kD : Keep [D2] H6 (upd H6 D2 (.lst ((asInts (mem.filter (fun z => !isNum Tb z))).map V.int ++ [.int ((numberT Tb (ptK k [numOf Tb x, numOf Tb y])).2 : Int)]))) := fun b o n e => by
            rw [upd_ne (fun z => n (by rw [z]; exact List.mem_cons_self))]
            exact e
          have ktD : KT H6 (upd H6 D2 (.lst ((asInts (mem.filter (fun z => !isNum Tb z))).map V.int ++ [.int ((numberT Tb (ptK k [numOf Tb x, numOf Tb y])).2 : Int)]))) := fun b o io e => by
            rw [upd_ne (fun z => by rw [z, hD26] at e; cases e; exact io)]
            exact e
          refine ⟨D2, _, _, _, _, _, rfl, fun b o n e => ?_, hT6.keep kD ktD (fun b hb => by rw [List.mem_singleton.mp hb]; exact ⟨Ne.symm tD2, lD2⟩), ?_⟩
          · have e6 := k6 b o n (s06 _ _ e)
            rw [upd_ne (fun z => by
              have := s02 _ _ e
              rw [z, nD2H] at this
              cases this)]
            exact e6
          · rw [upd_same]
            unfold asInts
            rw [List.map_append, List.map_append]
            rfl
      · rw [if_neg e]
        refine iteFd (decide_eq_false (by omega)) ?_
        exact ⟨pM, _, _, _, _, _, rfl, Same.keeps s02, hT.same s02, hM2⟩
    · clear hD hM2
      rintro σ H3 ⟨pN, v5', v6', v7', v8', v9', rfl, k3, hT3, hN⟩
      have hJl := J.lt
      have hJn := J.ne
      have hJ1 := J.one
      have W1 := J.wf
      have hJs := J.ext
      have hJlen : (joined Tb k mem).2.length ≤ 1000 := by
        unfold joined
        split
        · rw [List.length_append, List.length_singleton]
          have := List.length_filter_le (fun m => !isNum Tb m) mem
          omega
        · show mem.length ≤ 1000
          omega
      generalize joined Tb k mem = R at *
      obtain ⟨⟨dx3, h13⟩, _⟩ := id hT3
      have h61 : R.1.fs.length ≤ 61 := by omega
      have lm2 : R.2.length ≤ 1000 ∨ True := .inr trivial
      refine ⟨_, rfl, pN, asInts R.2, rfl, SqL.of hN, by rw [asInts, List.length_map]; exact hJlen, fun ps n ⟨ks, ks1, ks2, ks3⟩ nps => ?_⟩
      have hn64 : n < 64 := by
        have := few_ints ks1 ks3 hJl
        omega
      refine ⟨ps, _, n, rfl, upd_same, hn64, fun ns pS srt hm hl npS => ?_⟩
      have ens := sorted_set_is srt hm
      subst ens
      have sA := same_upd (o := SetO w ps (fun z => decide (z ∈ asInts R.2)) n) nps
      have sB := same_upd (o := .lst ((asInts (sortS R.2)).map V.int)) npS
      have sAB := Same.trans sA sB
      have hS : (upd (upd H3 ps (SetO w ps (fun z => decide (z ∈ asInts R.2)) n)) pS (.lst ((asInts (sortS R.2)).map V.int))) pS = some (.lst ((asInts (sortS R.2)).map V.int)) := upd_same
      generalize upd (upd H3 ps (SetO w ps (fun z => decide (z ∈ asInts R.2)) n)) pS (.lst ((asInts (sortS R.2)).map V.int)) = H4 at *
      have hlt : ∀ m ∈ sortS R.2, m < R.1.fs.length := fun m hm => hJl m (sortS_mem.mp hm)
      have hne := sortS_ne hJn
      have hnd : (sortS R.2).length ≤ R.1.fs.length := nodup_lt ((sortS_sorted R.2).imp fun h => Nat.ne_of_lt h) hlt
      have kp : Keep L.l H H4 := k3.trans (Same.keeps sAB)
      have hT4 := hT3.same sAB
      have h14 := sAB _ _ h13
      refine ⟨_, rfl, pS, _, rfl, .inl (SqL.of hS), rfl, _, rfl, ?_⟩
      generalize sortS R.2 = M2 at *
      match M2, hne, hlt, hS, q, hnd with
      | [m], _, hlt, hS, q, _ =>
        refine iteTd (decide_eq_true rfl) ?_
        refine ⟨_, rfl, _, rfl, pS, _, (0 : Nat), _, rfl, rfl, SqL.of hS, i0, t, L, R.1, m, rfl, hT4, ⟨hlt m List.mem_cons_self, W1.len⟩, fun H' x s h => q H' x (kp.trans (Same.keeps s)) (hT4.same s) h⟩
      | m :: m' :: r, _, hlt, hS, q, hnd =>
        refine iteFd (decide_eq_false fun z => by
          have := V.int.inj z
          rw [List.length_map, asInts, List.length_map, List.length_cons, List.length_cons] at this
          omega) ?_
        have hm0 := hlt m List.mem_cons_self
        refine ⟨_, rfl, t, dx3, _, rfl, h14, rfl, _, rfl, pS, _, (0 : Nat), _, rfl, rfl, SqL.of hS, i0, t, L, R.1, m, rfl, hT4, by rw [W1.len]; exact hm0, fun q1 hq1 => ?_⟩
        refine ⟨q1, _, rfl, hq1, rfl, _, _, rfl, _, _, rfl, rfl, ?_⟩
        refine ⟨_, rfl, _, rfl, pS, _, rfl, SqL.of hS, fun pC npC => ?_⟩
        have eC : cutV ((asInts (m :: m' :: r)).map V.int) (some 1) none = (asInts (m' :: r)).map V.int := cutV_from _ 1
        rw [eC]
        have sC := same_upd (o := .lst ((asInts (m' :: r)).map V.int)) npC
        have hC : upd H4 pC (.lst ((asInts (m' :: r)).map V.int)) pC = some (.lst ((asInts (m' :: r)).map V.int)) := upd_same
        generalize upd H4 pC (.lst ((asInts (m' :: r)).map V.int)) = H5 at *
        refine ⟨pC, rfl, ⟨_, SqL.of hC⟩, for_list (K := K) (a := pC) (xs := (asInts (m' :: r)).map V.int) (fun z σ H' => Same H5 H' ∧ ∃ v7 v12 v13 : Option V, σ = [some (.ref t), some (.str k.nm), some (.ref pi), some (.ref pc), some (.ref pS), v5', v6', v7, v8', v9', some (.int (foldK k R.1.lo (R.1.lo m) ((m' :: r).take z))), some (.int (foldK k R.1.hi (R.1.hi m) ((m' :: r).take z))), v12, v13])
          ⟨Same.refl _, v7', none, none, rfl⟩ (fun z σ H' _ h => SqL.of (h.1 _ _ hC)) ?_ ?_⟩
        · rintro z x σ H6 hx ⟨s6, v7, v12, v13, rfl⟩
          obtain ⟨u, rfl, hu⟩ := nat_item hx
          have ul := hlt u (List.mem_cons_of_mem _ (List.mem_of_getElem? hu))
          have s46 := Same.trans sC s6
          refine ⟨_, rfl, t, dx3, _, rfl, s46 _ _ h14, rfl, _, rfl, t, L, R.1, u, rfl, hT4.same s46, by rw [W1.len]; exact ul, fun q2 hq2 => ?_⟩
          refine ⟨q2, _, rfl, hq2, rfl, _, _, rfl, _, _, rfl, rfl, ?_⟩
          refine ⟨_, rfl, _, rfl, _, rfl, two_line, fun pa npa => ⟨by show 0 ≤ sizeLine; decide, fun pz npz => ?_⟩⟩
          have t1 := same_upd (o := .tup [.int (foldK k R.1.lo (R.1.lo m) ((m' :: r).take z)), .int (R.1.lo u)]) npa
          have t2 := same_upd (o := .tup []) npz
          refine ⟨k, pa, pz, [foldK k R.1.lo (R.1.lo m) ((m' :: r).take z), R.1.lo u], rfl, SqT.of (t2 _ _ upd_same), by rw [kis]; exact SqT.of upd_same, by rw [kar]; rfl, kbc _, ?_⟩
          have t12 := Same.trans t1 t2
          generalize upd (upd H6 pa (.tup [.int (foldK k R.1.lo (R.1.lo m) ((m' :: r).take z)), .int (R.1.lo u)])) pz (.tup []) = H7 at *
          refine ⟨_, rfl, _, rfl, _, rfl, two_line, fun pa2 npa2 => ⟨by show 0 ≤ sizeLine; decide, fun pz2 npz2 => ?_⟩⟩
          have t3 := same_upd (o := .tup [.int (foldK k R.1.hi (R.1.hi m) ((m' :: r).take z)), .int (R.1.hi u)]) npa2
          have t4 := same_upd (o := .tup []) npz2
          refine ⟨k, pa2, pz2, [foldK k R.1.hi (R.1.hi m) ((m' :: r).take z), R.1.hi u], rfl, SqT.of (t4 _ _ upd_same), by rw [kis]; exact SqT.of upd_same, by rw [kar]; rfl, kbc _, ?_⟩
          refine ⟨Same.trans s6 (Same.trans t12 (Same.trans t3 t4)), some (.int (u : Int)), some (.int (R.1.lo u)), some (.int (R.1.hi u)), ?_⟩
          rw [take_snoc hu, foldK_snoc, foldK_snoc]
          rfl
        · rintro σ H6 ⟨s6, v7, v12, v13, rfl⟩
          rw [show ((asInts (m' :: r)).map V.int).length = (m' :: r).length by rw [List.length_map, asInts, List.length_map], List.take_length]
          have s46 := Same.trans sC s6
          refine ⟨_, rfl, _, rfl, pS, _, rfl, SqL.of (s46 _ _ hS), fun pt o npt pln => ⟨by show 0 ≤ sizeLine; decide, fun pz npz => ⟨by show 3 ≤ sizeLine; decide, fun pf npf => ⟨_, rfl, _, rfl, by show 3 ≤ sizeLine; decide, fun p3 np3 => ?_⟩⟩⟩⟩
          have t1 := same_upd (o := .frz o (.tup ((asInts (m :: m' :: r)).map V.int))) npt
          have hpt : TupP (upd H6 pt (.frz o (.tup ((asInts (m :: m' :: r)).map V.int)))) pt ((asInts (m :: m' :: r)).map V.int) := ⟨o, pln, upd_same⟩
          generalize upd H6 pt (.frz o (.tup ((asInts (m :: m' :: r)).map V.int))) = H7 at *
          have t2 := same_upd (o := .tup []) npz
          obtain ⟨s3', tr⟩ := trip_new (K := K) (k := k) (ids := m :: m' :: r) (same_upd npf) upd_same np3 (sqT_same hpt.sq t2) (fun _ => hpt.kt (Same.kt t2)) (by rw [kis]; exact SqT.of upd_same)
          have all := Same.trans s46 (Same.trans t1 (Same.trans t2 s3'))
          exact q _ p3 (kp.trans (Same.keeps all)) (hT4.same all) tr
end

section
variable {P : Program} {w : World} {K : PySem.W.Frag} {mg : Str → Option Value} {base : Heap} {aT aM aQ : Addr}
abbrev TKI : List Str := ["table", "kind", "ids", "info"]
def MakF (P : Program) (w : World) (K : PySem.W.Frag) (mg : Str → Option Value) (base : Heap) (aQ : Addr) (kind : Str) (sp : Sp) : Prop :=
  ∃ (f : Addr) (fd : FuncData), FnOk P w K mg base CX0 5 f fd TKI sp ∧ PySem.W.keepIn K (.ref f) = true ∧ Binds K fd TKI [] ∧ KDct K w aQ kind (.ref f)
structure TfT (P : Program) (w : World) (K : PySem.W.Frag) (mg : Str → Option Value) (base : Heap) (aT aQ : Addr) : Prop where
  «add» : MakF P w K mg base aQ "add" (spMF P w K aT (fun k => k = .add))
  «sub» : MakF P w K mg base aQ "sub" (spMF P w K aT (fun k => k = .sub))
  «mul» : MakF P w K mg base aQ "mul" (spMF P w K aT (fun k => k = .mul))
  «max» : MakF P w K mg base aQ "max" (spMF P w K aT isEx)
  «min» : MakF P w K mg base aQ "min" (spMF P w K aT isEx)
  «less» : MakF P w K mg base aQ "less" (spMF P w K aT (fun k => k = .less))
  «equal» : MakF P w K mg base aQ "equal" (spMF P w K aT (fun k => k = .equal))
  «neg» : MakF P w K mg base aQ "neg" (spMF P w K aT (fun k => k = .neg))
  «clamp» : MakF P w K mg base aQ "clamp" (spMF P w K aT (fun k => ∃ l h, k = .clamp l h))
  «shift» : MakF P w K mg base aQ "shift" (spMF P w K aT (fun k => ∃ n, k = .shift n))
  «where» : MakF P w K mg base aQ "where" (spMF P w K aT (fun k => k = .wher))
def MfPre (P : Program) (w : World) (K : PySem.W.Frag) (aT : Addr) (k : Bk) (t pi pc : Addr) (H : Hp) (Q : VK) : Prop := ∃ (L : Own) (T : Tb) (ids : List Nat) (b : Nat), MkPre P w K aT H t pi pc L T k ids b ∧
  ∀ H' x, Keep L.l H H' → TabAt P w K aT H' t L (mkForm T k ids).1 → Trip K H' x (mkForm T k ids).2 → Q (.ref x) H'
theorem tf_link (M : TfT P w K mg base aT aQ) {k : Bk} {t pi pc : Addr} {H : Hp} {Q : VK} (h : MfPre P w K aT k t pi pc H Q) : ∃ sp, MakF P w K mg base aQ k.nm sp ∧ sp [.ref t, .str k.nm, .ref pi, .ref pc] H Q E0 := by
  obtain ⟨L, T, ids, b, pre, q⟩ := h
  cases k with
    | add => exact ⟨_, M.«add», t, pi, pc, L, T, _, ids, b, rfl, rfl, pre, q⟩
    | sub => exact ⟨_, M.«sub», t, pi, pc, L, T, _, ids, b, rfl, rfl, pre, q⟩
    | mul => exact ⟨_, M.«mul», t, pi, pc, L, T, _, ids, b, rfl, rfl, pre, q⟩
    | max => exact ⟨_, M.«max», t, pi, pc, L, T, _, ids, b, rfl, .inl rfl, pre, q⟩
    | min => exact ⟨_, M.«min», t, pi, pc, L, T, _, ids, b, rfl, .inr rfl, pre, q⟩
    | less => exact ⟨_, M.«less», t, pi, pc, L, T, _, ids, b, rfl, rfl, pre, q⟩
    | equal => exact ⟨_, M.«equal», t, pi, pc, L, T, _, ids, b, rfl, rfl, pre, q⟩
    | neg => exact ⟨_, M.«neg», t, pi, pc, L, T, _, ids, b, rfl, rfl, pre, q⟩
    | clamp l h => exact ⟨_, M.«clamp», t, pi, pc, L, T, _, ids, b, rfl, ⟨l, h, rfl⟩, pre, q⟩
    | shift n => exact ⟨_, M.«shift», t, pi, pc, L, T, _, ids, b, rfl, ⟨n, rfl⟩, pre, q⟩
    | wher => exact ⟨_, M.«where», t, pi, pc, L, T, _, ids, b, rfl, rfl, pre, q⟩
theorem scMf : FnScope ["table", "kind", "ids", "info", "maker"] ["table", "kind", "ids", "info"] (defScope smade_form) := ⟨rfl, rfl, rfl, by decide +kernel, rfl, by decide +kernel, by decide +kernel⟩
theorem ok_made {f : Addr} {fd : FuncData} (F : Fun K "made_form" "made_form" smade_form f fd) (gQ : mg "MAKERS_term_forms" = some (.ref aQ)) (M : TfT P w K mg base aT aQ) : FnOk P w K mg base CX0 6 f fd ["table", "kind", "ids", "info"] (spMF P w K aT (fun _ => True)) := by
  refine F.ok scMf (fun vs H Q E h => ?_) (fun cdv A outer s H vs Q E hr h => ?_)
  · obtain ⟨_, _, _, _, _, _, _, _, rfl, _⟩ := h
    rfl
  · obtain ⟨t, pi, pc, L, T, k, ids, b, rfl, _, pre, q⟩ := h
    obtain ⟨sp, ⟨fm, fdm, G, km, bm, kd⟩, q⟩ := tf_link M ⟨L, T, ids, b, pre, q⟩
    refine ⟨_, pss_cons (ps_set (i := 4) scMf.nd rfl (.inl rfl) (pe_ix ix_kdict (pe_glob (v := .ref aQ) (by rfl) gQ rfl) (pv 1) (fun _ _ => rfl)))
      (pss_one (ps_ret (pe_callL (i := 4) (f := fm) (sp := sp) (dvs := []) (E := E0) G hr rfl (Or.inl rfl) km bm .nil pass0 (pa_cons (pv 0) (pa_cons (pv 1) (pa_cons (pv 2) (pa_cons (pv 3) pa_nil))))))), ?_⟩
    exact ⟨_, rfl, aQ, k.nm, _, rfl, rfl, kd, rfl, _, rfl, _, rfl, _, rfl, _, rfl, q⟩
def spTw : Sp := fun vs H Q _ => ∃ n : Int, vs = [.int n] ∧ Bg 10000 n ∧ Q (.bl false) H
abbrev nTw : List Str := ["n"]
theorem scTw : FnScope nTw ["n"] (defScope sis_too_wide) := ⟨rfl, rfl, rfl, by decide +kernel, rfl, by decide +kernel, by decide +kernel⟩
abbrev nmk : List Str := ["self", "kind", "ids", "info", "wanted", "form", "low", "high"]
theorem scmk : FnScope nmk ["self", "kind", "ids", "info"] (defScope sMmake) := ⟨rfl, rfl, rfl, by decide +kernel, rfl, by decide +kernel, by decide +kernel⟩
theorem ok_tw {f : Addr} {fd : FuncData} (F : Fun K "is_too_wide" "is_too_wide" sis_too_wide f fd) (T : TxtM mg) (lV : ∃ u, mg "VALUE_LIMIT" = some u ∧ RelV (.int 20000) u) : FnOk P w K mg base CX0 1 f fd ["n"] spTw := by
  obtain ⟨uV, glV, rlV⟩ := lV
  refine F.ok scTw (fun vs H Q E h => ?_) (fun cdv A outer s H vs Q E hr h => ?_)
  · obtain ⟨_, rfl, _⟩ := h
    rfl
  · obtain ⟨n, rfl, hn, q⟩ := h
    refine ⟨_, (pss_one (ps_ret (pe_and (pe_cmpR op_gt (pe_bits (pv 0)) (pe_glob (v := (.int 20000)) (by rfl) glV rlV) (nomark _)) (pe_one (pe_cmpR op_ne (pe_callB call_abs (by rfl) T.abs (by decide +kernel) (pa_cons (pv 0) pa_nil)) (pe_op op_shl pe_int (pe_glob (v := (.int 20000)) (by rfl) glV rlV)) (nomark _)))))), ?_⟩
    have hb : Builtin.Int.intBits n ≤ 10000 := by
      unfold Builtin.Int.intBits
      split
      · omega
      · rename_i h0
        have h1 : n.natAbs ≠ 0 := fun z => h0 (by rw [Int.natAbs_eq_zero.mp z]; rfl)
        have := (Nat.log2_lt h1).mpr hn
        omega
    refine ⟨_, rfl, n, rfl, _, _, rfl, rfl, _, rfl, iteFd (decide_eq_false (by omega)) q⟩
def spMakeT (P : Program) (w : World) (K : PySem.W.Frag) (aT : Addr) : Sp := fun vs H Q _ => ∃ (t pi pc : Addr) (L : Own) (T : Tb) (k : Bk) (ids : List Nat) (b : Nat), vs = [.ref t, .str k.nm, .ref pi, .ref pc] ∧ MkPre P w K aT H t pi pc L T k ids b ∧ T.md.length ≤ 900 ∧
  ∀ H', Keep L.l H H' → TabAt P w K aT H' t L (makeT T k ids).1 → Q (.int ((makeT T k ids).2 : Int)) H'
theorem lookup_snoc {α β : Type} [BEq α] [LawfulBEq α] {a : α} {x : β} : ∀ {l : List (α × β)}, l.lookup a = none → (l ++ [(a, x)]).lookup a = some x
  | [], _ => by rw [List.nil_append, List.lookup_cons, beq_self_eq_true]
  | (c, y) :: l, h => by
    rw [List.lookup_cons] at h
    rw [List.cons_append, List.lookup_cons]
    cases e : a == c with
    | true => rw [e] at h; cases h
    | false => rw [e] at h; exact lookup_snoc h
theorem ok_mkT {f : Addr} {fd : FuncData} (F : Fun K "make" "Terms.make" sMmake f fd) (M : Tm2 P w K mg base aT) (cMf : Calls P w K mg base CX0 6 "made_form" ["table", "kind", "ids", "info"] (spMF P w K aT (fun _ => True))) (cTw : Calls P w K mg base CX0 1 "is_too_wide" ["n"] spTw) : FnOk P w K mg base CX0 7 f fd ["self", "kind", "ids", "info"] (spMakeT P w K aT) := by
  obtain ⟨fMf, dMf, GMf, kMf, bMf, gMf⟩ := cMf.ex
  obtain ⟨fTw, dTw, GTw, kTw, bTw, gTw⟩ := cTw.ex
  obtain ⟨fnu, dnu, mnu, Gnu, bnu⟩ := M.nu
  obtain ⟨fpc, dpc, mpc, Gpc, bpc⟩ := M.pc
  have cT := M.c.c
  refine F.ok scmk (fun vs H Q E h => ?_) (fun cdv A outer s H vs Q E hr6 h => ?_)
  · obtain ⟨_, _, _, _, _, _, _, _, rfl, _⟩ := h
    rfl
  · obtain ⟨t, pi, pc, L, Tb, k, ids, b, rfl, pre, h9, q⟩ := h
    have hr1 : Room 1 _ := hr6.mono (by decide)
    have hr2 : Room 2 _ := hr6.mono (by decide)
    obtain ⟨hT, hpi, hpc, W, hb, hb5, h60, hl, kc, hin⟩ := id pre
    obtain ⟨⟨dx, h1⟩, h2⟩ := id hT
    refine ⟨_, (pss_cons (ps_set (i := 4) scmk.nd rfl (.inl rfl) (pe_tup (pa_cons (pv 1) (pa_cons (pv 2) (pa_cons (pv 3) pa_nil)))))
      (pss_cons (ps_if (pt_cmpR (op_notInV hr6.units) (pv 4) (pe_fld (pv 0) (by rfl)) rfl) (pss_cons (ps_asg (pe_call GMf hr6 (by rfl) gMf kMf bMf .nil pass0 (pa_cons (pv 0) (pa_cons (pv 1) (pa_cons (pv 2) (pa_cons (pv 3) pa_nil))))) (pg_tup rfl (pgs_cons (pg_name (i := 5) scmk.nd rfl (.inl rfl)) (pgs_cons (pg_name (i := 6) scmk.nd rfl (.inl rfl)) (pgs_cons (pg_name (i := 7) scmk.nd rfl (.inl rfl)) pgs_nil)))))
      (pss_cons (ps_if (PW.pt (pw_or (pt_val (pe_call GTw hr1 (by rfl) gTw kTw bTw .nil pass0 (pa_cons (pv 6) pa_nil))) (pw_or1 (pt_val (pe_call GTw hr1 (by rfl) gTw kTw bTw .nil pass0 (pa_cons (pv 7) pa_nil)))))) (pss_one ps_no) pss_nil)
      (pss_one (ps_asg (pe_ifExp (pt_cmpR op_eq (pv 6) (pv 7) (nomark _)) (pe_meth (pv 0) cT mnu Gnu hr2 bnu .nil pass0 (pa_cons (pv 6) pa_nil)) (pe_meth (pv 0) cT mpc Gpc hr1 bpc .nil pass0 (pa_cons (pv 5) (pa_cons (pv 6) (pa_cons (pv 7) pa_nil))))) (pg_sub (pe_fld (pv 0) (by rfl)) (pv 4) (set_dictV hr6.units)))))) pss_nil)
      (pss_one (ps_ret (pe_dgetV hr6.units (pe_fld (pv 0) (by rfl)) (pv 4) (fun _ _ => rfl)))))), ?_⟩
    refine ⟨_, rfl, _, rfl, _, rfl, by show 3 ≤ sizeLine; decide, fun pw npw => ?_⟩
    have s1 := same_upd (o := .tup [.str k.nm, .ref pi, .ref pc]) npw
    have hw : SqT K (upd H pw (.tup [.str k.nm, .ref pi, .ref pc])) pw [.str k.nm, .ref pi, .ref pc] := SqT.of upd_same
    generalize upd H pw (.tup [.str k.nm, .ref pi, .ref pc]) = H1 at *
    have hT1 := hT.same s1
    have h11 := s1 _ _ h1
    have hkw : KeyV K H1 pw (opD k ids) := ⟨dp_op hw (sqT_same hpi s1) (sqT_same hpc s1), opD_key k ids⟩
    have lmd : (mdK Tb.md).length ≤ 1000 := by
      unfold mdK
      rw [List.length_map]
      omega
    refine ⟨_, rfl, _, rfl, t, aT, dx, _, _, rfl, h11, cT, M.c.nm, rfl, pw, L.m, opD k ids, _, rfl, rfl, hkw, hT1.2.md, _, rfl, ?_⟩
    rw [look_mdK]
    unfold makeT at q
    cases e : Tb.md.lookup (k, ids) with
    | some i =>
      rw [e] at q
      refine iteFd rfl ?_
      refine ⟨_, rfl, t, aT, dx, _, _, rfl, h11, cT, M.c.nm, rfl, _, rfl, pw, L.m, opD k ids, _, _, rfl, rfl, hkw, hT1.2.md, by rw [look_mdK, e]; rfl, q H1 (Same.keeps s1) hT1⟩
    | none =>
      rw [e] at q
      refine iteTd rfl ?_
      have MF := mkForm_ok W hb h60 hl kc hin
      have PT := put_ok MF
      have pre1 : MkPre P w K aT H1 t pi pc L Tb k ids b := ⟨hT1, sqT_same hpi s1, sqT_same hpc s1, W, hb, hb5, h60, hl, kc, hin⟩
      refine ⟨_, rfl, _, rfl, _, rfl, _, rfl, t, pi, pc, L, Tb, k, ids, b, rfl, trivial, pre1, fun H2 x k2 hT2 tr => ?_⟩
      have q : ∀ H', Keep L.l H H' → TabAt P w K aT H' t L { (putT (mkForm Tb k ids).1 (mkForm Tb k ids).2.1 (mkForm Tb k ids).2.2.1 (mkForm Tb k ids).2.2.2).1 with md := (putT (mkForm Tb k ids).1 (mkForm Tb k ids).2.1 (mkForm Tb k ids).2.2.1 (mkForm Tb k ids).2.2.2).1.md ++ [((k, ids), (putT (mkForm Tb k ids).1 (mkForm Tb k ids).2.1 (mkForm Tb k ids).2.2.1 (mkForm Tb k ids).2.2.2).2)] } → Q (.int ((putT (mkForm Tb k ids).1 (mkForm Tb k ids).2.1 (mkForm Tb k ids).2.2.1 (mkForm Tb k ids).2.2.2).2 : Int)) H' := q
      generalize mkForm Tb k ids = R at *
      obtain ⟨T1, fm, lo, hi⟩ := R
      obtain ⟨pf, ht, hf⟩ := tr
      have k02 : Keep L.l H H2 := (Same.keeps s1).trans k2
      have kt12 : KT H1 H2 := hT1.kt k2
      refine ⟨x, _, rfl, ht, rfl, _, _, rfl, _, _, rfl, _, _, rfl, rfl, ?_⟩
      refine ⟨_, rfl, lo, rfl, MF.lo.mono (by omega), _, rfl, iteFd rfl ?_⟩
      refine ⟨_, rfl, hi, rfl, MF.hi.mono (by omega), _, rfl, iteFd rfl ?_⟩
      obtain ⟨⟨dx2, h12⟩, _⟩ := id hT2
      have w1 := MF.wf
      have one : T1.fs.length ≤ Tb.fs.length + 1 := MF.one
      have fin : ∀ H3, Keep L.l H2 H3 → TabAt P w K aT H3 t L (putT T1 fm lo hi).1 → ∀ B : Prop, (KeyV K H3 pw (opD k ids) → DV P w K H3 L.m (mdK Tb.md) → (∀ H4, But L.m H3 H4 → KeepT K H3 H4 → DV P w K H4 L.m (putV (mdK Tb.md) (opD k ids) (.int ((putT T1 fm lo hi).2 : Int))) → KeyV K H4 pw (opD k ids) ∧ DV P w K H4 L.m (mdK (Tb.md ++ [((k, ids), (putT T1 fm lo hi).2)])) ∧ Keep L.l H H4 ∧ TabAt P w K aT H4 t L { (putT T1 fm lo hi).1 with md := (putT T1 fm lo hi).1.md ++ [((k, ids), (putT T1 fm lo hi).2)] }) → B) → B := fun H3 k3 hT3 B hB => by
        have emd : (putT T1 fm lo hi).1.md = Tb.md := PT.2.2.2.2.1
        have kt23 : KT H2 H3 := hT2.kt k3
        have hk3 : KeyV K H3 pw (opD k ids) := (hkw.kt kt12.keepT).kt kt23.keepT
        have hmd := hT3.2.md
        rw [emd] at hmd
        refine hB hk3 hmd fun H4 k4 kt4 d4 => ?_
        rw [put_mdK e] at d4
        have lm : L.m ∈ L.l := by simp [Own.l]
        have kt34 : KT H3 H4 := k4.ktN (hT3.2.noT _ lm).2
        refine ⟨hk3.kt kt4, d4, fun bb o n eo => (k4 bb (fun z => n (by rw [z]; exact lm))).trans (k3 bb o n (k02 bb o n eo)), ?_⟩
        obtain ⟨⟨dx3, h13⟩, nd, ⟨ps, f1, f2⟩, ⟨qs, q1, q2⟩, pl, md, ⟨rs, v1, v2⟩⟩ := hT3
        obtain ⟨⟨n1, n2, n3, n4⟩, ⟨n5, n6, n7⟩, ⟨n8, n9⟩, n10⟩ := own_ne nd
        have tm : t ≠ L.m := fun z => hT.tne (by rw [z]; exact lm)
        rw [emd]
        exact ⟨⟨dx3, (k4 t tm).trans h13⟩, nd, ⟨ps, (k4 _ n3).trans f1, f2.kt kt34⟩, ⟨qs, (k4 _ n6).trans q1, q2.kt kt34⟩, pl.kt kt34.keepT (fun o ho => (k4 _ n8).trans ho), d4, ⟨rs, v1.kt kt34.keepT (fun o ho => (k4 _ (Ne.symm n10)).trans ho), v2.kt kt34⟩⟩
      have tail : ∀ H3, Keep L.l H2 H3 → TabAt P w K aT H3 t L (putT T1 fm lo hi).1 → ∃ dx3, H3 t = some (.ins aT dx3 [("_forms", .ref L.f), ("_spans", .ref L.s), ("_places", .ref L.p), ("_made", .ref L.m), ("_variables", .ref L.v)]) := fun H3 _ h => h.1
      refine ⟨_, rfl, _, rfl, rfl, _, rfl, ?_⟩
      by_cases el : lo = hi
      · have eP : putT T1 fm lo hi = numberT T1 lo := if_pos el
        refine iteTd (decide_eq_true (by rw [el])) ?_
        refine ⟨_, rfl, t, dx2, _, rfl, h12, rfl, _, rfl, t, L, T1, lo, rfl, hT2, wf_pl w1, w1.len, by omega, fun H3 k3 hT3 => ?_⟩
        rw [← eP] at hT3 ⊢
        refine fin H3 k3 hT3 _ fun hk3 hmd step => ?_
        obtain ⟨dx3, h13⟩ := tail H3 k3 hT3
        refine ⟨_, rfl, t, aT, dx3, _, _, rfl, h13, cT, M.c.nm, rfl, _, rfl, pw, L.m, opD k ids, _, rfl, rfl, hk3, hmd, lmd, fun H4 k4 kt4 d4 => ?_⟩
        obtain ⟨hk4, d4', kp4, hT4⟩ := step H4 k4 kt4 d4
        obtain ⟨⟨dx4, h14⟩, _⟩ := id hT4
        exact ⟨_, rfl, t, aT, dx4, _, _, rfl, h14, cT, M.c.nm, rfl, _, rfl, pw, L.m, opD k ids, _, _, rfl, rfl, hk4, d4', by rw [look_mdK, lookup_snoc e]; rfl, q H4 kp4 hT4⟩
      · have eP : putT T1 fm lo hi = placeT T1 fm lo hi := if_neg el
        refine iteFd (decide_eq_false fun z => el (V.int.inj z)) ?_
        have plf : plF fm := by
          cases fm with
          | var kk => exact MF.fok.vk kk rfl
          | _ => trivial
        refine ⟨_, rfl, t, dx2, _, rfl, h12, rfl, _, rfl, _, rfl, _, rfl, t, pf, L, T1, fm, lo, hi, rfl, hT2, hf, plf, wf_pl w1, w1.len, by omega, fun H3 k3 hT3 => ?_⟩
        rw [← eP] at hT3 ⊢
        refine fin H3 k3 hT3 _ fun hk3 hmd step => ?_
        obtain ⟨dx3, h13⟩ := tail H3 k3 hT3
        refine ⟨_, rfl, t, aT, dx3, _, _, rfl, h13, cT, M.c.nm, rfl, _, rfl, pw, L.m, opD k ids, _, rfl, rfl, hk3, hmd, lmd, fun H4 k4 kt4 d4 => ?_⟩
        obtain ⟨hk4, d4', kp4, hT4⟩ := step H4 k4 kt4 d4
        obtain ⟨⟨dx4, h14⟩, _⟩ := id hT4
        exact ⟨_, rfl, t, aT, dx4, _, _, rfl, h14, cT, M.c.nm, rfl, _, rfl, pw, L.m, opD k ids, _, _, rfl, rfl, hk4, d4', by rw [look_mdK, lookup_snoc e]; rfl, q H4 kp4 hT4⟩
end
/-! ### min(t), max(t) of a tuple of ints -/
section
variable {prog : Program} {w : World} {A : Around} {E : Value → Shared → Prop} {s : Shared} {l : Addr} {xs : Array (Int × Tok)}
theorem iter_intTup {Q : Value → Shared → Prop} (hl : s.heap.IsTuple l (intItems xs))
    (h : ∀ s₂ : Shared, s₂ = { s with heap := s.heap.push { cls := .type "tuple_iterator", data := .fields #[.ref l, .int 0 0] } } →
      (s₂.heap.IsTupleIter s.heap.objs.size l 0 ∧ s₂.heap.IsTuple l (intItems xs)) → (∀ b ∈ [s.heap.objs.size, l], b < s₂.heap.objs.size) → l ≠ s.heap.objs.size → Q (.ref s.heap.objs.size) s₂) :
    wpAny (model prog w) A (pyIter (.ref l)) Q E s := by
  have hlt : l < s.heap.objs.size := by obtain ⟨_, e, _⟩ := hl; exact Heap.lt_size e
  refine wpAny_pyIter_tuple hl (h _ rfl ⟨⟨_, Heap.get?_push_size _ rfl, rfl, rfl⟩, hl.at fun o e => Heap.get?_push_of_some _ e⟩ (fun b hb => ?_) (Nat.ne_of_lt hlt))
  show b < (s.heap.push _).objs.size
  rw [Heap.size_push]
  rcases List.mem_cons.mp hb with rfl | hb
  · exact Nat.lt_succ_self _
  · rcases List.mem_cons.mp hb with rfl | hb
    · exact Nat.lt_succ_of_lt hlt
    · cases hb
theorem old_keptT {h' : Heap} (hk : ∀ b o, b ∉ [s.heap.objs.size] → (s.heap.push { cls := .type "tuple_iterator", data := .fields #[.ref l, .int 0 0] }).get? b = some o → h'.get? b = some o) :
    ∀ b o, s.heap.get? b = some o → h'.get? b = some o := fun b o e => by
  refine hk b o (fun hm => ?_) (Heap.get?_push_of_some _ e)
  rcases List.mem_cons.mp hm with e1 | hm
  · exact absurd (e1 ▸ Heap.lt_size e) (Nat.lt_irrefl _)
  · cases hm
theorem max_rawT {its : List Value} {ns : List Int} {Q : Value → Shared → Prop} (hh : A.handled = none) (hl : s.heap.IsTuple l its.toArray) (hi : PyProof.Rows.IntsAre its ns) (hne : 0 < ns.length)
    (h : ∀ h' tk M t', (∀ b o, s.heap.get? b = some o → h'.get? b = some o) → M ∈ ns → (∀ a, a ∈ ns → a ≤ M) → Q (.int M t') { s with heap := h', toks := tk }) : wpAny (model prog w) A (call (.builtin "max") [.ref l]) Q E s := by
  obtain ⟨xs, e⟩ := hi.allInts.items
  have hn : PySem.numsOf (intItems xs).toList = ns := by rw [← e]; exact hi.numsOf
  rw [PySem.nums_intItems] at hn
  subst hn
  rw [e] at hl
  have hsz : 0 < xs.size := by simpa using hne
  refine call_max_walk (iter_intTup hl fun s₂ e st hfp hlI => ?_)
  subst e
  refine ⟨_, _, _, _, _, _, _, rfl, Walks.tuple (A := A.in1) hh _ l hlI (intItems xs), st, hfp, by simpa [intItems] using hsz, CmpOf.ints_gt (numAt xs) (fun _ _ => intItems_at), fun v h' tk hP hk => ?_⟩
  have hv : (intItems xs)[argBest (fun i j => decide (numAt xs i > numAt xs j)) (xs.size - 1)]? = some v := by simpa [intItems] using hP
  obtain ⟨t, rfl⟩ := intItems_at hv
  obtain ⟨h1, h2⟩ := argBest_gt (numAt xs) (xs.size - 1)
  refine h h' tk _ t (old_keptT hk) ?_ fun a ha => ?_
  · rw [PySem.numAt_eq]; exact PySem.getD_mem (by rw [List.length_map, Array.length_toList]; omega)
  · obtain ⟨j, hj, rfl⟩ := PySem.mem_getD ha
    rw [List.length_map, Array.length_toList] at hj
    rw [← PySem.numAt_eq]; exact h2 j (by omega)
theorem min_rawT {its : List Value} {ns : List Int} {Q : Value → Shared → Prop} (hh : A.handled = none) (hl : s.heap.IsTuple l its.toArray) (hi : PyProof.Rows.IntsAre its ns) (hne : 0 < ns.length)
    (h : ∀ h' tk M t', (∀ b o, s.heap.get? b = some o → h'.get? b = some o) → M ∈ ns → (∀ a, a ∈ ns → M ≤ a) → Q (.int M t') { s with heap := h', toks := tk }) : wpAny (model prog w) A (call (.builtin "min") [.ref l]) Q E s := by
  obtain ⟨xs, e⟩ := hi.allInts.items
  have hn : PySem.numsOf (intItems xs).toList = ns := by rw [← e]; exact hi.numsOf
  rw [PySem.nums_intItems] at hn
  subst hn
  rw [e] at hl
  have hsz : 0 < xs.size := by simpa using hne
  refine call_min_walk (iter_intTup hl fun s₂ e st hfp hlI => ?_)
  subst e
  refine ⟨_, _, _, _, _, _, _, rfl, Walks.tuple (A := A.in1) hh _ l hlI (intItems xs), st, hfp, by simpa [intItems] using hsz, CmpOf.ints_lt (numAt xs) (fun _ _ => intItems_at), fun v h' tk hP hk => ?_⟩
  have hv : (intItems xs)[argBest (fun i j => decide (numAt xs i < numAt xs j)) (xs.size - 1)]? = some v := by simpa [intItems] using hP
  obtain ⟨t, rfl⟩ := intItems_at hv
  obtain ⟨h1, h2⟩ := argBest_lt (numAt xs) (xs.size - 1)
  refine h h' tk _ t (old_keptT hk) ?_ fun a ha => ?_
  · rw [PySem.numAt_eq]; exact PySem.getD_mem (by rw [List.length_map, Array.length_toList]; omega)
  · obtain ⟨j, hj, rfl⟩ := PySem.mem_getD ha
    rw [List.length_map, Array.length_toList] at hj
    rw [← PySem.numAt_eq]; exact h2 j (by omega)
end
section
variable {X : Cx}
def rMaxT (K : PySem.W.Frag) : List V → Hp → VK → Prop := fun vs H Q => ∃ (a : Addr) (ns : List Int), vs = [V.ref a] ∧ SqT K H a (ns.map V.int) ∧ 0 < ns.length ∧ ∀ m, m ∈ ns → (∀ y, y ∈ ns → y ≤ m) → Q (.int m) H
def rMinT (K : PySem.W.Frag) : List V → Hp → VK → Prop := fun vs H Q => ∃ (a : Addr) (ns : List Int), vs = [V.ref a] ∧ SqT K H a (ns.map V.int) ∧ 0 < ns.length ∧ ∀ m, m ∈ ns → (∀ y, y ∈ ns → m ≤ y) → Q (.int m) H
theorem cr_maxT (hc : X.calm = true) : CallR X (.builtin "max") (rMaxT X.K) := by
  intro pins s σ H vs us Q I r h
  obtain ⟨a, ns, rfl, hs, hne, q⟩ := h
  obtain ⟨its, rv, hl, _⟩ := I.tuple hs
  rw [Vals.ref1 r]
  exact max_rawT (I.ok.hd hc) hl rv.ints hne fun h' tk m t' hk h1 h2 => ⟨.int _, H, I.kept hk, ⟨_, rfl⟩, q m h1 h2⟩
theorem cr_minT (hc : X.calm = true) : CallR X (.builtin "min") (rMinT X.K) := by
  intro pins s σ H vs us Q I r h
  obtain ⟨a, ns, rfl, hs, hne, q⟩ := h
  obtain ⟨its, rv, hl, _⟩ := I.tuple hs
  rw [Vals.ref1 r]
  exact min_rawT (I.ok.hd hc) hl rv.ints hne fun h' tk m t' hk h1 h2 => ⟨.int _, H, I.kept hk, ⟨_, rfl⟩, q m h1 h2⟩
end

section
variable {P : Program} {w : World} {K : PySem.W.Frag} {mg : Str → Option Value} {base : Heap} {aT : Addr}
/-! ### row_of -/
theorem mn_two {m a b : Int} (h1 : m ∈ [a, b]) (h2 : ∀ y, y ∈ [a, b] → m ≤ y) : m = mn a b := by
  have ha := h2 a (by simp)
  have hb := h2 b (by simp)
  unfold mn
  simp only [List.mem_cons, List.not_mem_nil, or_false] at h1
  split <;> omega
theorem mx_two {m a b : Int} (h1 : m ∈ [a, b]) (h2 : ∀ y, y ∈ [a, b] → y ≤ m) : m = mx a b := by
  have ha := h2 a (by simp)
  have hb := h2 b (by simp)
  unfold mx
  simp only [List.mem_cons, List.not_mem_nil, or_false] at h1
  split <;> omega
def gcdP (ps : List (Nat × Int)) : Int := ps.foldl (fun (g : Int) p => ((Nat.gcd g.natAbs p.2.natAbs : Nat) : Int)) 0
def byP (ps : List (Nat × Int)) : Int := if (ps.headD (0, 0)).2 < 0 then -(gcdP ps) else gcdP ps
def rowPs (ps : List (Nat × Int)) : List (Nat × Int) := ps.map fun p => (p.1, p.2.fdiv (byP ps))
def rowE1 (T : Tb) (i : Nat) : Int := (T.lo i - (sumOf T i).1).fdiv (byP (sumOf T i).2)
def rowE2 (T : Tb) (i : Nat) : Int := (T.hi i - (sumOf T i).1).fdiv (byP (sumOf T i).2)
def rowLo (T : Tb) (i : Nat) : Int := mn (rowE1 T i) (rowE2 T i)
def rowHi (T : Tb) (i : Nat) : Int := mx (rowE1 T i) (rowE2 T i)
def spRowOf (P : Program) (w : World) (K : PySem.W.Frag) (aT : Addr) : Sp := fun vs H Q _ => ∃ (t : Addr) (L : Own) (T : Tb) (i : Nat), vs = [.ref t, .int (i : Int)] ∧ TabAt P w K aT H t L T ∧ InT T i ∧ (sumOf T i).2 ≠ [] ∧ (sumOf T i).2.length ≤ 900 ∧ (∀ x : Int, CDivN x (byP (sumOf T i).2)) ∧
  ∀ H' p pp pe ts, Same H H' → SqT K H' p [.int (sumOf T i).1, .int (byP (sumOf T i).2), .ref pp, .ref pe] → SqT K H' pp ts → PrsAt H' ts (rowPs (sumOf T i).2) → SqT K H' pe [.int (rowLo T i), .int (rowHi T i)] → Q (.ref p) H'
abbrev nRo : List Str := ["table", "index", "number", "pairs", "by", "_", "factor", "low", "high", "ends", "unit"]
theorem scRo : FnScope nRo ["table", "index"] (defScope srow_of) := ⟨rfl, rfl, rfl, by decide +kernel, rfl, by decide +kernel, by decide +kernel⟩
theorem ok_rowof {f : Addr} {fd : FuncData} (F : Fun K "row_of" "row_of" srow_of f fd) (M : Tm2 P w K mg base aT) (T : TxtM mg) (mg0 : mg "gcd" = some (.builtin "math.gcd")) (cSo : Calls P w K mg base CX0 2 "sum_of" ["table", "term"] (spSumOf P w K aT)) : FnOk P w K mg base CX0 3 f fd ["table", "index"] (spRowOf P w K aT) := by
  obtain ⟨fSo, dSo, GSo, kSo, bSo, gSo⟩ := cSo.ex
  obtain ⟨fsp, dsp, msp, Gsp, bsp⟩ := M.sp
  have cT := M.c.c
  refine F.ok scRo (fun vs H Q E h => ?_) (fun cdv A outer s H vs Q E hr2 h => ?_)
  · obtain ⟨_, _, _, _, rfl, _⟩ := h
    rfl
  · obtain ⟨t, L, Tb, i, rfl, hT, hi, hne, h9, hc, q⟩ := h
    have hr1 : Room 1 _ := hr2.mono (by decide)
    refine ⟨_, (pss_cons (ps_asg (pe_call GSo hr2 (by rfl) gSo kSo bSo .nil pass0 (pa_cons (pv 0) (pa_cons (pv 1) pa_nil))) (pg_tup rfl (pgs_cons (pg_name (i := 2) scRo.nd rfl (.inl rfl)) (pgs_cons (pg_name (i := 3) scRo.nd rfl (.inl rfl)) pgs_nil))))
      (pss_cons (ps_set (i := 4) scRo.nd rfl (.inr rfl) pe_int)
      (pss_cons (ps_for PassesOwn.never rfl (pi_tup (pv 3)) (pg_tup rfl (pgs_cons (pg_name (i := 5) scRo.nd rfl (.inl rfl)) (pgs_cons (pg_name (i := 6) scRo.nd rfl (.inl rfl)) pgs_nil))) (pss_one (ps_set (i := 4) scRo.nd rfl (.inr rfl) (pe_callBfun cr_gcd (by rfl) mg0 (pa_cons (pv 4) (pa_cons (pv 6) pa_nil))))))
      (Evl.pss_cut (ps_if (pt_cmpR op_lt (pe_ix ix_tup (pe_ix ix_tup (pv 3) pe_int (fun _ _ => rfl)) pe_int (fun _ _ => rfl)) pe_int (nomark _)) (pss_one (ps_set (i := 4) scRo.nd rfl (.inr rfl) (pe_un un_neg (pv 4)))) pss_nil)
      (pss_cons (ps_asg (pe_meth (pv 0) cT msp Gsp hr1 bsp .nil pass0 (pa_cons (pv 1) pa_nil)) (pg_tup rfl (pgs_cons (pg_name (i := 7) scRo.nd rfl (.inl rfl)) (pgs_cons (pg_name (i := 8) scRo.nd rfl (.inl rfl)) pgs_nil))))
      (pss_cons (ps_set (i := 9) scRo.nd rfl (.inl rfl) (pe_tup (pa_cons (pe_op op_fdivN (pe_op op_sub (pv 7) (pv 2)) (pv 4)) (pa_cons (pe_op op_fdivN (pe_op op_sub (pv 8) (pv 2)) (pv 4)) pa_nil))))
      (pss_one (ps_ret (pe_tup (pa_cons (pv 2) (pa_cons (pv 4) (pa_cons (pe_callTy call_tuple_of (by rfl) T.tuple (by decide +kernel) (pa_cons (pe_lc (own := [("unit", 10), ("factor", 6)]) (g := (gTup K 2 (gCons (gName 10) (gCons (gName 6) gNil)))) (tt := tYes) (te := (tTup (tCons (tVar 10) (tCons (tOp (rI CDivN fun i j => .int (i.fdiv j)) (tVar 6) (tVar 4)) tNil)))) rfl scRo.nd (pi_tup (pv 3)) (blkOk_by (N := nRo) (sc := defScope srow_of) (by decide +kernel)) (fun _ _ _ _ _ => (pg_tup rfl (pgs_cons (pg_name (i := 10) scRo.nd rfl (.inl rfl) (hf := Or.inr rfl)) (pgs_cons (pg_name (i := 6) scRo.nd rfl (.inl rfl)) pgs_nil)))) (fun _ _ _ _ _ => pts_nil) (fun _ _ _ _ _ => (pe_tup (pa_cons (pv 10) (pa_cons (pe_op op_fdivN (pv 6) (pv 4)) pa_nil))))) pa_nil)) (pa_cons (pe_tup (pa_cons (pe_callB (cr_minT rfl) (by rfl) T.min (by decide +kernel) (pa_cons (pv 9) pa_nil)) (pa_cons (pe_callB (cr_maxT rfl) (by rfl) T.max (by decide +kernel) (pa_cons (pv 9) pa_nil)) pa_nil))) pa_nil))))))))))))), ?_⟩
    refine ⟨_, rfl, _, rfl, t, L, Tb, i, rfl, hT, hi.1, fun H1 p a ts s1 hp ha hts => ?_⟩
    refine ⟨p, _, rfl, hp, rfl, _, _, rfl, _, _, rfl, rfl, ?_⟩
    refine ⟨_, rfl, a, rfl, ⟨_, ha⟩, for_tup (K := K) (a := a) (xs := ts) (fun m σ H' => ∃ v5 v6 : Option V, σ = [some (.ref t), some (.int (i : Int)), some (.int (sumOf Tb i).1), some (.ref a), some (.int (gcdP ((sumOf Tb i).2.take m))), v5, v6, none, none, none, none] ∧ H' = H1) ⟨none, none, rfl, rfl⟩ (fun m σ H' _ ⟨_, _, _, e⟩ => by rw [e]; exact ha) ?_ ?_⟩
    · rintro m x σ H' hm ⟨v5, v6, rfl, rfl⟩
      have ml : m < (sumOf Tb i).2.length := by rw [← hts.1]; exact (List.getElem?_eq_some_iff.mp hm).1
      obtain ⟨tq, rfl, gq⟩ := hts.2 m _ _ hm (List.getElem?_eq_getElem ml)
      refine ⟨tq, _, rfl, SqT.of gq, rfl, _, _, rfl, _, _, rfl, rfl, ?_⟩
      refine ⟨_, rfl, _, rfl, _, _, rfl, ?_⟩
      have eg : ((Nat.gcd (gcdP ((sumOf Tb i).2.take m)).natAbs ((sumOf Tb i).2[m]).2.natAbs : Nat) : Int) = gcdP ((sumOf Tb i).2.take (m + 1)) := by
        rw [take_snoc (List.getElem?_eq_getElem ml)]
        unfold gcdP
        rw [List.foldl_append]
        rfl
      rw [eg]
      exact ⟨_, _, rfl, rfl⟩
    rintro σ H' ⟨v5, v6, rfl, rfl⟩
    rw [hts.1, List.take_length]
    obtain ⟨p0, rest, eps⟩ : ∃ p0 rest, (sumOf Tb i).2 = p0 :: rest := List.exists_cons_of_ne_nil hne
    obtain ⟨tv, tr, ets⟩ : ∃ tv tr, ts = tv :: tr := by
      have l := hts.1
      rw [eps] at l
      exact List.exists_cons_of_ne_nil (fun z => by rw [z] at l; cases l)
    obtain ⟨tq, e0, gq⟩ := hts.2 0 _ _ (by rw [ets]; rfl) (by rw [eps]; rfl)
    subst e0
    have hbh : ((sumOf Tb i).2.headD (0, 0)).2 = p0.2 := by rw [eps]; rfl
    refine ⟨fun σ H2 => ∃ v5 v6 : Option V, σ = [some (.ref t), some (.int (i : Int)), some (.int (sumOf Tb i).1), some (.ref a), some (.int (byP (sumOf Tb i).2)), v5, v6, none, none, none, none] ∧ H2 = H', ?_, ?_⟩
    · refine ⟨_, rfl, a, _, (0 : Nat), _, rfl, rfl, ha, by rw [ets]; exact i0, tq, _, (1 : Nat), _, rfl, rfl, SqT.of gq, i1, _, _, rfl, rfl, _, rfl, ite2 (fun e => ?_) (fun e => ?_)⟩
      · refine ⟨_, rfl, _, rfl, v5, v6, ?_, rfl⟩
        unfold byP
        rw [hbh, if_pos (of_decide_eq_true e)]
        rfl
      · refine ⟨v5, v6, ?_, rfl⟩
        unfold byP
        rw [hbh, if_neg (fun z => e (decide_eq_true z))]
    rintro σ H2 ⟨v5, v6, rfl, e⟩
    subst e
    have hT1 := hT.same s1
    obtain ⟨⟨dx, h1⟩, _⟩ := id hT1
    refine ⟨_, rfl, t, dx, _, rfl, h1, rfl, _, rfl, t, L, Tb, i, rfl, hT1, by rw [hi.2]; exact hi.1, fun p2 hp2 => ?_⟩
    refine ⟨p2, _, rfl, hp2, rfl, _, _, rfl, _, _, rfl, rfl, ?_⟩
    refine ⟨_, rfl, _, rfl, _, _, rfl, rfl, _, rfl, _, _, rfl, rfl, hc _, _, rfl, _, rfl, _, _, rfl, rfl, _, rfl, _, _, rfl, rfl, hc _, by show 2 ≤ sizeLine; decide, fun pe npe => ?_⟩
    have s2 := same_upd (o := .tup [V.int (rowE1 Tb i), .int (rowE2 Tb i)]) npe
    have he : SqT K (upd H2 pe (.tup [V.int (rowE1 Tb i), .int (rowE2 Tb i)])) pe ([rowE1 Tb i, rowE2 Tb i].map V.int) := SqT.of upd_same
    have ha2 := sqT_same ha s2
    have hts2 := hts.kt (Same.kt s2)
    refine ⟨_, rfl, _, rfl, _, rfl, a, rfl, ⟨_, ha2⟩, fun D nD => lc_tup (K := K) (a := a) (xs := ts) (fun m H' => Same (upd H2 pe (.tup [V.int (rowE1 Tb i), .int (rowE2 Tb i)])) H' ∧ ∃ us : List V, H' D = some (.lst us) ∧ us.length ≤ m ∧ PrsAt H' us (((sumOf Tb i).2.take m).map fun p => (p.1, p.2.fdiv (byP (sumOf Tb i).2))))
      ⟨same_upd nD, [], upd_same, Nat.le_refl _, PrsAt.nil⟩ (fun m H' _ h => sqT_same ha2 h.1) ?_ ?_⟩
    · rintro m x H' hm ⟨sm, us, hD, hu, hQ⟩
      obtain ⟨pr, e1, tq2, rfl, g3⟩ := hts2.at_ hm
      have l1 : m < ts.length := (List.getElem?_eq_some_iff.mp hm).1
      refine ⟨tq2, _, rfl, SqT.of (sm _ _ g3), rfl, _, _, rfl, _, _, rfl, rfl, rfl, ?_⟩
      unfold tYes
      dsimp only
      rw [if_pos rfl]
      refine ⟨_, rfl, _, rfl, _, rfl, _, _, rfl, rfl, hc _, by show 2 ≤ sizeLine; decide, fun pn npn => ?_⟩
      have nDp : D ≠ pn := ne_of_none hD npn
      refine ⟨us, (upd_ne nDp).trans hD, lt900 (by have := hts2.1; omega), ?_⟩
      have sn := same_upd (o := .tup [.int (pr.1 : Int), .int (pr.2.fdiv (byP (sumOf Tb i).2))]) npn
      have kt : KT H' (upd (upd H' pn (.tup [.int (pr.1 : Int), .int (pr.2.fdiv (byP (sumOf Tb i).2))])) D (.lst (us ++ [.ref pn]))) := fun b o io e => by
        rw [upd_ne (fun z => by rw [z, hD] at e; cases e; exact io)]
        exact sn _ _ e
      refine ⟨fun b o e => by rw [upd_ne (ne_of_none e nD)]; exact sn _ _ (sm _ _ e), us ++ [.ref pn], upd_same, by rw [List.length_append, List.length_singleton]; omega, ?_⟩
      rw [take_snoc e1, List.map_append]
      exact (hQ.kt kt).snoc ⟨pn, rfl, by rw [upd_ne (Ne.symm nDp), upd_same]⟩
    rintro H4 ⟨s4, us, hD, hu, hQ⟩
    rw [hts2.1, List.take_length] at hQ
    refine ⟨D, _, rfl, .inl ⟨SqL.of hD, fun ar nar => ?_⟩⟩
    have s5 := same_upd (o := .tup us) nar
    have he5 := sqT_same (sqT_same he s4) s5
    have har : SqT K (upd H4 ar (.tup us)) ar us := SqT.of upd_same
    have hQ5 := hQ.kt (Same.kt s5)
    have s05 := Same.trans (Same.trans (Same.trans s1 s2) s4) s5
    generalize upd H4 ar (.tup us) = H5 at *
    refine ⟨_, rfl, pe, [rowE1 Tb i, rowE2 Tb i], rfl, he5, Nat.succ_pos 1, fun m1 hm1 hm2 => ?_⟩
    refine ⟨_, rfl, pe, [rowE1 Tb i, rowE2 Tb i], rfl, he5, Nat.succ_pos 1, fun m2 hm3 hm4 => ?_⟩
    obtain rfl := mn_two hm1 hm2
    obtain rfl := mx_two hm3 hm4
    refine ⟨by show 2 ≤ sizeLine; decide, fun p6 np6 => ?_⟩
    have s6 := same_upd (o := .tup [V.int (mn (rowE1 Tb i) (rowE2 Tb i)), .int (mx (rowE1 Tb i) (rowE2 Tb i))]) np6
    refine ⟨by show 4 ≤ sizeLine; decide, fun p7 np7 => ?_⟩
    have s7 := same_upd (o := .tup [V.int (sumOf Tb i).1, .int (byP (sumOf Tb i).2), .ref ar, .ref p6]) np7
    exact q _ p7 ar p6 us (Same.trans s05 (Same.trans s6 s7)) (SqT.of upd_same) (sqT_same (sqT_same har s6) s7) (hQ5.kt (Same.kt (Same.trans s6 s7))) (SqT.of (s7 _ _ upd_same))
end

section
variable {P : Program} {w : World} {K : PySem.W.Frag} {mg : Str → Option Value} {base : Heap} {aT : Addr}
/-! ### row -/
noncomputable def rowT (T : Tb) (i : Nat) : Tb × Nat := placeT T (fos T (-(rowLo T i)) (rowPs (sumOf T i).2)) 0 (rowHi T i - rowLo T i)
structure RowOk (T : Tb) (i : Nat) : Prop where
  inn : InT T i
  ne : (sumOf T i).2 ≠ []
  l9 : (sumOf T i).2.length ≤ 900
  dv : ∀ x : Int, CDivN x (byP (sumOf T i).2)
  pa : ∀ p ∈ (sumOf T i).2, p.1 < T.fs.length
  mu : CMulW (byP (sumOf T i).2) (rowLo T i)
  pl : ∀ g ∈ T.fs, plF g
  f9 : T.fs.length ≤ 900
def spRow (P : Program) (w : World) (K : PySem.W.Frag) (aT : Addr) : Sp := fun vs H Q _ => ∃ (t : Addr) (L : Own) (T : Tb) (i : Nat), vs = [.ref t, .int (i : Int)] ∧ TabAt P w K aT H t L T ∧ RowOk T i ∧
  ∀ H' p, Keep L.l H H' → TabAt P w K aT H' t L (rowT T i).1 → SqT K H' p [.int ((sumOf T i).1 + byP (sumOf T i).2 * rowLo T i), .int (byP (sumOf T i).2), .int (rowHi T i - rowLo T i + 1), .int ((rowT T i).2 : Int)] → Q (.ref p) H'
theorem pl_fos {T : Tb} (h : ∀ g ∈ T.fs, plF g) (n : Int) (ps : List (Nat × Int)) : plF (fos T n ps) := by
  have fm : ∀ u, plF (T.fm u) := fun u => by
    unfold Tb.fm
    rw [List.getD_eq_getElem?_getD]
    cases e : T.fs[u]? with
    | none => exact True.intro
    | some g => exact h g (List.mem_of_getElem? e)
  unfold fos
  split
  · split
    · exact fm _
    · exact True.intro
  · exact True.intro
abbrev nrw : List Str := ["self", "index", "number", "by", "pairs", "least", "most", "counted"]
theorem scrw : FnScope nrw ["self", "index"] (defScope sMrow) := ⟨rfl, rfl, rfl, by decide +kernel, rfl, by decide +kernel, by decide +kernel⟩
theorem ok_row {f : Addr} {fd : FuncData} (F : Fun K "row" "Terms.row" sMrow f fd) (M : Tm2 P w K mg base aT) (cRo : Calls P w K mg base CX0 3 "row_of" ["table", "index"] (spRowOf P w K aT)) (cFs : Calls P w K mg base CX0 2 "form_of_sum" ["table", "number", "pairs"] (spFos P w K aT)) : FnOk P w K mg base CX0 4 f fd ["self", "index"] (spRow P w K aT) := by
  obtain ⟨fRo, dRo, GRo, kRo, bRo, gRo⟩ := cRo.ex
  obtain ⟨fFs, dFs, GFs, kFs, bFs, gFs⟩ := cFs.ex
  obtain ⟨fpc, dpc, mpc, Gpc, bpc⟩ := M.pc
  have cT := M.c.c
  refine F.ok scrw (fun vs H Q E h => ?_) (fun cdv A outer s H vs Q E hr3 h => ?_)
  · obtain ⟨_, _, _, _, rfl, _⟩ := h
    rfl
  · obtain ⟨t, L, Tb, i, rfl, hT, R, q⟩ := h
    have hr1 : Room 1 _ := hr3.mono (by decide)
    have hr2 : Room 2 _ := hr3.mono (by decide)
    refine ⟨_, (pss_cons (ps_asg (pe_call GRo hr3 (by rfl) gRo kRo bRo .nil pass0 (pa_cons (pv 0) (pa_cons (pv 1) pa_nil))) (pg_tup rfl (pgs_cons (pg_name (i := 2) scrw.nd rfl (.inl rfl)) (pgs_cons (pg_name (i := 3) scrw.nd rfl (.inl rfl)) (pgs_cons (pg_name (i := 4) scrw.nd rfl (.inl rfl)) (pgs_cons (pg_tup rfl (pgs_cons (pg_name (i := 5) scrw.nd rfl (.inl rfl)) (pgs_cons (pg_name (i := 6) scrw.nd rfl (.inl rfl)) pgs_nil))) pgs_nil))))))
      (pss_cons (ps_set (i := 7) scrw.nd rfl (.inl rfl) (pe_meth (pv 0) cT mpc Gpc hr1 bpc .nil pass0 (pa_cons (pe_call GFs hr2 (by rfl) gFs kFs bFs .nil pass0 (pa_cons (pv 0) (pa_cons (pe_un un_neg (pv 5)) (pa_cons (pv 4) pa_nil)))) (pa_cons pe_int (pa_cons (pe_op op_sub (pv 6) (pv 5)) pa_nil)))))
      (pss_one (ps_ret (pe_tup (pa_cons (pe_op op_add (pv 2) (pe_op op_mulW (pv 3) (pv 5))) (pa_cons (pv 3) (pa_cons (pe_op op_add (pe_op op_sub (pv 6) (pv 5)) pe_int) (pa_cons (pv 7) pa_nil))))))))), ?_⟩
    refine ⟨_, rfl, _, rfl, t, L, Tb, i, rfl, hT, R.inn, R.ne, R.l9, R.dv, fun H1 p a e ts s1 hp ha hts he => ?_⟩
    refine ⟨p, _, rfl, hp, rfl, _, _, rfl, _, _, rfl, _, _, rfl, _, _, rfl, e, _, rfl, he, rfl, _, _, rfl, _, _, rfl, rfl, rfl, ?_⟩
    have hT1 := hT.same s1
    obtain ⟨⟨dx, h1⟩, _⟩ := id hT1
    refine ⟨_, rfl, t, dx, _, rfl, h1, rfl, _, rfl, _, rfl, _, rfl, _, rfl, t, a, L, Tb, -(rowLo Tb i), ts, _, rfl, hT1, ha, hts, fun p hp => ?_, fun H2 pf s2 hf => ?_⟩
    · obtain ⟨p0, h0, rfl⟩ := List.mem_map.mp hp
      exact R.pa p0 h0
    refine ⟨_, rfl, _, rfl, _, _, rfl, rfl, t, pf, L, Tb, _, 0, _, rfl, hT1.same s2, hf, pl_fos R.pl _ _, R.pl, R.inn.2, R.f9, fun H3 k3 t3 => ?_⟩
    refine ⟨_, rfl, _, rfl, _, rfl, _, _, rfl, rfl, R.mu, _, _, rfl, rfl, _, rfl, _, rfl, _, rfl, _, _, rfl, rfl, _, _, rfl, rfl, _, rfl, by show 4 ≤ sizeLine; decide, fun p4 np4 => ?_⟩
    have s4 := same_upd (o := .tup [V.int ((sumOf Tb i).1 + byP (sumOf Tb i).2 * rowLo Tb i), .int (byP (sumOf Tb i).2), .int (rowHi Tb i - rowLo Tb i + 1), .int ((rowT Tb i).2 : Int)]) np4
    exact q _ p4 ((Same.keeps (Same.trans s1 s2)).trans (k3.trans (Same.keeps s4))) (t3.same s4) (SqT.of upd_same)
end
/-! ### own errors -/
abbrev valErr : List Value := [.type "ValueError", .type "Exception", .type "BaseException", .type "object"]
/-- what the written part says of an error class that is raised -/
structure ErrR (K : PySem.W.Frag) (mg : Str → Option Value) (n : Str) (C : Addr) : Prop where
  g : mg n = some (.ref C)
  x : PySem.W.excIn K C valErr "ValueError.__new__" = true
  k : PySem.W.keepIn K (.ref C) = true
  b : PySem.W.subIn K (.ref C) (.type "BaseException") = some true
  t : PySem.W.typeIn K (.ref C) = some (.type "type")
/-- of one that an except clause names -/
structure ErrN (K : PySem.W.Frag) (mg : Str → Option Value) (n : Str) (C : Addr) : Prop where
  g : mg n = some (.ref C)
  b : PySem.W.subIn K (.ref C) (.type "BaseException") = some true
  h : PySem.W.hasDictIn K C = true
  t : PySem.W.typeIn K (.ref C) = some (.type "type")
theorem ErrN.ex {K : PySem.W.Frag} {mg : Str → Option Value} {n : Str} {C : Addr} (e : ErrN K mg n C) {cls : Value} {r : Bool} (s : PySem.W.subIn K cls (.ref C) = some r) : PySem.W.exmOne K cls (.ref C) = some r := PySem.W.exm_ref e.b e.h e.t s
theorem pss_if {X : Cx} {sts : List Stmt} {t : TS} {P : Prop} (h : P → PSs X sts t) : PSs X sts (fun D σ H => P ∧ t D σ H) := ⟨fun pins s σ H D I hh => (h hh.1).run pins s σ H D I hh.2⟩
theorem kit_rr {K : PySem.W.Frag} {Z C : Addr} {r : Bool} (s : PySem.W.subIn K (.ref Z) (.ref C) = some r) (z : PySem.W.subIn K (.ref Z) (.ref Z) = some true) (h : PySem.W.hasDictIn K C = true) (t : PySem.W.typeIn K (.ref C) = some (.type "type")) : PySem.W.kitOne K (.ref Z) (.ref C) = some r := by
  have hc : (PySem.W.clsIn K C).isSome = true := by
    unfold PySem.W.hasDictIn at h
    cases e : PySem.W.clsIn K C with
    | none => rw [e] at h; cases h
    | some _ => rfl
  have e2 : ((PySem.W.clsIn K C).isSome && PySem.W.typeIn K (.ref C) == some (.type "type")) = true := by rw [hc, t] <;> rfl
  show (if (Value.ref Z == Value.ref C) = true then some true else (if ((PySem.W.clsIn K C).isSome && PySem.W.typeIn K (.ref C) == some (.type "type")) = true then PySem.W.subIn K (.ref Z) (.ref C) else none)) = some r
  by_cases g : (Value.ref Z == Value.ref C) = true
  · rw [if_pos g]
    have e : Value.ref Z = Value.ref C := beq_iff_eq.mp g
    rw [← e, z] at s
    exact s
  · rw [if_neg g, if_pos e2]
    exact s
theorem kit_rt {K : PySem.W.Frag} {Z : Addr} {T : String} {r : Bool} (s : PySem.W.subIn K (.ref Z) (.type T) = some r) (m : PySem.W.kitMeta T = true) : PySem.W.kitOne K (.ref Z) (.type T) = some r := by
  have g : (Value.ref Z == Value.type T) = false := rfl
  show (if (Value.ref Z == Value.type T) = true then some true else (if PySem.W.kitMeta T = true then PySem.W.subIn K (.ref Z) (.type T) else none)) = some r
  rw [g, if_neg Bool.false_ne_true, if_pos m]
  exact s

section
variable {P : Program} {w : World} {K : PySem.W.Frag} {mg : Str → Option Value} {base : Heap} {aT : Addr}
/-! ### pick -/
theorem asInts_snoc {ids : List Nat} {j : Nat} : (asInts ids).map V.int ++ [V.int (j : Int)] = (asInts (ids ++ [j])).map V.int := by
  unfold asInts
  rw [List.map_append, List.map_append]
  rfl
theorem dec_nat {a b : Nat} : decide (V.int (a : Int) = V.int (b : Int)) = decide (a = b) := by
  rw [Bool.eq_iff_iff, decide_eq_true_iff, decide_eq_true_iff]
  exact ⟨fun h => Int.ofNat_inj.mp (V.int.inj h), fun h => by rw [h]⟩
def rowF (T : Tb) (i : Nat) : Int := (sumOf T i).1 + byP (sumOf T i).2 * rowLo T i
def rowM (T : Tb) (i : Nat) : Nat := (rowHi T i - rowLo T i + 1).toNat
def chI (T : Tb) (ids : List Nat) (i : Nat) : List Nat := (List.range (rowM T i)).map fun (t : Nat) => ids.getD (rowF T i + byP (sumOf T i).2 * (t : Int)).toNat 0
noncomputable def pickT (T : Tb) (ids : List Nat) (i : Nat) : Tb × Nat := if T.lo i = T.hi i then (T, ids.getD (T.lo i).toNat 0) else if (chI T ids i).all (fun c => decide (c = (chI T ids i).headD 0)) = true then ((rowT T i).1, (chI T ids i).headD 0)
  else placeT (rowT T i).1 (.pick (chI T ids i ++ [(rowT T i).2])) (lst ((chI T ids i).map T.lo)) (grt ((chI T ids i).map T.hi))
structure PickOk (T : Tb) (ids : List Nat) (i : Nat) : Prop where
  lo : 0 ≤ T.lo i
  hi : T.hi i < ids.length
  inn : ∀ j ∈ ids, j < T.fs.length
  row : T.lo i ≠ T.hi i → RowOk T i ∧ (∀ g ∈ (rowT T i).1.fs, plF g) ∧ (rowT T i).1.sp.length = (rowT T i).1.fs.length ∧ (rowT T i).1.fs.length ≤ 900 ∧ (∀ j, j < T.fs.length → (rowT T i).1.lo j = T.lo j ∧ (rowT T i).1.hi j = T.hi j) ∧ T.fs.length ≤ (rowT T i).1.fs.length ∧ rowLo T i ≤ rowHi T i ∧ rowM T i ≤ 900 ∧
    ∀ t : Nat, t < rowM T i → CMulW (byP (sumOf T i).2) t ∧ 0 ≤ rowF T i + byP (sumOf T i).2 * (t : Int) ∧ rowF T i + byP (sumOf T i).2 * (t : Int) < ids.length
def spPick (P : Program) (w : World) (K : PySem.W.Frag) (aT Z : Addr) : Sp := fun vs H Q E => ∃ (t p : Addr) (L : Own) (T : Tb) (ids : List Nat) (i : Nat), vs = [.ref t, .ref p, .int (i : Int)] ∧ TabAt P w K aT H t L T ∧ InT T i ∧ SqT K H p ((asInts ids).map V.int) ∧ ids.length ≤ 900 ∧
  ((T.lo i < 0 ∨ (ids.length : Int) ≤ T.hi i) → E (.ref Z) none H) ∧
  (¬ (T.lo i < 0 ∨ (ids.length : Int) ≤ T.hi i) → PickOk T ids i ∧ ∀ H', Keep L.l H H' → TabAt P w K aT H' t L (pickT T ids i).1 → Q (.int ((pickT T ids i).2 : Int)) H')
abbrev npk : List Str := ["self", "ids", "index", "low", "high", "first", "by", "many", "counted", "choices", "spans", "least", "choice", "turn", "span"]
theorem scpk : FnScope npk ["self", "ids", "index"] (defScope sMpick) := ⟨rfl, rfl, rfl, by decide +kernel, rfl, by decide +kernel, by decide +kernel⟩
theorem ok_pick {f Z : Addr} {fd : FuncData} (F : Fun K "pick" "Terms.pick" sMpick f fd) (M : Tm2 P w K mg base aT) (T : TxtM mg) (R : ErrR K mg "FormError" Z) (hRw : MthAt P w K mg base aT 4 "row" ["self", "index"] (spRow P w K aT)) : FnOk P w K mg base (L2.CX P w) 5 f fd ["self", "ids", "index"] (spPick P w K aT Z) := by
  obtain ⟨fpc, dpc, mpc, Gpc, bpc⟩ := M.pc
  obtain ⟨fsp, dsp, msp, Gsp, bsp⟩ := M.sp
  obtain ⟨frw, drw, mrw, Grw, brw⟩ := hRw
  have cT := M.c.c
  refine F.okX scpk (fun vs H Q E h => ?_) (fun cdv A outer s H vs Q E hr4 h => ?_)
  · obtain ⟨_, _, _, _, _, _, rfl, _⟩ := h
    rfl
  · obtain ⟨t, p, L, Tb, ids, i, rfl, hT, hi, hp, h9, hE, hq⟩ := h
    have hr1 : Room 1 _ := hr4.mono (by decide)
    refine ⟨_, (pss_cons (ps_asg (pe_meth (pv 0) cT msp Gsp hr1 bsp .nil pass0 (pa_cons (pv 2) pa_nil)) (pg_tup rfl (pgs_cons (pg_name (i := 3) scpk.nd rfl (.inl rfl)) (pgs_cons (pg_name (i := 4) scpk.nd rfl (.inl rfl)) pgs_nil))))
      (pss_cons (ps_if (PW.pt (pw_or (pt_cmpR op_lt (pv 3) pe_int (nomark _)) (pw_or1 (pt_cmpR op_ge (pv 4) (pe_callB call_len_seq (by rfl) T.len PySem.boot_len (pa_cons (pv 1) pa_nil)) (nomark _))))) (pss_one (ps_raise rfl (takes_of rfl rfl rfl rfl) (pmk_own PySem.F.excBase_ValueError R.x R.g R.k (raises_own R.b R.t) rfl))) pss_nil)
      (pss_cons (ps_if (pt_cmpR op_eq (pv 3) (pv 4) (nomark _)) (pss_one (ps_ret (pe_ix ix_tup (pv 1) (pv 3) (fun _ _ => rfl)))) pss_nil)
      (pss_cons (ps_asg (pe_meth (pv 0) cT mrw Grw hr4 brw .nil pass0 (pa_cons (pv 2) pa_nil)) (pg_tup rfl (pgs_cons (pg_name (i := 5) scpk.nd rfl (.inr rfl)) (pgs_cons (pg_name (i := 6) scpk.nd rfl (.inr rfl)) (pgs_cons (pg_name (i := 7) scpk.nd rfl (.inl rfl)) (pgs_cons (pg_name (i := 8) scpk.nd rfl (.inl rfl)) pgs_nil))))))
      (pss_cons (ps_set (i := 9) scpk.nd rfl (.inr rfl) (pe_callTy call_tuple_of (by rfl) T.tuple (by decide +kernel) (pa_cons (pe_lc (own := [("turn", 13)]) (g := (gName 13)) (tt := tYes) (te := (tOp (rIxT K) (tVar 1) (tOp (rI0 fun i j => .int (i + j)) (tVar 5) (tOp (rI CMulW fun i j => .int (i * j)) (tVar 6) (tVar 13))))) rfl scpk.nd (pi_range1 rfl T.range (pa_cons (pv 7) pa_nil)) (blkOk_by (N := npk) (sc := defScope sMpick) (by decide +kernel)) (fun _ _ _ _ _ => (pg_name (i := 13) scpk.nd rfl (.inl rfl) (hf := Or.inr rfl))) (fun _ _ _ _ _ => pts_nil) (fun _ _ _ _ _ => (pe_ix ix_tup (pv 1) (pe_op op_add (pv 5) (pe_op op_mulW (pv 6) (pv 13))) (fun _ _ => rfl)))) pa_nil)))
      (pss_cons (ps_if (pt_val (pe_callB (cr_all rfl) (by rfl) T.all (by decide +kernel) (pa_cons (pe_lc (own := [("choice", 12)]) (g := (gName 12)) (tt := tYes) (te := (tOp rEq (tVar 12) (tOp (rIxT K) (tVar 9) (tC (.int 0))))) rfl scpk.nd (pi_tup (pv 9)) (blkOk_by (N := npk) (sc := defScope sMpick) (by decide +kernel)) (fun _ _ _ _ _ => (pg_name (i := 12) scpk.nd rfl (.inl rfl) (hf := Or.inr rfl))) (fun _ _ _ _ _ => pts_nil) (fun _ _ _ _ _ => (pe_cmpR op_eq (pv 12) (pe_ix ix_tup (pv 9) pe_int (fun _ _ => rfl)) (nomark _)))) pa_nil))) (pss_one (ps_ret (pe_ix ix_tup (pv 9) pe_int (fun _ _ => rfl)))) pss_nil)
      (pss_cons (ps_setLc (i := 10) (own := [("choice", 12)]) (g := (gName 12)) (tt := tYes) (te := (tMeth aT "span" (spSpan P w K aT) [] E0 (tVar 0) (tCons (tVar 12) tNil))) (by rfl) scpk.nd rfl rfl (sw_true rfl rfl rfl (by decide +kernel)) (pi_tup (pv 9)) (blkOk_by (N := npk) (sc := defScope sMpick) (by decide +kernel)) (fun _ _ _ _ _ => (pg_name (i := 12) scpk.nd rfl (.inl rfl) (hf := Or.inr rfl))) (fun _ _ _ _ _ => pts_nil) (fun _ _ _ _ _ => (pe_meth (pv 0) cT msp Gsp hr1 bsp .nil pass0 (pa_cons (pv 12) pa_nil))))
      (pss_cons (ps_set (i := 11) scpk.nd rfl (.inl rfl) (pe_callB (cr_min rfl) (by rfl) T.min (by decide +kernel) (pa_cons (pe_lc (own := [("span", 14)]) (g := (gName 14)) (tt := tYes) (te := (tOp (rIxT K) (tVar 14) (tC (.int 0)))) rfl scpk.nd (pi_list (pv 10)) (blkOk_by (N := npk) (sc := defScope sMpick) (by decide +kernel)) (fun _ _ _ _ _ => (pg_name (i := 14) scpk.nd rfl (.inl rfl) (hf := Or.inr rfl))) (fun _ _ _ _ _ => pts_nil) (fun _ _ _ _ _ => (pe_ix ix_tup (pv 14) pe_int (fun _ _ => rfl)))) pa_nil)))
      (pss_one (ps_ret (pe_meth (pv 0) cT mpc Gpc hr1 bpc .nil pass0 (pa_cons (pe_tup (pa_cons pe_str (pa_cons (pe_op op_catT (pv 9) (pe_tup (pa_cons (pv 8) pa_nil))) (pa_cons (pe_tup pa_nil) pa_nil)))) (pa_cons (pv 11) (pa_cons (pe_callB (cr_max rfl) (by rfl) T.max (by decide +kernel) (pa_cons (pe_lc (own := [("span", 14)]) (g := (gName 14)) (tt := tYes) (te := (tOp (rIxT K) (tVar 14) (tC (.int 1)))) rfl scpk.nd (pi_list (pv 10)) (blkOk_by (N := npk) (sc := defScope sMpick) (by decide +kernel)) (fun _ _ _ _ _ => (pg_name (i := 14) scpk.nd rfl (.inl rfl) (hf := Or.inr rfl))) (fun _ _ _ _ _ => pts_nil) (fun _ _ _ _ _ => (pe_ix ix_tup (pv 14) pe_int (fun _ _ => rfl)))) pa_nil)) pa_nil)))))))))))))), ?_⟩
    have cc := hT.1
    obtain ⟨dx, h1⟩ := cc
    refine ⟨_, rfl, t, dx, _, rfl, h1, rfl, _, rfl, t, L, Tb, i, rfl, hT, by rw [hi.2]; exact hi.1, fun p2 hp2 => ?_⟩
    refine ⟨p2, _, rfl, hp2, rfl, _, _, rfl, _, _, rfl, rfl, ?_⟩
    have il : ((asInts ids).map V.int).length = ids.length := by rw [List.length_map, asInts, List.length_map]
    refine ⟨_, rfl, _, _, rfl, rfl, _, rfl, ite2 (fun e => ?_) (fun e => ?_)⟩
    · exact hE (.inl (of_decide_eq_true e))
    refine ⟨_, rfl, _, rfl, p, _, rfl, .inr hp, _, _, rfl, rfl, _, rfl, ite2 (fun e2 => ?_) (fun e2 => ?_)⟩
    · exact hE (.inr (by rw [← il]; exact of_decide_eq_true e2))
    rw [il] at e2
    have nout : ¬ (Tb.lo i < 0 ∨ (ids.length : Int) ≤ Tb.hi i) := fun z => z.elim (fun z => e (decide_eq_true z)) (fun z => e2 (decide_eq_true z))
    obtain ⟨O, q⟩ := hq nout
    clear hE hq nout e e2
    have at_ : ∀ x : Int, 0 ≤ x → x < ids.length → atI ((asInts ids).map V.int) x = some (.int ((ids.getD x.toNat 0 : Nat) : Int)) := fun x x0 x1 => by
      obtain ⟨n, rfl⟩ := Int.eq_ofNat_of_zero_le x0
      rw [Int.toNat_natCast]
      have hn : n < ids.length := by omega
      refine atI_nat ?_
      unfold asInts
      rw [List.getElem?_map, List.getElem?_map, List.getD_eq_getElem?_getD, List.getElem?_eq_getElem hn]
      rfl
    refine ⟨_, rfl, _, rfl, rfl, _, rfl, ite2 (fun e => ?_) (fun e => ?_)⟩
    · have e := V.int.inj (of_decide_eq_true e)
      unfold pickT at q
      rw [if_pos e] at q
      have := O.hi
      exact ⟨_, rfl, _, rfl, p, _, Tb.lo i, _, rfl, rfl, hp, at_ _ O.lo (by omega), q H (Keep.refl _ _) hT⟩
    have ne : Tb.lo i ≠ Tb.hi i := fun z => e (decide_eq_true (by rw [z]))
    clear e
    obtain ⟨RO, rpl, rsl, r9, rsp, rle, rlh, rm9, rix⟩ := O.row ne
    refine ⟨_, rfl, t, dx, _, rfl, h1, rfl, _, rfl, t, L, Tb, i, rfl, hT, RO, fun H2 p3 k2 t2 hp3 => ?_⟩
    have hp : SqT K H2 p ((asInts ids).map V.int) := sqT_kt hp (hT.kt k2)
    refine ⟨p3, _, rfl, hp3, rfl, _, _, rfl, _, _, rfl, _, _, rfl, _, _, rfl, rfl, ?_⟩
    refine ⟨_, rfl, _, rfl, by omega, by have : rowM Tb i = (rowHi Tb i - rowLo Tb i + 1).toNat := rfl; omega, fun D nD => lc_range (lo := 0) (n := rowM Tb i) (fun m H' => Same H2 H' ∧ H' D = some (.lst ((asInts ((chI Tb ids i).take m)).map V.int)))
      ⟨same_upd nD, upd_same⟩ ?_ ?_⟩
    · rintro m H' hm ⟨sm, hD⟩
      obtain ⟨c1, c2, c3⟩ := rix m hm
      rw [show (0 : Int) + (m : Int) = (m : Int) from Int.zero_add _]
      refine ⟨rfl, ?_⟩
      unfold tYes
      dsimp only
      rw [if_pos rfl]
      refine ⟨_, rfl, _, rfl, _, rfl, _, rfl, _, _, rfl, rfl, c1, _, _, rfl, rfl, p, _, _, _, rfl, rfl, sqT_same hp sm, at_ _ c2 c3, ?_⟩
      have ec : (chI Tb ids i)[m]? = some (ids.getD (rowF Tb i + byP (sumOf Tb i).2 * (m : Int)).toNat 0) := by
        unfold chI
        rw [List.getElem?_map, List.getElem?_range hm]
        rfl
      refine ⟨_, hD, ?_, ?_, ?_⟩
      · rw [List.length_map, asInts, List.length_map, List.length_take]
        exact Nat.lt_of_le_of_lt (Nat.le_trans (Nat.min_le_left _ _) (show m ≤ 900 by omega)) (by decide)
      · exact fun b o e => by rw [upd_ne (ne_of_none e nD)]; exact sm _ _ e
      · rw [upd_same, take_snoc ec]
        unfold asInts
        rw [List.map_append, List.map_append]
        rfl
    rintro H3 ⟨s3, hD⟩
    rw [show rowM Tb i = (chI Tb ids i).length by unfold chI; rw [List.length_map, List.length_range], List.take_length] at hD
    refine ⟨D, _, rfl, .inl ⟨SqL.of hD, fun pc npc => ?_⟩⟩
    have s4 := same_upd (o := .tup ((asInts (chI Tb ids i)).map V.int)) npc
    have hc : SqT K (upd H3 pc (.tup ((asInts (chI Tb ids i)).map V.int))) pc ((asInts (chI Tb ids i)).map V.int) := SqT.of upd_same
    have t4 := (t2.same s3).same s4
    have k4 : Keep L.l H _ := k2.trans (Same.keeps (Same.trans s3 s4))
    generalize upd H3 pc (.tup ((asInts (chI Tb ids i)).map V.int)) = H4 at *
    have cpos : 0 < (chI Tb ids i).length := by
      unfold chI rowM
      rw [List.length_map, List.length_range]
      omega
    have c900 : (chI Tb ids i).length ≤ 900 := by
      unfold chI
      rw [List.length_map, List.length_range]
      exact rm9
    have cin : ∀ c ∈ chI Tb ids i, c < Tb.fs.length := fun c hc => by
      unfold chI at hc
      obtain ⟨m, hm, rfl⟩ := List.mem_map.mp hc
      obtain ⟨_, c2, c3⟩ := rix m (List.mem_range.mp hm)
      refine O.inn _ ?_
      rw [List.getD_eq_getElem?_getD, List.getElem?_eq_getElem (by omega)]
      exact List.getElem_mem _
    have q1 : (chI Tb ids i).all (fun c => decide (c = (chI Tb ids i).headD 0)) = true → ∀ H', Keep L.l H H' → TabAt P w K aT H' t L (rowT Tb i).1 → Q (.int (((chI Tb ids i).headD 0 : Nat) : Int)) H' := fun z => by
      unfold pickT at q
      rw [if_neg ne, if_pos z] at q
      exact q
    have q : ¬ (chI Tb ids i).all (fun c => decide (c = (chI Tb ids i).headD 0)) = true → ∀ H', Keep L.l H H' → TabAt P w K aT H' t L (placeT (rowT Tb i).1 (.pick (chI Tb ids i ++ [(rowT Tb i).2])) (lst ((chI Tb ids i).map Tb.lo)) (grt ((chI Tb ids i).map Tb.hi))).1 → Q (.int ((placeT (rowT Tb i).1 (.pick (chI Tb ids i ++ [(rowT Tb i).2])) (lst ((chI Tb ids i).map Tb.lo)) (grt ((chI Tb ids i).map Tb.hi))).2 : Int)) H' := fun z => by
      unfold pickT at q
      rw [if_neg ne, if_neg z] at q
      exact q
    have hp := True.intro
    clear hD s3 s4 nD hp3 at_ rix
    have cl0 : (chI Tb ids i)[0]? = some ((chI Tb ids i).headD 0) := by
      cases e : chI Tb ids i with
      | nil => rw [e] at cpos; exact absurd cpos (Nat.lt_irrefl 0)
      | cons a r => rfl
    generalize chI Tb ids i = ch at *
    have at0 : atI ((asInts ch).map V.int) ((0 : Nat) : Int) = some (.int ((ch.headD 0 : Nat) : Int)) := atI_nat (by
      unfold asInts
      rw [List.getElem?_map, List.getElem?_map, cl0]
      rfl)
    have chl : ((asInts ch).map V.int).length = ch.length := by rw [List.length_map, asInts, List.length_map]
    refine ⟨_, rfl, pc, rfl, ⟨_, hc⟩, fun D2 nD2 => lc_tup (K := K) (a := pc) (xs := (asInts ch).map V.int) (fun m H' => Same H4 H' ∧ H' D2 = some (.lst (((ch.take m).map fun c => decide (c = ch.headD 0)).map V.bl)))
      ⟨same_upd nD2, upd_same⟩ (fun m H' _ h => sqT_same hc h.1) ?_ ?_⟩
    · rintro m x H' hm ⟨sm, hD⟩
      obtain ⟨c, rfl, hcm⟩ := nat_item hm
      refine ⟨rfl, ?_⟩
      unfold tYes
      dsimp only
      rw [if_pos rfl]
      refine ⟨_, rfl, _, rfl, pc, _, (0 : Nat), _, rfl, rfl, sqT_same hc sm, at0, rfl, ?_⟩
      refine ⟨_, hD, ?_, ?_, ?_⟩
      · rw [List.length_map, List.length_map, List.length_take]
        exact lt900 (Nat.le_trans (Nat.min_le_right _ _) c900)
      · exact fun b o e => by rw [upd_ne (ne_of_none e nD2)]; exact sm _ _ e
      · rw [upd_same, take_snoc hcm, List.map_append, List.map_append]
        exact congrArg (fun z => some (HO.lst (_ ++ [V.bl z]))) dec_nat
    rintro H5 ⟨s5, hD5⟩
    rw [chl, List.take_length] at hD5
    have t5 := t4.same s5
    have k5 := k4.trans (Same.keeps s5)
    have hc5 := sqT_same hc s5
    refine ⟨D2, _, rfl, SqL.of hD5, _, rfl, ite2 (fun e => ?_) (fun e => ?_)⟩
    · rw [List.all_map] at e
      exact ⟨_, rfl, pc, _, (0 : Nat), _, rfl, rfl, hc5, at0, q1 e H5 k5 t5⟩
    rw [List.all_map] at e
    have q := q e
    clear q1 e hD5
    refine ⟨_, rfl, pc, rfl, ⟨_, hc5⟩, fun D3 nD3 => lc_tup (K := K) (a := pc) (xs := (asInts ch).map V.int) (fun m H' => Same H5 H' ∧ ∃ qs : List Addr, H' D3 = some (.lst (qs.map V.ref)) ∧ qs.length = m ∧ ∀ (k : Nat) (q : Addr) (c : Nat), qs[k]? = some q → ch[k]? = some c → SqT K H' q [.int (Tb.lo c), .int (Tb.hi c)])
      ⟨same_upd nD3, [], upd_same, rfl, fun k q c h => by simp at h⟩ (fun m H' _ h => sqT_same hc5 h.1) ?_ ?_⟩
    · rintro m x H' hm ⟨sm, qs, hD, ql, hqs⟩
      obtain ⟨c, rfl, hcm⟩ := nat_item hm
      have cm := cin c (List.mem_of_getElem? hcm)
      have t6 := t5.same sm
      obtain ⟨⟨dx6, h6⟩, _⟩ := id t6
      obtain ⟨el, eh⟩ := rsp c cm
      refine ⟨rfl, ?_⟩
      unfold tYes
      dsimp only
      rw [if_pos rfl]
      refine ⟨_, rfl, t, dx6, _, rfl, h6, rfl, _, rfl, t, L, (rowT Tb i).1, c, rfl, t6, by rw [rsl]; omega, fun pq hpq => ?_⟩
      rw [el, eh] at hpq
      have ml : m < ch.length := (List.getElem?_eq_some_iff.mp hcm).1
      refine ⟨_, hD, by rw [List.length_map, ql]; exact lt900 (by omega), fun b o e => by rw [upd_ne (ne_of_none e nD3)]; exact sm _ _ e, qs ++ [pq], by rw [upd_same, List.map_append]; rfl, by rw [List.length_append, ql]; rfl, fun k q0 c0 e1 e2 => ?_⟩
      have keep : ∀ q0 lo hi, SqT K H' q0 [.int lo, .int hi] → SqT K (upd H' D3 (.lst (qs.map V.ref ++ [.ref pq]))) q0 [.int lo, .int hi] := fun q0 lo hi h => by
        refine sqT_kt h fun b o io e => ?_
        rw [upd_ne (fun z => by rw [z, hD] at e; cases e; exact io)]
        exact e
      rcases get_snoc e1 with ⟨a1, a2⟩ | ⟨a1, a2⟩
      · exact keep _ _ _ (hqs k q0 c0 a2 e2)
      · rw [a1, ql, hcm] at e2
        cases e2
        rw [a2]
        exact keep _ _ _ hpq
    rintro H6 ⟨s6, qs, hD6, ql, hqs⟩
    rw [chl] at ql
    have t6 := t5.same s6
    have k6 := k5.trans (Same.keeps s6)
    have hc6 := sqT_same hc5 s6
    have qne : (qs.map V.ref).length = ch.length := by rw [List.length_map, ql]
    refine ⟨_, rfl, D3, rfl, ⟨_, SqL.of hD6⟩, fun D4 nD4 => lc_list (K := K) (a := D3) (xs := qs.map V.ref) (fun m H' => Same H6 H' ∧ H' D4 = some (.lst (((ch.take m).map Tb.lo).map V.int)))
      ⟨same_upd nD4, upd_same⟩ (fun m H' _ h => SqL.of (h.1 _ _ hD6)) ?_ ?_⟩
    · rintro m x H' hm ⟨sm, hD⟩
      rw [List.getElem?_map] at hm
      obtain ⟨q0, hqm, rfl⟩ : ∃ q0, qs[m]? = some q0 ∧ x = V.ref q0 := by
        cases e : qs[m]? with
        | none => rw [e] at hm; cases hm
        | some q0 =>
          rw [e] at hm
          exact ⟨q0, rfl, (Option.some.inj hm).symm⟩
      have ml : m < ch.length := by rw [← ql]; exact (List.getElem?_eq_some_iff.mp hqm).1
      have hcm : ch[m]? = some ch[m] := List.getElem?_eq_getElem ml
      refine ⟨rfl, ?_⟩
      unfold tYes
      dsimp only
      rw [if_pos rfl]
      refine ⟨_, rfl, q0, _, (0 : Nat), _, rfl, rfl, sqT_same (hqs m q0 _ hqm hcm) sm, i0, ?_⟩
      refine ⟨_, hD, ?_, ?_, ?_⟩
      · rw [List.length_map, List.length_map, List.length_take]
        exact lt900 (Nat.le_trans (Nat.min_le_right _ _) c900)
      · exact fun b o e => by rw [upd_ne (ne_of_none e nD4)]; exact sm _ _ e
      · rw [upd_same, take_snoc hcm, List.map_append, List.map_append]
        rfl
    rintro H7 ⟨s7, hD7⟩
    rw [qne, List.take_length] at hD7
    refine ⟨D4, ch.map Tb.lo, rfl, SqL.of hD7, by rw [List.length_map]; exact cpos, fun mm hm1 hm2 => ?_⟩
    obtain rfl := lst_is hm1 hm2
    have t7 := t6.same s7
    have k7 := k6.trans (Same.keeps s7)
    have hc7 := sqT_same hc6 s7
    have hqs7 : ∀ (k : Nat) (q : Addr) (c : Nat), qs[k]? = some q → ch[k]? = some c → SqT K H7 q [.int (Tb.lo c), .int (Tb.hi c)] := fun k q0 c e1 e2 => sqT_same (hqs k q0 c e1 e2) s7
    have hD37 := s7 _ _ hD6
    obtain ⟨⟨dx7, h7⟩, _⟩ := id t7
    refine ⟨_, rfl, t, dx7, _, rfl, h7, rfl, _, rfl, _, rfl, by show 1 ≤ sizeLine; decide, fun p8 np8 => ?_⟩
    have s8 := same_upd (o := .tup [V.int ((rowT Tb i).2 : Int)]) np8
    have h8 : SqT K (upd H7 p8 (.tup [V.int ((rowT Tb i).2 : Int)])) p8 [V.int ((rowT Tb i).2 : Int)] := SqT.of upd_same
    have hc8 := sqT_same hc7 s8
    generalize upd H7 p8 (.tup [V.int ((rowT Tb i).2 : Int)]) = H8 at *
    refine ⟨pc, p8, _, _, rfl, rfl, hc8, h8, fun z => ?_, ?_, fun z => (nomatch z), fun _ p9 np9 => ?_⟩
    · have := congrArg List.length z
      rw [chl] at this
      exact absurd this (Nat.ne_of_gt cpos)
    · rw [chl, sizeLine_eq]
      show ch.length + 1 ≤ _
      omega
    rw [asInts_snoc]
    have s9 := same_upd (o := .tup ((asInts (ch ++ [(rowT Tb i).2])).map V.int)) np9
    have h9' : SqT K (upd H8 p9 (.tup ((asInts (ch ++ [(rowT Tb i).2])).map V.int))) p9 ((asInts (ch ++ [(rowT Tb i).2])).map V.int) := SqT.of upd_same
    generalize upd H8 p9 (.tup ((asInts (ch ++ [(rowT Tb i).2])).map V.int)) = H9 at *
    refine ⟨by show 0 ≤ sizeLine; decide, fun p10 np10 => ?_⟩
    have s10 := same_upd (o := .tup []) np10
    have h10 : SqT K (upd H9 p10 (.tup [])) p10 [] := SqT.of upd_same
    generalize upd H9 p10 (.tup []) = H10 at *
    refine ⟨by show 3 ≤ sizeLine; decide, fun p11 np11 => ?_⟩
    have s11 := same_upd (o := .tup [V.str "pick", .ref p9, .ref p10]) np11
    have h11 : FmAt K (upd H10 p11 (.tup [V.str "pick", .ref p9, .ref p10])) p11 (.pick (ch ++ [(rowT Tb i).2])) := ⟨p9, p10, SqT.of upd_same, sqT_same (sqT_same h9' s10) s11, sqT_same h10 s11⟩
    generalize upd H10 p11 (.tup [V.str "pick", .ref p9, .ref p10]) = H11 at *
    have s711 := Same.trans (Same.trans s8 s9) (Same.trans s10 s11)
    have t11 := t7.same s711
    have k11 := k7.trans (Same.keeps s711)
    have hqs11 : ∀ (k : Nat) (q : Addr) (c : Nat), qs[k]? = some q → ch[k]? = some c → SqT K H11 q [.int (Tb.lo c), .int (Tb.hi c)] := fun k q0 c e1 e2 => sqT_same (hqs7 k q0 c e1 e2) s711
    have hD311 := s711 _ _ hD37
    refine ⟨_, rfl, _, rfl, D3, rfl, ⟨_, SqL.of hD311⟩, fun D5 nD5 => lc_list (K := K) (a := D3) (xs := qs.map V.ref) (fun m H' => Same H11 H' ∧ H' D5 = some (.lst (((ch.take m).map Tb.hi).map V.int)))
      ⟨same_upd nD5, upd_same⟩ (fun m H' _ h => SqL.of (h.1 _ _ hD311)) ?_ ?_⟩
    · rintro m x H' hm ⟨sm, hD⟩
      rw [List.getElem?_map] at hm
      obtain ⟨q0, hqm, rfl⟩ : ∃ q0, qs[m]? = some q0 ∧ x = V.ref q0 := by
        cases e : qs[m]? with
        | none => rw [e] at hm; cases hm
        | some q0 =>
          rw [e] at hm
          exact ⟨q0, rfl, (Option.some.inj hm).symm⟩
      have ml : m < ch.length := by rw [← ql]; exact (List.getElem?_eq_some_iff.mp hqm).1
      have hcm : ch[m]? = some ch[m] := List.getElem?_eq_getElem ml
      refine ⟨rfl, ?_⟩
      unfold tYes
      dsimp only
      rw [if_pos rfl]
      refine ⟨_, rfl, q0, _, (1 : Nat), _, rfl, rfl, sqT_same (hqs11 m q0 _ hqm hcm) sm, i1, ?_⟩
      refine ⟨_, hD, ?_, ?_, ?_⟩
      · rw [List.length_map, List.length_map, List.length_take]
        exact lt900 (Nat.le_trans (Nat.min_le_right _ _) c900)
      · exact fun b o e => by rw [upd_ne (ne_of_none e nD5)]; exact sm _ _ e
      · rw [upd_same, take_snoc hcm, List.map_append, List.map_append]
        rfl
    rintro H12 ⟨s12, hD12⟩
    rw [qne, List.take_length] at hD12
    refine ⟨D5, ch.map Tb.hi, rfl, SqL.of hD12, by rw [List.length_map]; exact cpos, fun mm hm1 hm2 => ?_⟩
    obtain rfl := grt_is hm1 hm2
    exact ⟨t, p11, L, (rowT Tb i).1, _, _, _, rfl, t11.same s12, h11.kt (Same.kt s12), True.intro, rpl, rsl, r9, fun H13 k13 t13 => q H13 ((k11.trans (Same.keeps s12)).trans k13) t13⟩
end
/-- the suite of an except clause, by what is known when it is reached -/
def tSu (X : Cx) (sts : List Stmt) : Addr → Value → Option Addr → TS := fun a cls d D σ H => ∀ (oe : Obj) (pn : List (Addr × Obj)), Zc cls d oe → (∃ vs, oe.data = .fields vs) → ∃ t, PSs (X.suite a ((a, oe) :: pn)) sts t ∧ t D σ H
theorem su_ok {X : Cx} {sts : List Stmt} {a : Addr} {cls : Value} {d : Option Addr} {oe : Obj} {pn : List (Addr × Obj)} (hz : Zc cls d oe) (hf : ∃ vs, oe.data = .fields vs) : PSs (X.suite a ((a, oe) :: pn)) sts (tSu X sts a cls d) :=
  ⟨fun pins s σ H D I h => by
    obtain ⟨t, p, q⟩ := h oe pn hz hf
    exact p.run pins s σ H D I q⟩

section
variable {X : Cx} {CX : CXT} {k : Nat} {f C : Addr} {fd : FuncData} {ps : List Str} {sp : Sp} {E : St → XK} {m : Str} {pos apos : Pos} {e o : Expr} {es : List Expr} {ta : TE} {t : TA}
def tMethE (C : Addr) (m : Str) (sp : Sp) (E : St → XK) (ta : TE) (t : TA) : TE := fun σ H Q => ta σ H fun x H1 => ∃ a dx fs, x = .ref a ∧ H1 a = some (.ins C dx fs) ∧ fs.lookup m = none ∧ t σ H1 fun vs H2 => sp (x :: vs) H2 Q (E σ)
/-- a method that may raise, within a suite that catches -/
theorem pe_methE {pl : _root_.PySem.Sem Bool} (he : PE X o ta) (c : Cls X.K C) (hm : Meth X.K C m f) (F : FnOk X.prog X.w X.K X.mg X.base CX k f fd ps sp) (hr : Room k X.A) (hb : Binds X.K fd ps []) (hx : ∀ σ, PassesAt CX X σ (E σ)) (ha : PA X (e :: es) t)
    (hst : starEach (e :: es) X.env = (false, eval e X.env) :: starEach es X.env := by rfl) (hpl : (backTo pos (starEach es X.env)).any (·.1) = false := by rfl)
    (ht : eval (.Call (.Attribute o m apos) (e :: es) [] pos) X.env = (do
      let ov ← eval o X.env
      standAt apos.atName
      let (f, first) ← holding [ov] (getMethod ov m pl)
      callWith pos f first (backTo pos (starEach (e :: es) X.env)) (backToKw pos (keywordEach [] X.env))) := by rfl) :
    PE X (.Call (.Attribute o m apos) (e :: es) [] pos) (tMethE C m sp E ta t) := by
  refine ⟨fun pins s σ H Q I h => ?_⟩
  refine PySem.W.methodCall_KW (pl := pl) (thn (he.run pins s σ H _ I h) fun u s1 ⟨x, H1, I1, rx, a, dx, fs, ex, ea, l, q⟩ => ?_) ht
  subst ex
  obtain rfl : u = Value.ref a := rx
  refine getmeth_ok I1 ea c hm l ?_
  refine PySem.W.callWith_K (first := [.ref a]) (h₀ := X.base) I.ok.mod.kin hm.kp (thn (ha.run pos pins s1 σ H1 _ I1 q) fun us s2 ⟨vs, H2, I2, r, q2⟩ => ⟨I2.kIn, ?_⟩) hst hpl
  exact run_fnS (us := .ref a :: us) (vs := .ref a :: vs) F hr hb (hx σ) I2 (.cons rfl r) q2
end
section
variable {P : Program} {w : World} {K : PySem.W.Frag} {mg : Str → Option Value} {base : Heap} {aT : Addr}
structure TxtE (K : PySem.W.Frag) (mg : Str → Option Value) (nm : Str) (Z TE : Addr) : Prop where
  nT : ErrN K mg "TensorError" TE
  gZ : mg nm = some (.ref Z)
  isi : mg "isinstance" = none
  sub : PySem.W.subIn K (.ref Z) (.ref TE) = some true
  exc : ExcC K Z
  kit : PySem.W.kitOne K (.ref Z) (.ref Z) = some true
def spToldP (P : Program) (w : World) (K : PySem.W.Frag) (aT : Addr) : Sp := fun vs H Q _ => ∃ (t p : Addr) (L : Own) (T : Tb) (ids : List Nat) (i : Nat), vs = [.ref t, .ref p, .int (i : Int)] ∧ TabAt P w K aT H t L T ∧ InT T i ∧ SqT K H p ((asInts ids).map V.int) ∧ ids.length ≤ 900 ∧
  ((T.lo i < 0 ∨ (ids.length : Int) ≤ T.hi i) → Q .non H) ∧
  (¬ (T.lo i < 0 ∨ (ids.length : Int) ≤ T.hi i) → PickOk T ids i ∧ ∀ H', Keep L.l H H' → TabAt P w K aT H' t L (pickT T ids i).1 → Q (.int ((pickT T ids i).2 : Int)) H')
abbrev nTP : List Str := ["table", "ids", "index", "found", "e"]
theorem scTP : FnScope nTP ["table", "ids", "index"] (defScope s_law_told) := ⟨rfl, rfl, rfl, by decide +kernel, rfl, by decide +kernel, by decide +kernel⟩
theorem ok_toldP {f Z TE : Addr} {fd : FuncData} (F : Fun K "_law_told" "_law_told" s_law_told f fd) (T : TxtE K mg "FormError" Z TE) (C : TmC K aT) (hPk : ∃ (f : Addr) (fd : FuncData), Meth K aT "pick" f ∧ FnOk P w K mg base (L2.CX P w) 5 f fd ["self", "ids", "index"] (spPick P w K aT Z) ∧ Binds K fd ["self", "ids", "index"] []) :
    FnOk P w K mg base CX0 6 f fd ["table", "ids", "index"] (spToldP P w K aT) := by
  obtain ⟨fpk, dpk, mpk, Gpk, bpk⟩ := hPk
  have cT := C.c
  refine F.ok scTP (fun vs H Q E h => ?_) (fun cdv A outer s H vs Q E hr5 h => ?_)
  · obtain ⟨_, _, _, _, _, _, rfl, _⟩ := h
    rfl
  · obtain ⟨t, p, L, Tb, ids, i, rfl, hT, hi, hp, h9, hE, hq⟩ := h
    refine ⟨_, pss_cons (ps_try_as (i := 4) (tb := fun W => tAsg (tMethE aT "pick" (spPick P w K aT Z) (WE W) (tVar 0) (tCons (tVar 1) (tCons (tVar 2) tNil))) (gName 3)) (Wout := fun _ _ _ _ => False) rfl rfl scTP.nd rfl rfl ⟨rfl, by decide, Or.inl T.nT.g⟩ takes0
        (fun W pn xe tk _ => pss_one (ps_set (i := 3) scTP.nd rfl (.inl rfl) (by exact (pe_methE (pv 0) cT mpk Gpk hr5 bpk (fun σ => passAt tk σ) (by exact (pa_cons (pv 1) (pa_cons (pv 2) pa_nil)))))))
        (fun a oe cls d pn hz hf => su_ok hz hf))
      (pss_one (ps_ret (pv 3))), ?_⟩
    obtain ⟨⟨dx, h1⟩, _⟩ := id hT
    refine ⟨_, rfl, t, dx, _, rfl, h1, rfl, _, rfl, _, rfl, t, p, L, Tb, ids, i, rfl, hT, hi, hp, h9, fun out => ?_, fun nout => ?_⟩
    · refine ⟨true, T.nT.ex T.sub, fun _ ax hax => fun oe pn hz hf => ?_, fun z => nomatch z⟩
      refine ⟨_, pss_one (ps_ret (pe_ifExp (pt_val (pe_callB (call_isE T.exc hz hf) (by rfl) T.isi (by decide +kernel) (pa_cons (pv 4) (pa_cons (pe_glob (v := .ref Z) (by rfl) T.gZ rfl) pa_nil)))) pe_non pe_str)), ?_⟩
      exact ⟨_, rfl, _, _, _, rfl, fun _ h => h, T.kit, _, rfl, iteTd rfl (hE out)⟩
    · obtain ⟨O, q⟩ := hq nout
      exact ⟨O, fun H' k' t' => ⟨_, rfl, q H' k' t'⟩⟩
end
/-! ### what a row is -/
theorem gcdP_snoc (ps : List (Nat × Int)) (p : Nat × Int) : gcdP (ps ++ [p]) = ((Nat.gcd (gcdP ps).natAbs p.2.natAbs : Nat) : Int) := by
  unfold gcdP
  rw [List.foldl_append]
  rfl
theorem gcdP_nonneg (ps : List (Nat × Int)) : 0 ≤ gcdP ps := by
  rcases List.eq_nil_or_concat ps with rfl | ⟨l, p, rfl⟩
  · exact Int.le_refl 0
  · rw [List.concat_eq_append, gcdP_snoc]
    exact Int.natCast_nonneg _
theorem gcdP_dvd : ∀ (n : Nat) (ps : List (Nat × Int)), ps.length = n → ∀ p ∈ ps, gcdP ps ∣ p.2
  | 0, ps, h, p, hp => by rw [List.length_eq_zero_iff.mp h] at hp; cases hp
  | n + 1, ps, h, p, hp => by
    rcases List.eq_nil_or_concat ps with rfl | ⟨l, q, e⟩
    · cases hp
    · rw [List.concat_eq_append] at e
      subst e
      rw [List.length_append, List.length_singleton] at h
      rw [gcdP_snoc]
      rcases List.mem_append.mp hp with hp | hp
      · have ih := gcdP_dvd n l (by omega) p hp
        refine Int.dvd_trans ?_ ih
        exact Int.natAbs_dvd_natAbs.mp (by rw [Int.natAbs_natCast]; exact Nat.gcd_dvd_left _ _)
      · rw [List.mem_singleton.mp hp]
        exact Int.natAbs_dvd_natAbs.mp (by rw [Int.natAbs_natCast]; exact Nat.gcd_dvd_right _ _)
theorem byP_abs (ps : List (Nat × Int)) : (byP ps).natAbs = (gcdP ps).natAbs := by
  unfold byP
  split
  · exact Int.natAbs_neg _
  · rfl
theorem byP_dvd (ps : List (Nat × Int)) : ∀ p ∈ ps, byP ps ∣ p.2 := fun p hp => by
  have := gcdP_dvd _ ps rfl p hp
  unfold byP
  split
  · exact Int.neg_dvd.mpr this
  · exact this
theorem byP_ne {ps : List (Nat × Int)} {p : Nat × Int} (hp : p ∈ ps) (h : p.2 ≠ 0) : byP ps ≠ 0 := fun z => by
  have := byP_dvd ps p hp
  rw [z] at this
  exact h (Int.zero_dvd.mp this)
theorem byP_le {ps : List (Nat × Int)} {p : Nat × Int} (hp : p ∈ ps) (h : p.2 ≠ 0) : (byP ps).natAbs ≤ p.2.natAbs := Nat.le_of_dvd (by omega) (Int.natAbs_dvd_natAbs.mpr (byP_dvd ps p hp))
/-- what the pairs are worth -/
def psV (v : Nat → Int) (ps : List (Nat × Int)) : Int := (ps.map fun p => p.2 * v p.1).sum
theorem psV_mul (v : Nat → Int) (c : Int) (qs : List (Nat × Int)) : c * psV v qs = (qs.map fun p => c * (p.2 * v p.1)).sum := by
  induction qs with
  | nil => exact Int.mul_zero c
  | cons q qs ih =>
    show c * (q.2 * v q.1 + psV v qs) = _
    rw [Int.mul_add, ih]
    rfl
theorem row_sum (v : Nat → Int) (ps : List (Nat × Int)) : byP ps * psV v (rowPs ps) = psV v ps := by
  rw [psV_mul]
  unfold rowPs psV
  rw [List.map_map]
  congr 1
  refine List.map_congr_left fun p hp => ?_
  show byP ps * (p.2.fdiv (byP ps) * v p.1) = p.2 * v p.1
  rw [← Int.mul_assoc, Int.mul_comm (byP ps), Int.fdiv_mul_cancel (byP_dvd ps p hp)]
/-- all factors negated -/
theorem gcdP_neg : ∀ (n : Nat) (ps : List (Nat × Int)), ps.length = n → gcdP (ps.map fun p => (p.1, -p.2)) = gcdP ps
  | 0, ps, h => by rw [List.length_eq_zero_iff.mp h]; rfl
  | n + 1, ps, h => by
    rcases List.eq_nil_or_concat ps with rfl | ⟨l, q, e⟩
    · rfl
    · rw [List.concat_eq_append] at e
      subst e
      rw [List.length_append, List.length_singleton] at h
      rw [List.map_append, gcdP_snoc]
      show gcdP (l.map (fun p => (p.1, -p.2)) ++ [(q.1, -q.2)]) = _
      rw [gcdP_snoc, gcdP_neg n l (by omega), Int.natAbs_neg]
theorem byP_neg {ps : List (Nat × Int)} (h : (ps.headD (0, 0)).2 ≠ 0) : byP (ps.map fun p => (p.1, -p.2)) = -(byP ps) := by
  have hh : ((ps.map fun p => (p.1, -p.2)).headD (0, 0)).2 = -(ps.headD (0, 0)).2 := by
    cases ps with
    | nil => rfl
    | cons q r => rfl
  unfold byP
  rw [hh, gcdP_neg _ ps rfl]
  by_cases c : (ps.headD (0, 0)).2 < 0
  · rw [if_pos c, if_neg (by omega), Int.neg_neg]
  · rw [if_neg c, if_pos (by omega)]
theorem rowPs_neg {ps : List (Nat × Int)} (h : (ps.headD (0, 0)).2 ≠ 0) : rowPs (ps.map fun p => (p.1, -p.2)) = rowPs ps := by
  unfold rowPs
  rw [byP_neg h, List.map_map]
  refine List.map_congr_left fun p hp => ?_
  show (p.1, (-p.2).fdiv (-(byP ps))) = _
  rw [Int.neg_fdiv_neg]
/-! ### a row moved, a row turned -/
theorem mn_comm (a b : Int) : mn a b = mn b a := by
  unfold mn
  split <;> split <;> omega
theorem mx_comm (a b : Int) : mx a b = mx b a := by
  unfold mx
  split <;> split <;> omega
theorem row_shift {T T' : Tb} {i j : Nat} {k : Int} (hs : sumOf T' j = ((sumOf T i).1 + k, (sumOf T i).2)) (hl : T'.lo j = T.lo i + k) (hh : T'.hi j = T.hi i + k) :
    rowLo T' j = rowLo T i ∧ rowHi T' j = rowHi T i ∧ rowPs (sumOf T' j).2 = rowPs (sumOf T i).2 ∧ byP (sumOf T' j).2 = byP (sumOf T i).2 ∧ rowF T' j = rowF T i + k ∧ rowM T' j = rowM T i := by
  have e1 : rowE1 T' j = rowE1 T i := by
    unfold rowE1
    rw [hs, hl]
    congr 1
    show T.lo i + k - ((sumOf T i).1 + k) = _
    omega
  have e2 : rowE2 T' j = rowE2 T i := by
    unfold rowE2
    rw [hs, hh]
    congr 1
    show T.hi i + k - ((sumOf T i).1 + k) = _
    omega
  have a1 : rowLo T' j = rowLo T i := by unfold rowLo; rw [e1, e2]
  have a2 : rowHi T' j = rowHi T i := by unfold rowHi; rw [e1, e2]
  refine ⟨a1, a2, by rw [hs], by rw [hs], ?_, ?_⟩
  · unfold rowF
    rw [a1, hs]
    show (sumOf T i).1 + k + byP (sumOf T i).2 * rowLo T i = (sumOf T i).1 + byP (sumOf T i).2 * rowLo T i + k
    omega
  · unfold rowM
    rw [a1, a2]
theorem row_turn {T T' : Tb} {i j : Nat} {m : Int} (hs : sumOf T' j = (m - (sumOf T i).1, (sumOf T i).2.map fun p => (p.1, -p.2))) (hl : T'.lo j = m - T.hi i) (hh : T'.hi j = m - T.lo i) (h0 : ((sumOf T i).2.headD (0, 0)).2 ≠ 0) :
    rowLo T' j = rowLo T i ∧ rowHi T' j = rowHi T i ∧ rowPs (sumOf T' j).2 = rowPs (sumOf T i).2 ∧ byP (sumOf T' j).2 = -(byP (sumOf T i).2) ∧ rowF T' j = m - rowF T i ∧ rowM T' j = rowM T i := by
  have hb : byP (sumOf T' j).2 = -(byP (sumOf T i).2) := by rw [hs]; exact byP_neg h0
  have e1 : rowE1 T' j = rowE2 T i := by
    unfold rowE1 rowE2
    rw [hb, hl, hs]
    show (m - T.hi i - (m - (sumOf T i).1)).fdiv _ = _
    rw [show m - T.hi i - (m - (sumOf T i).1) = -(T.hi i - (sumOf T i).1) by omega, Int.neg_fdiv_neg]
  have e2 : rowE2 T' j = rowE1 T i := by
    unfold rowE1 rowE2
    rw [hb, hh, hs]
    show (m - T.lo i - (m - (sumOf T i).1)).fdiv _ = _
    rw [show m - T.lo i - (m - (sumOf T i).1) = -(T.lo i - (sumOf T i).1) by omega, Int.neg_fdiv_neg]
  have a1 : rowLo T' j = rowLo T i := by unfold rowLo; rw [e1, e2, mn_comm]
  have a2 : rowHi T' j = rowHi T i := by unfold rowHi; rw [e1, e2, mx_comm]
  refine ⟨a1, a2, by rw [hs]; exact rowPs_neg h0, hb, ?_, ?_⟩
  · unfold rowF
    rw [a1, hb, Int.neg_mul, hs]
    show m - (sumOf T i).1 + -(byP (sumOf T i).2 * rowLo T i) = m - ((sumOf T i).1 + byP (sumOf T i).2 * rowLo T i)
    omega
  · unfold rowM
    rw [a1, a2]
theorem ch_shift {T T' : Tb} {i j : Nat} {ids pre post : List Nat} (hb : byP (sumOf T' j).2 = byP (sumOf T i).2) (hf : rowF T' j = rowF T i + (pre.length : Int)) (hm : rowM T' j = rowM T i)
    (hin : ∀ t : Nat, t < rowM T i → 0 ≤ rowF T i + byP (sumOf T i).2 * (t : Int) ∧ rowF T i + byP (sumOf T i).2 * (t : Int) < ids.length) : chI T' (pre ++ ids ++ post) j = chI T ids i := by
  unfold chI
  rw [hm]
  refine List.map_congr_left fun t ht => ?_
  obtain ⟨h0, h1⟩ := hin t (List.mem_range.mp ht)
  rw [hf, hb]
  generalize hx : byP (sumOf T i).2 * (t : Int) = x at *
  have en : (rowF T i + (pre.length : Int) + x).toNat = pre.length + (rowF T i + x).toNat := by omega
  have hl : (rowF T i + x).toNat < ids.length := by omega
  rw [en, List.getD_eq_getElem?_getD, List.getD_eq_getElem?_getD, List.append_assoc, List.getElem?_append_right (Nat.le_add_right _ _), Nat.add_sub_cancel_left, List.getElem?_append_left hl]
theorem ch_turn {T T' : Tb} {i j : Nat} {ids : List Nat} (hb : byP (sumOf T' j).2 = -(byP (sumOf T i).2)) (hf : rowF T' j = ((ids.length : Int) - 1) - rowF T i) (hm : rowM T' j = rowM T i)
    (hin : ∀ t : Nat, t < rowM T i → 0 ≤ rowF T i + byP (sumOf T i).2 * (t : Int) ∧ rowF T i + byP (sumOf T i).2 * (t : Int) < ids.length) : chI T' ids.reverse j = chI T ids i := by
  unfold chI
  rw [hm]
  refine List.map_congr_left fun t ht => ?_
  obtain ⟨h0, h1⟩ := hin t (List.mem_range.mp ht)
  rw [hf, hb, Int.neg_mul]
  generalize hx : byP (sumOf T i).2 * (t : Int) = x at *
  have hl : (rowF T i + x).toNat < ids.length := by omega
  have en : ((ids.length : Int) - 1 - rowF T i + -x).toNat = ids.length - 1 - (rowF T i + x).toNat := by omega
  rw [en, List.getD_eq_getElem?_getD, List.getD_eq_getElem?_getD, List.getElem?_reverse (by omega)]
  congr 2
  omega
/-! ### sums in order -/
abbrev SrtP (ps : List (Nat × Int)) : Prop := ps.Pairwise fun a b => a.1 < b.1
theorem sortP_id : ∀ {ps : List (Nat × Int)}, SrtP ps → sortP ps = ps
  | [], _ => rfl
  | p :: r, h => by
    obtain ⟨h1, h2⟩ := List.pairwise_cons.mp h
    show insP p (sortP r) = _
    rw [sortP_id h2]
    cases r with
    | nil => rfl
    | cons q r =>
      show (if p.1 < q.1 then p :: q :: r else q :: insP p r) = _
      rw [if_pos (h1 q List.mem_cons_self)]
theorem insP_mem {p x : Nat × Int} : ∀ {r : List (Nat × Int)}, x ∈ insP p r → x = p ∨ x ∈ r
  | [], h => .inl (List.mem_singleton.mp h)
  | q :: r, h => by
    have h : x ∈ (if p.1 < q.1 then p :: q :: r else q :: insP p r) := h
    split at h
    · rcases List.mem_cons.mp h with h | h
      · exact .inl h
      · exact .inr h
    · rcases List.mem_cons.mp h with h | h
      · exact .inr (by rw [h]; exact List.mem_cons_self)
      · rcases insP_mem h with h | h
        · exact .inl h
        · exact .inr (List.mem_cons_of_mem _ h)
theorem insP_srt {p : Nat × Int} : ∀ {r : List (Nat × Int)}, SrtP r → (∀ q ∈ r, q.1 ≠ p.1) → SrtP (insP p r)
  | [], _, _ => List.pairwise_singleton _ _
  | q :: r, h, hn => by
    obtain ⟨h1, h2⟩ := List.pairwise_cons.mp h
    show SrtP (if p.1 < q.1 then p :: q :: r else q :: insP p r)
    split
    · rename_i c
      refine List.pairwise_cons.mpr ⟨fun x hx => ?_, h⟩
      rcases List.mem_cons.mp hx with rfl | hx
      · exact c
      · exact Nat.lt_trans c (h1 x hx)
    · rename_i c
      refine List.pairwise_cons.mpr ⟨fun x hx => ?_, insP_srt h2 fun q hq => hn q (List.mem_cons_of_mem _ hq)⟩
      rcases insP_mem hx with rfl | hx
      · have := hn q List.mem_cons_self
        omega
      · exact h1 x hx
theorem sortP_mem {x : Nat × Int} : ∀ {r : List (Nat × Int)}, x ∈ sortP r → x ∈ r
  | [], h => h
  | p :: r, h => by
    rcases insP_mem (r := sortP r) h with h | h
    · rw [h]
      exact List.mem_cons_self
    · exact List.mem_cons_of_mem _ (sortP_mem h)
theorem sortP_srt : ∀ {ps : List (Nat × Int)}, (ps.map (·.1)).Nodup → SrtP (sortP ps)
  | [], _ => List.Pairwise.nil
  | p :: r, h => by
    obtain ⟨h1, h2⟩ := List.nodup_cons.mp h
    exact insP_srt (sortP_srt h2) fun q hq e => h1 (List.mem_map.mpr ⟨q, sortP_mem hq, e⟩)
theorem SrtP.nodup {ps : List (Nat × Int)} (h : SrtP ps) : (ps.map (·.1)).Nodup := List.pairwise_map.mpr (h.imp fun {a b} l => Nat.ne_of_lt l)
theorem SrtP.map {ps : List (Nat × Int)} (h : SrtP ps) (f : Int → Int) : SrtP (ps.map fun p => (p.1, f p.2)) := List.pairwise_map.mpr (h.imp fun {a b} l => l)
theorem SrtP.filter {ps : List (Nat × Int)} (h : SrtP ps) (f : Nat × Int → Bool) : SrtP (ps.filter f) := List.Pairwise.filter f h
theorem getP_no {u : Nat} : ∀ {l : List (Nat × Int)}, (∀ p ∈ l, p.1 ≠ u) → getP l u = 0
  | [], _ => rfl
  | p :: r, h => by
    show (if p.1 = u then p.2 else getP r u) = 0
    rw [if_neg (h p List.mem_cons_self)]
    exact getP_no fun q hq => h q (List.mem_cons_of_mem _ hq)
theorem putP_no {u : Nat} {c : Int} : ∀ {l : List (Nat × Int)}, (∀ p ∈ l, p.1 ≠ u) → putP l u c = l ++ [(u, c)]
  | [], _ => rfl
  | p :: r, h => by
    show (if p.1 = u then (u, c) :: r else p :: putP r u c) = _
    rw [if_neg (h p List.mem_cons_self), putP_no fun q hq => h q (List.mem_cons_of_mem _ hq)]
    rfl
theorem mergeP_new (s : Int) : ∀ {qs l : List (Nat × Int)}, (qs.map (·.1)).Nodup → (∀ q ∈ qs, ∀ p ∈ l, p.1 ≠ q.1) → mergeP l s qs = l ++ qs.map (fun q => (q.1, s * q.2)) ∧ cancP false l s qs = false
  | [], l, _, _ => ⟨(List.append_nil l).symm, rfl⟩
  | q :: qs, l, hn, h => by
    obtain ⟨h1, h2⟩ := List.nodup_cons.mp hn
    have g0 := getP_no (h q List.mem_cons_self)
    have p0 := putP_no (c := getP l q.1 + s * q.2) (h q List.mem_cons_self)
    have ih := mergeP_new s (qs := qs) (l := l ++ [(q.1, getP l q.1 + s * q.2)]) h2 fun q' hq' p hp => by
      rcases List.mem_append.mp hp with hp | hp
      · exact h q' (List.mem_cons_of_mem _ hq') p hp
      · rw [List.mem_singleton.mp hp]
        exact fun e => h1 (List.mem_map.mpr ⟨q', hq', e.symm⟩)
    constructor
    · show mergeP (putP l q.1 (getP l q.1 + s * q.2)) s qs = _
      rw [p0, ih.1, g0, Int.zero_add, List.append_assoc]
      rfl
    · show cancP (false || decide (getP l q.1 * s * q.2 < 0)) (putP l q.1 (getP l q.1 + s * q.2)) s qs = false
      rw [p0]
      rw [show (false || decide (getP l q.1 * s * q.2 < 0)) = false by rw [g0, Int.zero_mul, Int.zero_mul]; rfl]
      exact ih.2
/-- a sum and a number -/
theorem plus_num {T : Tb} {i c : Nat} {k : Int} (hc : sumOf T c = (k, [])) (hs : SrtP (sumOf T i).2) : plusF T i c 1 = (fos T ((sumOf T i).1 + 1 * k) (sumOf T i).2, T.lo i + cLo T c 1, T.hi i + cHi T c 1) := by
  unfold plusF
  rw [hc]
  show (if cancP false (sumOf T i).2 1 [] = true then _ else (fos T ((sumOf T i).1 + 1 * k) (sortP (mergeP (sumOf T i).2 1 [])), _, _)) = _
  rw [show cancP false (sumOf T i).2 1 [] = false from rfl, if_neg Bool.false_ne_true, show mergeP (sumOf T i).2 1 [] = (sumOf T i).2 from rfl, sortP_id hs]
/-- a number less a sum -/
theorem num_less {T : Tb} {i c : Nat} {k : Int} (hc : sumOf T c = (k, [])) (hs : SrtP (sumOf T i).2) : plusF T c i (-1) = (fos T (k + -1 * (sumOf T i).1) ((sumOf T i).2.map fun p => (p.1, -p.2)), T.lo c + cLo T i (-1), T.hi c + cHi T i (-1)) := by
  obtain ⟨m1, m2⟩ := mergeP_new (-1) (qs := (sumOf T i).2) (l := []) hs.nodup fun q _ p hp => (nomatch hp)
  have em : (sumOf T i).2.map (fun q => (q.1, -1 * q.2)) = (sumOf T i).2.map fun p => (p.1, -p.2) := List.map_congr_left fun p _ => by rw [Int.neg_one_mul]
  unfold plusF
  rw [hc]
  show (if cancP false [] (-1) (sumOf T i).2 = true then _ else (fos T (k + -1 * (sumOf T i).1) (sortP (mergeP [] (-1) (sumOf T i).2)), _, _)) = _
  rw [m2, if_neg Bool.false_ne_true, m1, List.nil_append, em, sortP_id (hs.map fun x => -x)]
/-- neither a number nor a sum -/
def unitF : Fm → Prop
  | .num _ => False
  | .sum _ _ => False
  | _ => True
theorem fm_of {T : Tb} {i : Nat} {f : Fm} (h : T.fs[i]? = some f) : T.fm i = f := by
  unfold Tb.fm
  rw [List.getD_eq_getElem?_getD, h]
  rfl
theorem nodup_at {α : Type} {l : List α} (nd : l.Nodup) {i j : Nat} {x : α} (h1 : l[i]? = some x) (h2 : l[j]? = some x) : i = j := by
  obtain ⟨a1, a2⟩ := List.getElem?_eq_some_iff.mp h1
  obtain ⟨b1, b2⟩ := List.getElem?_eq_some_iff.mp h2
  rcases Nat.lt_trichotomy i j with h | h | h
  · exact absurd (a2.trans b2.symm) (List.pairwise_iff_getElem.mp nd i j a1 b1 h)
  · exact h
  · exact absurd (b2.trans a2.symm) (List.pairwise_iff_getElem.mp nd j i b1 a1 h)
theorem sum_back {T T' : Tb} {j : Nat} {n : Int} {ps : List (Nat × Int)} (hj : T'.fs[j]? = some (fos T n ps)) (X : Ext T T') (nd : T'.fs.Nodup) (hu : ∀ p ∈ ps, p.1 < T.fs.length ∧ unitF (T.fm p.1)) : sumOf T' j = (n, ps) := by
  have gen : T'.fs[j]? = some (.sum n ps) → sumOf T' j = (n, ps) := fun e => by
    unfold sumOf
    rw [fm_of e]
  match ps, hj, hu, gen with
  | [], hj, _, gen => exact gen hj
  | [(u, c)], hj, hu, gen =>
    have hj : T'.fs[j]? = some (if n = 0 ∧ c = 1 then T.fm u else .sum n [(u, c)]) := hj
    by_cases e : n = 0 ∧ c = 1
    · rw [if_pos e] at hj
      obtain ⟨h1, h2⟩ := hu (u, c) List.mem_cons_self
      have hu' := X.at_ (fm_at h1)
      have ej : j = u := nodup_at nd hj hu'
      subst ej
      rw [e.1, e.2]
      unfold sumOf
      rw [fm_of hj]
      revert h2
      show unitF (T.fm j) → _
      cases T.fm j with
      | num _ => exact fun z => z.elim
      | sum _ _ => exact fun z => z.elim
      | var _ => exact fun _ => rfl
      | op _ _ => exact fun _ => rfl
      | pick _ => exact fun _ => rfl
    · rw [if_neg e] at hj
      exact gen hj
  | p :: q :: r, hj, _, gen => exact gen hj
theorem sumOf_ext {T T' : Tb} (X : Ext T T') {i : Nat} (h : i < T.fs.length) : sumOf T' i = sumOf T i := by
  unfold sumOf
  rw [fm_of (X.at_ (fm_at h))]
theorem fos_ext {T T' : Tb} (X : Ext T T') {n : Int} {ps : List (Nat × Int)} (h : ∀ p ∈ ps, p.1 < T.fs.length) : fos T' n ps = fos T n ps := by
  match ps, h with
  | [], _ => rfl
  | [(u, c)], h =>
    show (if n = 0 ∧ c = 1 then T'.fm u else _) = (if n = 0 ∧ c = 1 then T.fm u else _)
    rw [fm_of (X.at_ (fm_at (h (u, c) List.mem_cons_self)))]
  | _ :: _ :: _, _ => rfl
/-- sums of a table stand in order, of units -/
structure SumS (T : Tb) : Prop where
  srt : ∀ i, i < T.fs.length → SrtP (sumOf T i).2
  un : ∀ i, i < T.fs.length → ∀ p ∈ (sumOf T i).2, p.1 < T.fs.length ∧ unitF (T.fm p.1) ∧ p.2 ≠ 0
/-! ### a row within its interval -/
theorem row_in {T : Tb} {i : Nat} (b0 : byP (sumOf T i).2 ≠ 0) (h1 : byP (sumOf T i).2 ∣ T.lo i - (sumOf T i).1) (h2 : byP (sumOf T i).2 ∣ T.hi i - (sumOf T i).1) (lh : T.lo i ≤ T.hi i) :
    rowLo T i ≤ rowHi T i ∧ ∀ t : Nat, t < rowM T i → T.lo i ≤ rowF T i + byP (sumOf T i).2 * (t : Int) ∧ rowF T i + byP (sumOf T i).2 * (t : Int) ≤ T.hi i := by
  have e1 : rowE1 T i * byP (sumOf T i).2 = T.lo i - (sumOf T i).1 := Int.fdiv_mul_cancel h1
  have e2 : rowE2 T i * byP (sumOf T i).2 = T.hi i - (sumOf T i).1 := Int.fdiv_mul_cancel h2
  unfold rowF rowM rowLo rowHi
  generalize byP (sumOf T i).2 = g at *
  generalize rowE1 T i = a at *
  generalize rowE2 T i = c at *
  generalize (sumOf T i).1 = n at *
  generalize T.lo i = lo at *
  generalize T.hi i = hi at *
  have ea : g * a = lo - n := by rw [Int.mul_comm]; exact e1
  have ec : g * c = hi - n := by rw [Int.mul_comm]; exact e2
  rcases Int.lt_or_gt_of_ne b0 with hg | hg
  · have hca : c ≤ a := by
      apply Decidable.byContradiction
      intro z
      have := Int.mul_lt_mul_of_neg_left (show a < c by omega) hg
      omega
    have m1 : mn a c = c := by unfold mn; split <;> omega
    have m2 : mx a c = a := by unfold mx; split <;> omega
    rw [m1, m2]
    refine ⟨hca, fun t ht => ?_⟩
    have ht2 : (t : Int) ≤ a - c := by omega
    have k1 : g * (a - c) ≤ g * (t : Int) := Int.mul_le_mul_of_nonpos_left (Int.le_of_lt hg) ht2
    have k2 : g * (t : Int) ≤ 0 := Int.mul_nonpos_of_nonpos_of_nonneg (Int.le_of_lt hg) (Int.natCast_nonneg t)
    rw [Int.mul_sub] at k1
    omega
  · have hac : a ≤ c := by
      apply Decidable.byContradiction
      intro z
      have := Int.mul_lt_mul_of_pos_left (show c < a by omega) hg
      omega
    have m1 : mn a c = a := by unfold mn; split <;> omega
    have m2 : mx a c = c := by unfold mx; split <;> omega
    rw [m1, m2]
    refine ⟨hac, fun t ht => ?_⟩
    have ht2 : (t : Int) ≤ c - a := by omega
    have k1 : g * (t : Int) ≤ g * (c - a) := Int.mul_le_mul_of_nonneg_left ht2 (Int.le_of_lt hg)
    have k2 : 0 ≤ g * (t : Int) := Int.mul_nonneg (Int.le_of_lt hg) (Int.natCast_nonneg t)
    rw [Int.mul_sub] at k1
    omega
theorem sum_val {T : Tb} {ρ : PyData → Int} {v : Nat → Int} (S : Sem T ρ v) {i : Nat} (h : i < T.fs.length) : v i = (sumOf T i).1 + psV v (sumOf T i).2 := by
  have e := S.at_ i _ (fm_at h)
  have one : v i = 0 + psV v [(i, 1)] := by
    show v i = 0 + (1 * v i + 0)
    omega
  unfold sumOf
  cases hf : T.fm i with
  | num n =>
    rw [hf] at e
    show v i = n + 0
    rw [Int.add_zero]
    exact e
  | sum n ps =>
    rw [hf] at e
    exact e
  | var _ => exact one
  | op _ _ => exact one
  | pick _ => exact one
/-- V lies within, and the value is the first and by times V - least -/
theorem row_val {T : Tb} {ρ : PyData → Int} {v : Nat → Int} (S : Sem T ρ v) {i : Nat} (h : i < T.fs.length) (b0 : byP (sumOf T i).2 ≠ 0) (h1 : byP (sumOf T i).2 ∣ T.lo i - (sumOf T i).1) (h2 : byP (sumOf T i).2 ∣ T.hi i - (sumOf T i).1) :
    rowLo T i ≤ psV v (rowPs (sumOf T i).2) ∧ psV v (rowPs (sumOf T i).2) ≤ rowHi T i ∧ rowF T i + byP (sumOf T i).2 * (psV v (rowPs (sumOf T i).2) - rowLo T i) = v i := by
  have e1 : rowE1 T i * byP (sumOf T i).2 = T.lo i - (sumOf T i).1 := Int.fdiv_mul_cancel h1
  have e2 : rowE2 T i * byP (sumOf T i).2 = T.hi i - (sumOf T i).1 := Int.fdiv_mul_cancel h2
  have ev := sum_val S h
  have er := row_sum v (sumOf T i).2
  obtain ⟨iv1, iv2⟩ := S.iv i h
  unfold rowF
  rw [Int.mul_sub]
  unfold rowLo rowHi
  generalize psV v (rowPs (sumOf T i).2) = V at *
  generalize psV v (sumOf T i).2 = Z at *
  generalize byP (sumOf T i).2 = g at *
  generalize rowE1 T i = a at *
  generalize rowE2 T i = c at *
  generalize (sumOf T i).1 = n at *
  generalize T.lo i = lo at *
  generalize T.hi i = hi at *
  have ea : g * a = lo - n := by rw [Int.mul_comm]; exact e1
  have ec : g * c = hi - n := by rw [Int.mul_comm]; exact e2
  rcases Int.lt_or_gt_of_ne b0 with hg | hg
  · have k1 : V ≤ a := by
      apply Decidable.byContradiction
      intro z
      have := Int.mul_lt_mul_of_neg_left (show a < V by omega) hg
      omega
    have k2 : c ≤ V := by
      apply Decidable.byContradiction
      intro z
      have := Int.mul_lt_mul_of_neg_left (show V < c by omega) hg
      omega
    have m1 : mn a c = c := by unfold mn; split <;> omega
    have m2 : mx a c = a := by unfold mx; split <;> omega
    rw [m1, m2]
    exact ⟨k2, k1, by omega⟩
  · have k1 : a ≤ V := by
      apply Decidable.byContradiction
      intro z
      have := Int.mul_lt_mul_of_pos_left (show V < a by omega) hg
      omega
    have k2 : V ≤ c := by
      apply Decidable.byContradiction
      intro z
      have := Int.mul_lt_mul_of_pos_left (show c < V by omega) hg
      omega
    have m1 : mn a c = a := by unfold mn; split <;> omega
    have m2 : mx a c = c := by unfold mx; split <;> omega
    rw [m1, m2]
    exact ⟨k1, k2, by omega⟩
/-! ### intervals of sums -/
theorem mn_le_mx (a b : Int) : mn a b ≤ mx a b := by
  unfold mn mx
  split <;> split <;> omega
theorem clo_mn (T : Tb) (u : Nat) (c : Int) : cLo T u c = mn (c * T.lo u) (c * T.hi u) ∧ cHi T u c = mx (c * T.lo u) (c * T.hi u) := by
  have e1 : cLo T u c = mn (c * T.lo u) (mn (c * T.hi u) (mn (c * T.lo u) (c * T.hi u))) := rfl
  have e2 : cHi T u c = mx (c * T.lo u) (mx (c * T.hi u) (mx (c * T.lo u) (c * T.hi u))) := rfl
  rw [e1, e2]
  generalize c * T.lo u = x
  generalize c * T.hi u = y
  unfold mn mx
  constructor
  · rcases Int.lt_or_le y x with h | h
    · simp only [if_pos h, Int.lt_irrefl, if_false]
    · simp only [if_neg (Int.not_lt.mpr h)]
      split <;> omega
  · rcases Int.lt_or_le x y with h | h
    · simp only [if_pos (show y > x from h), gt_iff_lt, Int.lt_irrefl, if_false]
    · simp only [if_neg (show ¬ y > x from Int.not_lt.mpr h)]
      split <;> omega
theorem mn_mul {y a b : Int} (h : 0 ≤ y) : mn (y * a) (y * b) = y * mn a b ∧ mx (y * a) (y * b) = y * mx a b := by
  rcases Int.le_total a b with k | k
  · have := Int.mul_le_mul_of_nonneg_left k h
    rw [show mn a b = a by unfold mn; split <;> omega, show mx a b = b by unfold mx; split <;> omega]
    generalize y * a = p at *
    generalize y * b = q at *
    unfold mn mx
    constructor <;> split <;> omega
  · have := Int.mul_le_mul_of_nonneg_left k h
    rw [show mn a b = b by unfold mn; split <;> omega, show mx a b = a by unfold mx; split <;> omega]
    generalize y * a = p at *
    generalize y * b = q at *
    unfold mn mx
    constructor <;> split <;> omega
theorem mn_muln {y a b : Int} (h : y ≤ 0) : mn (y * a) (y * b) = y * mx a b ∧ mx (y * a) (y * b) = y * mn a b := by
  rcases Int.le_total a b with k | k
  · have := Int.mul_le_mul_of_nonpos_left h k
    rw [show mn a b = a by unfold mn; split <;> omega, show mx a b = b by unfold mx; split <;> omega]
    generalize y * a = p at *
    generalize y * b = q at *
    unfold mn mx
    constructor <;> split <;> omega
  · have := Int.mul_le_mul_of_nonpos_left h k
    rw [show mn a b = b by unfold mn; split <;> omega, show mx a b = a by unfold mx; split <;> omega]
    generalize y * a = p at *
    generalize y * b = q at *
    unfold mn mx
    constructor <;> split <;> omega
def mulP (y : Int) (ps : List (Nat × Int)) : List (Nat × Int) := ps.map fun p => (p.1, y * p.2)
def cLoS (T : Tb) (ps : List (Nat × Int)) : Int := (ps.map fun p => cLo T p.1 p.2).sum
def cHiS (T : Tb) (ps : List (Nat × Int)) : Int := (ps.map fun p => cHi T p.1 p.2).sum
theorem cLo_mul (T : Tb) (u : Nat) (c : Int) {y : Int} (h : 0 ≤ y) : cLo T u (y * c) = y * cLo T u c ∧ cHi T u (y * c) = y * cHi T u c := by
  rw [(clo_mn T u c).1, (clo_mn T u c).2, (clo_mn T u (y * c)).1, (clo_mn T u (y * c)).2, Int.mul_assoc, Int.mul_assoc]
  exact mn_mul h
theorem cLo_muln (T : Tb) (u : Nat) (c : Int) {y : Int} (h : y ≤ 0) : cLo T u (y * c) = y * cHi T u c ∧ cHi T u (y * c) = y * cLo T u c := by
  rw [(clo_mn T u c).1, (clo_mn T u c).2, (clo_mn T u (y * c)).1, (clo_mn T u (y * c)).2, Int.mul_assoc, Int.mul_assoc]
  exact mn_muln h
theorem cS_mul (T : Tb) {y : Int} (h : 0 ≤ y) : ∀ ps, cLoS T (mulP y ps) = y * cLoS T ps ∧ cHiS T (mulP y ps) = y * cHiS T ps
  | [] => ⟨(Int.mul_zero y).symm, (Int.mul_zero y).symm⟩
  | p :: ps => by
    have ih := cS_mul T h ps
    have hc := cLo_mul T p.1 p.2 h
    show cLo T p.1 (y * p.2) + cLoS T (mulP y ps) = y * (cLo T p.1 p.2 + cLoS T ps) ∧ cHi T p.1 (y * p.2) + cHiS T (mulP y ps) = y * (cHi T p.1 p.2 + cHiS T ps)
    rw [ih.1, ih.2, hc.1, hc.2, Int.mul_add, Int.mul_add]
    exact ⟨rfl, rfl⟩
theorem cS_muln (T : Tb) {y : Int} (h : y ≤ 0) : ∀ ps, cLoS T (mulP y ps) = y * cHiS T ps ∧ cHiS T (mulP y ps) = y * cLoS T ps
  | [] => ⟨(Int.mul_zero y).symm, (Int.mul_zero y).symm⟩
  | p :: ps => by
    have ih := cS_muln T h ps
    have hc := cLo_muln T p.1 p.2 h
    show cLo T p.1 (y * p.2) + cLoS T (mulP y ps) = y * (cHi T p.1 p.2 + cHiS T ps) ∧ cHi T p.1 (y * p.2) + cHiS T (mulP y ps) = y * (cLo T p.1 p.2 + cLoS T ps)
    rw [ih.1, ih.2, hc.1, hc.2, Int.mul_add, Int.mul_add]
    exact ⟨rfl, rfl⟩
theorem cS_le (T : Tb) (ps : List (Nat × Int)) : cLoS T ps ≤ cHiS T ps := sum_map_le fun p _ => by
  rw [(clo_mn T p.1 p.2).1, (clo_mn T p.1 p.2).2]
  exact mn_le_mx _ _
theorem cS_app (T : Tb) (ps qs : List (Nat × Int)) : cLoS T (ps ++ qs) = cLoS T ps + cLoS T qs ∧ cHiS T (ps ++ qs) = cHiS T ps + cHiS T qs := by
  unfold cLoS cHiS
  rw [List.map_append, List.map_append, List.sum_append, List.sum_append]
  exact ⟨rfl, rfl⟩
theorem cS_perm (T : Tb) {ps qs : List (Nat × Int)} (h : ps.Perm qs) : cLoS T ps = cLoS T qs ∧ cHiS T ps = cHiS T qs := ⟨sum_perm (h.map _), sum_perm (h.map _)⟩
theorem cS_ext {T T' : Tb} (X : Ext T T') {ps : List (Nat × Int)} (h : ∀ p ∈ ps, p.1 < T.sp.length) : cLoS T' ps = cLoS T ps ∧ cHiS T' ps = cHiS T ps := by
  have e : ∀ p ∈ ps, cLo T' p.1 p.2 = cLo T p.1 p.2 ∧ cHi T' p.1 p.2 = cHi T p.1 p.2 := fun p hp => by
    unfold cLo cHi
    rw [X.lo (h p hp), X.hi (h p hp)]
    exact ⟨rfl, rfl⟩
  unfold cLoS cHiS
  exact ⟨congrArg List.sum (List.map_congr_left fun p hp => (e p hp).1), congrArg List.sum (List.map_congr_left fun p hp => (e p hp).2)⟩
theorem cS_wide {T : Tb} {p : Nat × Int} (hs : T.lo p.1 < T.hi p.1) : ∀ {ps : List (Nat × Int)}, p ∈ ps → (p.2.natAbs : Int) ≤ cHiS T ps - cLoS T ps
  | [], h => by cases h
  | q :: r, h => by
    have hr := cS_le T r
    show _ ≤ (cHi T q.1 q.2 + cHiS T r) - (cLo T q.1 q.2 + cLoS T r)
    rcases List.mem_cons.mp h with rfl | h
    · rw [(clo_mn T p.1 p.2).1, (clo_mn T p.1 p.2).2]
      have one : (1 : Int) ≤ T.hi p.1 - T.lo p.1 := by omega
      have k : (p.2.natAbs : Int) ≤ mx (p.2 * T.lo p.1) (p.2 * T.hi p.1) - mn (p.2 * T.lo p.1) (p.2 * T.hi p.1) := by
        rcases Int.le_total 0 p.2 with s | s
        · have k := Int.mul_le_mul_of_nonneg_left one s
          rw [Int.mul_sub, Int.mul_one] at k
          generalize p.2 * T.lo p.1 = x at *
          generalize p.2 * T.hi p.1 = y at *
          unfold mx mn
          split <;> split <;> omega
        · have k := Int.mul_le_mul_of_nonpos_left s one
          rw [Int.mul_sub, Int.mul_one] at k
          generalize p.2 * T.lo p.1 = x at *
          generalize p.2 * T.hi p.1 = y at *
          unfold mx mn
          split <;> split <;> omega
      omega
    · have ih := cS_wide hs h
      have hq : cLo T q.1 q.2 ≤ cHi T q.1 q.2 := by
        rw [(clo_mn T q.1 q.2).1, (clo_mn T q.1 q.2).2]
        exact mn_le_mx _ _
      omega
/-- the interval of a term is that of its sum -/
structure CanI (T : Tb) (i : Nat) : Prop where
  lo : T.lo i = (sumOf T i).1 + cLoS T (sumOf T i).2
  hi : T.hi i = (sumOf T i).1 + cHiS T (sumOf T i).2
theorem CanI.le {T : Tb} {i : Nat} (C : CanI T i) : T.lo i ≤ T.hi i := by
  have := cS_le T (sumOf T i).2
  rw [C.lo, C.hi]
  omega
theorem cs_times {T : Tb} {c : Nat} (C : CanI T c) (y : Int) : cLo T c y = y * (sumOf T c).1 + cLoS T (mulP y (sumOf T c).2) ∧ cHi T c y = y * (sumOf T c).1 + cHiS T (mulP y (sumOf T c).2) := by
  have e := clo_mn T c y
  have hle := C.le
  rw [e.1, e.2]
  rcases Int.le_total 0 y with s | s
  · rw [(cS_mul T s _).1, (cS_mul T s _).2, (mn_mul s).1, (mn_mul s).2, show mn (T.lo c) (T.hi c) = T.lo c by unfold mn; split <;> omega, show mx (T.lo c) (T.hi c) = T.hi c by unfold mx; split <;> omega]
    constructor
    · conv => lhs; rw [C.lo]
      rw [Int.mul_add]
    · conv => lhs; rw [C.hi]
      rw [Int.mul_add]
  · rw [(cS_muln T s _).1, (cS_muln T s _).2, (mn_muln s).1, (mn_muln s).2, show mn (T.lo c) (T.hi c) = T.lo c by unfold mn; split <;> omega, show mx (T.lo c) (T.hi c) = T.hi c by unfold mx; split <;> omega]
    constructor
    · conv => lhs; rw [C.hi]
      rw [Int.mul_add]
    · conv => lhs; rw [C.lo]
      rw [Int.mul_add]
/-! ### rows of such sums -/
theorem row_back (ps : List (Nat × Int)) : mulP (byP ps) (rowPs ps) = ps := by
  unfold mulP rowPs
  rw [List.map_map]
  conv => rhs; rw [← List.map_id ps]
  refine List.map_congr_left fun p hp => ?_
  show (p.1, byP ps * p.2.fdiv (byP ps)) = p
  rw [Int.mul_comm, Int.fdiv_mul_cancel (byP_dvd ps p hp)]
theorem row_can {T : Tb} {i : Nat} (C : CanI T i) (g0 : byP (sumOf T i).2 ≠ 0) : rowLo T i = cLoS T (rowPs (sumOf T i).2) ∧ rowHi T i = cHiS T (rowPs (sumOf T i).2) ∧ byP (sumOf T i).2 ∣ T.lo i - (sumOf T i).1 ∧ byP (sumOf T i).2 ∣ T.hi i - (sumOf T i).1 := by
  have eb := row_back (sumOf T i).2
  have hle := cS_le T (rowPs (sumOf T i).2)
  have e1 : T.lo i - (sumOf T i).1 = cLoS T (sumOf T i).2 := by have := C.lo; omega
  have e2 : T.hi i - (sumOf T i).1 = cHiS T (sumOf T i).2 := by have := C.hi; omega
  unfold rowLo rowHi rowE1 rowE2
  rw [e1, e2]
  rcases Int.le_total 0 (byP (sumOf T i).2) with s | s
  · have k := cS_mul T s (rowPs (sumOf T i).2)
    rw [eb] at k
    rw [k.1, k.2, Int.mul_fdiv_cancel_left _ g0, Int.mul_fdiv_cancel_left _ g0]
    refine ⟨?_, ?_, Int.dvd_mul_right _ _, Int.dvd_mul_right _ _⟩
    · unfold mn
      split <;> omega
    · unfold mx
      split <;> omega
  · have k := cS_muln T s (rowPs (sumOf T i).2)
    rw [eb] at k
    rw [k.1, k.2, Int.mul_fdiv_cancel_left _ g0, Int.mul_fdiv_cancel_left _ g0]
    refine ⟨?_, ?_, Int.dvd_mul_right _ _, Int.dvd_mul_right _ _⟩
    · unfold mn
      split <;> omega
    · unfold mx
      split <;> omega
/-! ### tables all of whose terms are so -/
structure Inv0 (B : Int) (T : Tb) : Prop where
  len : T.sp.length = T.fs.length
  nd : T.fs.Nodup
  ss : SumS T
  can : ∀ i, i < T.fs.length → CanI T i
  st : ∀ i, i < T.fs.length → unitF (T.fm i) → T.lo i < T.hi i
  nos : ∀ i n ps, i < T.fs.length → T.fm i = .sum n ps → ps ≠ []
  bd : ∀ i, i < T.fs.length → -B ≤ T.lo i ∧ T.hi i ≤ B
theorem Inv0.mono {B B' : Int} {T : Tb} (I : Inv0 B T) (h : B ≤ B') : Inv0 B' T := ⟨I.len, I.nd, I.ss, I.can, I.st, I.nos, fun i hi => by have := I.bd i hi; omega⟩
theorem Inv0.mdx {B : Int} {T : Tb} (I : Inv0 B T) (m : List ((Bk × List Nat) × Nat)) : Inv0 B { T with md := m } := ⟨I.len, I.nd, ⟨I.ss.srt, I.ss.un⟩, fun i h => ⟨(I.can i h).lo, (I.can i h).hi⟩, I.st, I.nos, I.bd⟩
theorem Inv0.vsx {B : Int} {T : Tb} (I : Inv0 B T) (m : List (PyData × Int × Int)) : Inv0 B { T with vs := m } := ⟨I.len, I.nd, ⟨I.ss.srt, I.ss.un⟩, fun i h => ⟨(I.can i h).lo, (I.can i h).hi⟩, I.st, I.nos, I.bd⟩
theorem Inv0.small {B : Int} {T : Tb} (I : Inv0 B T) (hB : B < 2 ^ 190) {i : Nat} (hi : i < T.fs.length) : Small T i := by
  have h1 := I.bd i hi
  have h2 := (I.can i hi).le
  have e : (2 : Int) ^ 190 = ((2 ^ 190 : Nat) : Int) := by decide +kernel
  have e2 : (2 : Nat) ^ 190 ≤ 2 ^ 200 := by decide +kernel
  unfold Small Bg
  rw [e] at hB
  generalize (2 : Nat) ^ 190 = N at *
  generalize (2 : Nat) ^ 200 = N' at *
  omega
def snT (T : Tb) (f : Fm) (l h : Int) : Tb := { T with fs := T.fs ++ [f], sp := T.sp ++ [(l, h)] }
theorem snT_ext (T : Tb) (f : Fm) (l h : Int) : Ext T (snT T f l h) := ⟨⟨[f], rfl⟩, ⟨[(l, h)], rfl⟩⟩
theorem snT_len (T : Tb) (f : Fm) (l h : Int) : (snT T f l h).fs.length = T.fs.length + 1 := by
  show (T.fs ++ [f]).length = _
  rw [List.length_append]
  rfl
theorem snT_at (T : Tb) (f : Fm) (l h : Int) : (snT T f l h).fs[T.fs.length]? = some f := by
  show (T.fs ++ [f])[T.fs.length]? = some f
  rw [List.getElem?_append_right (Nat.le_refl _), Nat.sub_self]
  rfl
theorem snT_sp {T : Tb} (hl : T.sp.length = T.fs.length) (f : Fm) (l h : Int) : (snT T f l h).lo T.fs.length = l ∧ (snT T f l h).hi T.fs.length = h := by
  have e : (T.sp ++ [(l, h)]).getD T.fs.length (0, 0) = (l, h) := by
    rw [List.getD_eq_getElem?_getD, List.getElem?_append_right (by omega), hl, Nat.sub_self]
    rfl
  show ((T.sp ++ [(l, h)]).getD T.fs.length (0, 0)).1 = l ∧ ((T.sp ++ [(l, h)]).getD T.fs.length (0, 0)).2 = h
  rw [e]
  exact ⟨rfl, rfl⟩
theorem CanI.ext {T T' : Tb} (X : Ext T T') {i : Nat} (C : CanI T i) (hi : i < T.fs.length) (hl : T.sp.length = T.fs.length) (hp : ∀ p ∈ (sumOf T i).2, p.1 < T.fs.length) : CanI T' i := by
  have e := cS_ext X (ps := (sumOf T i).2) fun p h => by rw [hl]; exact hp p h
  refine ⟨?_, ?_⟩
  · rw [X.lo (by omega), sumOf_ext X hi, e.1]
    exact C.lo
  · rw [X.hi (by omega), sumOf_ext X hi, e.2]
    exact C.hi
theorem inv_snoc {B : Int} {T : Tb} {f : Fm} {l h : Int} (I : Inv0 B T) (hn : f ∉ T.fs) (h1 : SrtP (sumOf (snT T f l h) T.fs.length).2) (h2 : ∀ p ∈ (sumOf (snT T f l h) T.fs.length).2, p.1 < T.fs.length + 1 ∧ unitF ((snT T f l h).fm p.1) ∧ p.2 ≠ 0)
    (h3 : l = (sumOf (snT T f l h) T.fs.length).1 + cLoS (snT T f l h) (sumOf (snT T f l h) T.fs.length).2) (h4 : h = (sumOf (snT T f l h) T.fs.length).1 + cHiS (snT T f l h) (sumOf (snT T f l h) T.fs.length).2) (h5 : unitF f → l < h) (h6 : -B ≤ l ∧ h ≤ B) (h7 : ∀ n ps, f = .sum n ps → ps ≠ []) : Inv0 B (snT T f l h) := by
  have X := snT_ext T f l h
  have ln := snT_len T f l h
  have at1 := snT_at T f l h
  have sp := snT_sp I.len f l h
  have cs : ∀ {C : Nat → Prop}, (∀ i, i < T.fs.length → C i) → C T.fs.length → ∀ i, i < (snT T f l h).fs.length → C i := fun {C} a b i hi => by
    rw [ln] at hi
    by_cases e : i < T.fs.length
    · exact a i e
    · rw [show i = T.fs.length by omega]
      exact b
  refine ⟨?_, nodup_snoc I.nd hn, ⟨cs (fun i hi => ?_) h1, cs (fun i hi p hp => ?_) fun p hp => ?_⟩, cs (fun i hi => (I.can i hi).ext X hi I.len fun p hp => (I.ss.un i hi p hp).1) ⟨by rw [sp.1]; exact h3, by rw [sp.2]; exact h4⟩, cs (fun i hi hu => ?_) fun hu => ?_, fun i n ps hi => ?_, cs (fun i hi => ?_) (by rw [sp.1, sp.2]; exact h6)⟩
  · show (T.sp ++ [(l, h)]).length = (T.fs ++ [f]).length
    rw [List.length_append, List.length_append, I.len]
    rfl
  · rw [sumOf_ext X hi]
    exact I.ss.srt i hi
  · rw [sumOf_ext X hi] at hp
    have u := I.ss.un i hi p hp
    rw [ln, X.fm u.1]
    exact ⟨by omega, u.2⟩
  · rw [ln]
    exact h2 p hp
  · rw [X.fm hi] at hu
    rw [X.lo (by rw [I.len]; exact hi), X.hi (by rw [I.len]; exact hi)]
    exact I.st i hi hu
  · rw [fm_of at1] at hu
    rw [sp.1, sp.2]
    exact h5 hu
  · revert i
    refine cs (fun i hi e => ?_) fun e => ?_
    · rw [X.fm hi] at e
      exact I.nos i n ps hi e
    · rw [fm_of at1] at e
      exact h7 n ps e
  · rw [X.lo (by rw [I.len]; exact hi), X.hi (by rw [I.len]; exact hi)]
    exact I.bd i hi
/-! ### placing -/
structure Put (B : Int) (T : Tb) (s : Option (Int × List (Nat × Int))) (R : Tb × Nat) : Prop where
  inv : Inv0 B R.1
  ext : Ext T R.1
  lt : R.2 < R.1.fs.length
  md : R.1.md = T.md
  vs : R.1.vs = T.vs
  sum : ∀ x, s = some x → sumOf R.1 R.2 = x
theorem placeT_snT {T : Tb} {f : Fm} (l h : Int) (e : posF T.fs f = none) : placeT T f l h = (snT T f l h, T.fs.length) := by
  unfold placeT
  rw [e]
  rfl
theorem placeT_has {T : Tb} {f : Fm} (l h : Int) {i : Nat} (e : posF T.fs f = some i) : placeT T f l h = (T, i) := by
  unfold placeT
  rw [e]
theorem placeT_nd {T : Tb} (nd : T.fs.Nodup) {f : Fm} {i : Nat} (h : T.fs[i]? = some f) (l u : Int) : placeT T f l u = (T, i) := placeT_has l u (posF_at nd h)
theorem put_old {B : Int} {T : Tb} (I : Inv0 B T) {i : Nat} (h : i < T.fs.length) : Put B T (some (sumOf T i)) (T, i) := ⟨I, Ext.refl T, h, rfl, rfl, fun x e => by cases e; rfl⟩
theorem put_num {B : Int} {T : Tb} (I : Inv0 B T) {n : Int} (h1 : -B ≤ n) (h2 : n ≤ B) : Put B T (some (n, [])) (numberT T n) := by
  have back : ∀ {T' : Tb} {j : Nat}, T'.fs[j]? = some (.num n) → sumOf T' j = (n, []) := fun {T' j} e => by
    unfold sumOf
    rw [fm_of e]
  unfold numberT
  cases e : posF T.fs (.num n) with
  | some i =>
    rw [placeT_has n n e]
    have hi := posF_some e
    exact ⟨I, Ext.refl T, (List.getElem?_eq_some_iff.mp hi).1, rfl, rfl, fun x ex => by cases ex; exact back hi⟩
  | none =>
    rw [placeT_snT n n e]
    have hs := back (snT_at T (.num n) n n)
    refine ⟨inv_snoc I (posF_none e) (by rw [hs]; exact .nil) (fun p hp => by rw [hs] at hp; cases hp) ?_ ?_ (fun z => z.elim) ⟨h1, h2⟩ (fun _ _ z => by cases z), snT_ext _ _ _ _, by show _ < (snT _ _ _ _).fs.length; rw [snT_len]; exact Nat.lt_succ_self _, rfl, rfl, fun x ex => by cases ex; exact hs⟩
    · rw [hs]
      exact (Int.add_zero n).symm
    · rw [hs]
      exact (Int.add_zero n).symm
theorem unit_sum {T : Tb} {j : Nat} (h : unitF (T.fm j)) : sumOf T j = (0, [(j, 1)]) := by
  unfold sumOf
  revert h
  cases T.fm j with
  | num _ => exact fun z => z.elim
  | sum _ _ => exact fun z => z.elim
  | var _ => exact fun _ => rfl
  | op _ _ => exact fun _ => rfl
  | pick _ => exact fun _ => rfl
theorem put_unit {B : Int} {T : Tb} (I : Inv0 B T) {f : Fm} (hu : unitF f) {l h : Int} (lh : l < h) (h1 : -B ≤ l) (h2 : h ≤ B) : Put B T none (placeT T f l h) := by
  cases e : posF T.fs f with
  | some i =>
    rw [placeT_has l h e]
    exact ⟨I, Ext.refl T, (List.getElem?_eq_some_iff.mp (posF_some e)).1, rfl, rfl, fun x ex => by cases ex⟩
  | none =>
    rw [placeT_snT l h e]
    have hf := fm_of (snT_at T f l h)
    have hs : sumOf (snT T f l h) T.fs.length = _ := unit_sum (by rw [hf]; exact hu)
    have sp := snT_sp I.len f l h
    have hc := clo_mn (snT T f l h) T.fs.length 1
    rw [sp.1, sp.2, Int.one_mul, Int.one_mul] at hc
    refine ⟨inv_snoc I (posF_none e) (by rw [hs]; exact List.pairwise_singleton _ _) (fun p hp => ?_) ?_ ?_ (fun _ => lh) ⟨h1, h2⟩ (fun n ps z => by rw [z] at hu; exact hu.elim), snT_ext _ _ _ _, by show _ < (snT _ _ _ _).fs.length; rw [snT_len]; exact Nat.lt_succ_self _, rfl, rfl, fun x ex => by cases ex⟩
    · rw [hs] at hp
      rw [List.mem_singleton.mp hp]
      exact ⟨Nat.lt_succ_self _, by rw [hf]; exact hu, by show (1 : Int) ≠ 0; decide⟩
    · rw [hs]
      show l = 0 + (cLo _ _ 1 + 0)
      rw [hc.1]
      unfold mn
      split <;> omega
    · rw [hs]
      show h = 0 + (cHi _ _ 1 + 0)
      rw [hc.2]
      unfold mx
      split <;> omega
abbrev UnP (T : Tb) (ps : List (Nat × Int)) : Prop := ∀ p ∈ ps, p.1 < T.fs.length ∧ unitF (T.fm p.1) ∧ p.2 ≠ 0
theorem sum_strict {B : Int} {T : Tb} (I : Inv0 B T) {ps : List (Nat × Int)} (hu : UnP T ps) (ne : ps ≠ []) : cLoS T ps < cHiS T ps := by
  match ps, ne, hu with
  | p :: r, _, hu =>
    obtain ⟨a, b, c⟩ := hu p List.mem_cons_self
    have := cS_wide (T := T) (p := p) (I.st _ a b) (ps := p :: r) List.mem_cons_self
    omega
theorem put_sum {B : Int} {T : Tb} (I : Inv0 B T) {n : Int} {ps : List (Nat × Int)} (hs : SrtP ps) (hu : UnP T ps) (ne : ps ≠ []) {l h : Int} (hl : l = n + cLoS T ps) (hh : h = n + cHiS T ps) (h1 : -B ≤ l) (h2 : h ≤ B) : Put B T (some (n, ps)) (placeT T (fos T n ps) l h) := by
  have lh := sum_strict I hu ne
  cases e : posF T.fs (fos T n ps) with
  | some i =>
    rw [placeT_has l h e]
    have hi := posF_some e
    exact ⟨I, Ext.refl T, (List.getElem?_eq_some_iff.mp hi).1, rfl, rfl, fun x ex => by cases ex; exact sum_back hi (Ext.refl T) I.nd fun p hp => ⟨(hu p hp).1, (hu p hp).2.1⟩⟩
  | none =>
    rw [placeT_snT l h e]
    have X := snT_ext T (fos T n ps) l h
    have hsum := sum_back (snT_at T (fos T n ps) l h) X (nodup_snoc I.nd (posF_none e)) fun p hp => ⟨(hu p hp).1, (hu p hp).2.1⟩
    have ec := cS_ext X (ps := ps) fun p hp => by rw [I.len]; exact (hu p hp).1
    refine ⟨inv_snoc I (posF_none e) (by rw [hsum]; exact hs) (fun p hp => ?_) ?_ ?_ (fun _ => by omega) ⟨h1, h2⟩ (fun n' ps' z => ?_), X, by show _ < (snT _ _ _ _).fs.length; rw [snT_len]; exact Nat.lt_succ_self _, rfl, rfl, fun x ex => by cases ex; exact hsum⟩
    · rw [hsum] at hp
      have u := hu p hp
      rw [X.fm u.1]
      exact ⟨by omega, u.2⟩
    · rw [hsum]
      show l = n + cLoS _ ps
      rw [ec.1]
      exact hl
    · rw [hsum]
      show h = n + cHiS _ ps
      rw [ec.2]
      exact hh
    · match ps, ne, hu, e, z with
      | [(u, c)], _, hu, e, z =>
        have z : (if n = 0 ∧ c = 1 then T.fm u else Fm.sum n [(u, c)]) = .sum n' ps' := z
        split at z
        · have := (hu (u, c) List.mem_cons_self).2.1
          rw [show T.fm u = _ from z] at this
          exact this.elim
        · cases z
          exact List.cons_ne_nil _ _
      | p :: q :: r, _, _, _, z =>
        cases z
        exact List.cons_ne_nil _ _
theorem putT_sum {B : Int} {T : Tb} (I : Inv0 B T) {n : Int} {ps : List (Nat × Int)} (hs : SrtP ps) (hu : UnP T ps) {l h : Int} (hl : l = n + cLoS T ps) (hh : h = n + cHiS T ps) (h1 : -B ≤ l) (h2 : h ≤ B) : Put B T (some (n, ps)) (putT T (fos T n ps) l h) := by
  unfold putT
  by_cases ne : ps = []
  · subst ne
    have e1 : l = n := hl.trans (Int.add_zero n)
    have e2 : h = n := hh.trans (Int.add_zero n)
    rw [if_pos (e1.trans e2.symm), e1]
    exact put_num I (by omega) (by omega)
  · have lh := sum_strict I hu ne
    rw [if_neg (by omega)]
    exact put_sum I hs hu ne hl hh h1 h2
theorem putT_known {B : Int} {T : Tb} (I : Inv0 B T) {a : Nat} (ha : a < T.fs.length) : Put B T (some (sumOf T a)) (putT T (T.fm a) (T.lo a) (T.hi a)) := by
  unfold putT
  split
  · rename_i e
    have C := I.can a ha
    have en : (sumOf T a).2 = [] := by
      apply Decidable.byContradiction
      intro ne
      have := sum_strict I (I.ss.un a ha) ne
      have := C.lo
      have := C.hi
      omega
    have e0 : sumOf T a = (T.lo a, []) := by
      have := C.lo
      rw [en] at this
      have : T.lo a = (sumOf T a).1 := this.trans (Int.add_zero _)
      rw [this, ← en]
    rw [e0]
    have b := I.bd a ha
    exact put_num I b.1 (by omega)
  · rw [placeT_nd I.nd (fm_at ha)]
    exact put_old I ha
theorem posF_ext {T T' : Tb} (X : Ext T T') (nd : T'.fs.Nodup) {f : Fm} {i : Nat} (h : T.fs[i]? = some f) : posF T'.fs f = some i := posF_at nd (X.at_ h)
theorem placeT_old {b : Nat} {T : Tb} (W : Wf b T) {f : Fm} {i : Nat} (h : T.fs[i]? = some f) (l u : Int) : placeT T f l u = (T, i) := by
  unfold placeT
  rw [posF_at W.nd h]
theorem plain_fok_num {b : Nat} {T : Tb} {n : Int} (h : Bg b n) : FOk b T (.num n) :=
  { pa := fun p hp => (nomatch hp)
    nu := fun m e => by cases e; exact h
    su := fun n ps e => by cases e
    ar := fun k ids e => by cases e
    ex := fun k ids e => by cases e
    sh := fun n ids e => by cases e
    pk := fun ids e => by cases e
    vk := fun k e => by cases e }
theorem plain_fok_var {b : Nat} {T : Tb} {k : PyData} (h : plainD k = true) (h7 : (keyD k).depth ≤ 7) : FOk b T (.var k) :=
  { pa := fun p hp => (nomatch hp)
    nu := fun m e => by cases e
    su := fun n ps e => by cases e
    ar := fun k ids e => by cases e
    ex := fun k ids e => by cases e
    sh := fun n ids e => by cases e
    pk := fun ids e => by cases e
    vk := fun k e => by cases e; exact ⟨h, h7⟩ }
theorem placeT_fs (T : Tb) (f : Fm) (l h : Int) : ∀ g ∈ (placeT T f l h).1.fs, g ∈ T.fs ∨ g = f := by
  unfold placeT
  split
  · exact fun g hg => .inl hg
  · intro g hg
    rcases List.mem_append.mp hg with hg | hg
    · exact .inl hg
    · exact .inr (List.mem_singleton.mp hg)
theorem Wf.reg {b : Nat} {T : Tb} (W : Wf b T) (vs : List (PyData × Int × Int)) : Wf b { T with vs := vs } :=
  ⟨W.len, W.nd, fun i f hf => ⟨⟨(W.fo i f hf).1.pa, (W.fo i f hf).1.nu, (W.fo i f hf).1.su, (W.fo i f hf).1.ar, (W.fo i f hf).1.ex, (W.fo i f hf).1.sh, (W.fo i f hf).1.pk, (W.fo i f hf).1.vk⟩, (W.fo i f hf).2⟩, W.sb, W.md⟩
theorem Sem.reg {T : Tb} {ρ : PyData → Int} {v : Nat → Int} (S : Sem T ρ v) (vs : List (PyData × Int × Int)) : Sem { T with vs := vs } ρ v := ⟨S.at_, S.iv, S.md⟩
def vfm (k : PyData) (lo hi : Int) : Fm := if lo = hi then .num lo else .var k
structure VarOk (b : Nat) (T : Tb) (k : PyData) (lo hi : Int) (R : Tb × Nat) : Prop where
  wf : Wf b R.1
  ext : Ext T R.1
  lt : R.2 < R.1.fs.length
  one : R.1.fs.length ≤ T.fs.length + 1
  vs : R.1.vs = (regT T k lo hi).vs
  md : R.1.md = T.md
  at_ : R.1.fs[R.2]? = some (vfm k lo hi)
  var : ∀ k', Fm.var k' ∈ R.1.fs → Fm.var k' ∈ T.fs ∨ k' = k
  sem : ∀ ρ v, Sem T ρ v → lo ≤ ρ k → ρ k ≤ hi → ∃ u, Sem R.1 ρ u ∧ (∀ i, i < T.fs.length → u i = v i) ∧ u R.2 = ρ k
theorem var_ok {b : Nat} {T : Tb} (W : Wf b T) {k : PyData} {lo hi : Int} (hk : plainD k = true) (h7 : (keyD k).depth ≤ 7) (bl : Bg b lo) (bh : Bg b hi) : VarOk b T k lo hi (varT T k lo hi) := by
  have er : regT T k lo hi = { T with vs := (regT T k lo hi).vs } := rfl
  unfold varT numberT
  rw [er]
  generalize (regT T k lo hi).vs = vs at *
  have W1 := W.reg vs
  by_cases e : lo = hi
  · rw [if_pos e]
    have P := place_ok W1 (plain_fok_num bl) bl bl
    refine ⟨P.wf, ⟨P.ext.fs, P.ext.sp⟩, P.lt, P.one, P.vs.trans (by rw [er]), P.md, by rw [P.at_]; unfold vfm; rw [if_pos e], fun k' h => ?_, fun ρ v S h1 h2 => ?_⟩
    · rcases placeT_fs _ _ _ _ _ h with h | h
      · exact .inl h
      · cases h
    · obtain ⟨u, U, h3, h4⟩ := P.sem ρ v (S.reg vs) (Int.le_refl _) (Int.le_refl _)
      exact ⟨u, U, h3, h4.trans (by show lo = ρ k; omega)⟩
  · rw [if_neg e]
    have P := place_ok W1 (plain_fok_var hk h7) bl bh
    refine ⟨P.wf, ⟨P.ext.fs, P.ext.sp⟩, P.lt, P.one, P.vs.trans (by rw [er]), P.md, by rw [P.at_]; unfold vfm; rw [if_neg e], fun k' h => ?_, fun ρ v S h1 h2 => ?_⟩
    · rcases placeT_fs _ _ _ _ _ h with h | h
      · exact .inl h
      · cases h
        exact .inr rfl
    · obtain ⟨u, U, h3, h4⟩ := P.sem ρ v (S.reg vs) h1 h2
      exact ⟨u, U, h3, h4⟩
theorem num_ok {b : Nat} {T : Tb} (W : Wf b T) {n : Int} (bn : Bg b n) : Got b T (numberT T n) (fun _ => n) ∧ (numberT T n).1.fs.length ≤ T.fs.length + 1 ∧ (numberT T n).1.fs[(numberT T n).2]? = some (.num n) ∧ (numberT T n).1.md = T.md := by
  unfold numberT
  have P := place_ok W (plain_fok_num (T := T) bn) bn bn
  refine ⟨⟨P.wf, P.ext, Nat.le_succ_of_le P.one, P.vs, P.lt, fun ρ v S => ?_⟩, P.one, P.at_, P.md⟩
  exact P.sem ρ v S (Int.le_refl _) (Int.le_refl _)
theorem got_var {b : Nat} {T : Tb} {R : Tb × Nat} {x : (Nat → Int) → Int} (G : Got b T R x) {ρ : PyData → Int} {v : Nat → Int} (S : Sem T ρ v) {k : PyData} (h : Fm.var k ∈ R.1.fs) : Fm.var k ∈ T.fs := by
  classical
  apply Decidable.byContradiction
  intro hn
  obtain ⟨i, hi⟩ := List.getElem?_of_mem h
  have S' : Sem T (fun y => if y = k then R.1.hi i + 1 else ρ y) v := by
    refine ⟨fun j f hf => ?_, S.iv, S.md⟩
    rw [S.at_ j f hf]
    cases f with
    | var k' =>
      show ρ k' = if k' = k then _ else ρ k'
      rw [if_neg]
      rintro rfl
      exact hn (List.mem_of_getElem? hf)
    | num n => rfl
    | sum n ps => rfl
    | op k ids => rfl
    | pick ids => rfl
  obtain ⟨u, U, _⟩ := G.sem _ v S'
  have h1 := U.at_ i _ hi
  have h2 := (U.iv i (List.getElem?_eq_some_iff.mp hi).1).2
  have h3 : fmV (fun y => if y = k then R.1.hi i + 1 else ρ y) u (.var k) = R.1.hi i + 1 := if_pos rfl
  omega
theorem empty_wf (b : Nat) : Wf b emptyT := ⟨rfl, List.nodup_nil, fun i f h => by simp [emptyT] at h, fun p h => (nomatch h), fun e h => (nomatch h)⟩
theorem empty_sem (ρ : PyData → Int) (v : Nat → Int) : Sem emptyT ρ v := ⟨fun i f h => by simp [emptyT] at h, fun i h => absurd h (Nat.not_lt_zero _), fun e h => (nomatch h)⟩
theorem Wf.mono' {b c : Nat} {T : Tb} (W : Wf b T) (h : b ≤ c) : Wf c T := W.mono h
/-! ### what was made before -/
abbrev disj (ps qs : List (Nat × Int)) : Prop := ∀ q ∈ qs, ∀ p ∈ ps, p.1 ≠ q.1
def addS (a c : Int × List (Nat × Int)) (s : Int) : Int × List (Nat × Int) := (a.1 + s * c.1, sortP (a.2 ++ mulP s c.2))
def mulS (y : Int) (a : Int × List (Nat × Int)) : Int × List (Nat × Int) := (y * a.1, mulP y a.2)
structure MdE (T : Tb) (k : Bk) (ids : List Nat) (r : Nat) : Prop where
  add : ∀ a c, k = .add → ids = [a, c] → disj (sumOf T a).2 (sumOf T c).2 → sumOf T r = addS (sumOf T a) (sumOf T c) 1
  sub : ∀ a c, k = .sub → ids = [a, c] → disj (sumOf T a).2 (sumOf T c).2 → sumOf T r = addS (sumOf T a) (sumOf T c) (-1)
  mul : ∀ a c, k = .mul → ids = [a, c] → T.lo a ≠ T.hi a → (sumOf T c).2 = [] → (sumOf T c).1 ≠ 0 → sumOf T r = mulS (sumOf T c).1 (sumOf T a)
def MdI (T : Tb) : Prop := ∀ e ∈ T.md, MdE T e.1.1 e.1.2 e.2
theorem MdE.ext {T T' : Tb} (X : Ext T T') {k : Bk} {ids : List Nat} {r : Nat} (h : MdE T k ids r) (hl : T.sp.length = T.fs.length) (h1 : r < T.fs.length) (h2 : ∀ p ∈ ids, p < T.fs.length) : MdE T' k ids r := by
  refine ⟨fun a c e1 e2 => ?_, fun a c e1 e2 => ?_, fun a c e1 e2 => ?_⟩
  all_goals
    have ha : a < T.fs.length := h2 a (by rw [e2]; simp)
    have hc : c < T.fs.length := h2 c (by rw [e2]; simp)
    rw [sumOf_ext X h1, sumOf_ext X ha, sumOf_ext X hc]
  · exact h.add a c e1 e2
  · exact h.sub a c e1 e2
  · rw [X.lo (by omega), X.hi (by omega)]
    exact h.mul a c e1 e2
theorem MdI.ext {b : Nat} {T T' : Tb} (W : Wf b T) (X : Ext T T') (M : MdI T) (e : T'.md = T.md) : MdI T' := fun en hen => by
  rw [e] at hen
  have w := W.md en hen
  exact (M en hen).ext X W.len w.1 w.2
theorem MdE.mdx {T : Tb} {k : Bk} {ids : List Nat} {r : Nat} (h : MdE T k ids r) (m : List ((Bk × List Nat) × Nat)) : MdE { T with md := m } k ids r := ⟨h.add, h.sub, h.mul⟩
theorem plus_dj {T : Tb} {a c : Nat} {s : Int} (hs : SrtP (sumOf T c).2) (dj : disj (sumOf T a).2 (sumOf T c).2) : plusF T a c s = (fos T (addS (sumOf T a) (sumOf T c) s).1 (addS (sumOf T a) (sumOf T c) s).2, T.lo a + cLo T c s, T.hi a + cHi T c s) := by
  obtain ⟨m1, m2⟩ := mergeP_new s (qs := (sumOf T c).2) (l := (sumOf T a).2) hs.nodup dj
  unfold plusF addS mulP
  rw [m2, if_neg Bool.false_ne_true, m1]
theorem mulP_un {T : Tb} {ps : List (Nat × Int)} (h : UnP T ps) {y : Int} (y0 : y ≠ 0) : UnP T (mulP y ps) := fun p hp => by
  obtain ⟨q, hq, rfl⟩ := List.mem_map.mp hp
  have u := h q hq
  exact ⟨u.1, u.2.1, Int.mul_ne_zero y0 u.2.2⟩
theorem mulP_srt {ps : List (Nat × Int)} (h : SrtP ps) (y : Int) : SrtP (mulP y ps) := h.map fun x => y * x
theorem addS_ok {B : Int} {T : Tb} (I : Inv0 B T) {a c : Nat} (ha : a < T.fs.length) (hc : c < T.fs.length) {s : Int} (s0 : s ≠ 0) (dj : disj (sumOf T a).2 (sumOf T c).2) :
    SrtP (addS (sumOf T a) (sumOf T c) s).2 ∧ UnP T (addS (sumOf T a) (sumOf T c) s).2 ∧ T.lo a + cLo T c s = (addS (sumOf T a) (sumOf T c) s).1 + cLoS T (addS (sumOf T a) (sumOf T c) s).2 ∧ T.hi a + cHi T c s = (addS (sumOf T a) (sumOf T c) s).1 + cHiS T (addS (sumOf T a) (sumOf T c) s).2 := by
  have u1 := I.ss.un a ha
  have u2 := mulP_un (I.ss.un c hc) s0
  have r1 := I.ss.srt a ha
  have r2 := mulP_srt (I.ss.srt c hc) s
  have nd : ((((sumOf T a).2 ++ mulP s (sumOf T c).2)).map (·.1)).Nodup := by
    rw [List.map_append, List.nodup_append]
    refine ⟨r1.nodup, r2.nodup, fun x hx y hy e => ?_⟩
    obtain ⟨p, hp, rfl⟩ := List.mem_map.mp hx
    obtain ⟨q, hq, rfl⟩ := List.mem_map.mp hy
    obtain ⟨q', hq', rfl⟩ := List.mem_map.mp hq
    exact dj q' hq' p hp e
  have cp := cS_perm T (sortP_perm ((sumOf T a).2 ++ mulP s (sumOf T c).2))
  have ca := cS_app T (sumOf T a).2 (mulP s (sumOf T c).2)
  have ct := cs_times (I.can c hc) s
  have C := I.can a ha
  refine ⟨sortP_srt nd, fun p hp => ?_, ?_, ?_⟩
  · rcases List.mem_append.mp (sortP_mem hp) with h | h
    · exact u1 p h
    · exact u2 p h
  · show _ = _ + s * _ + cLoS T (sortP _)
    rw [cp.1, ca.1, ct.1, C.lo]
    omega
  · show _ = _ + s * _ + cHiS T (sortP _)
    rw [cp.2, ca.2, ct.2, C.hi]
    omega
/-! ### makes -/
def plainF : Fm → Prop
  | .var _ => False
  | .pick _ => False
  | _ => True
structure Res (b : Nat) (B : Int) (T : Tb) (s : Option (Int × List (Nat × Int))) (R : Tb × Nat) : Prop where
  wf : Wf b R.1
  inv : Inv0 B R.1
  mdi : MdI R.1
  ext : Ext T R.1
  lt : R.2 < R.1.fs.length
  two : R.1.fs.length ≤ T.fs.length + 2
  mdl : R.1.md.length ≤ T.md.length + 1
  vs : R.1.vs = T.vs
  sum : ∀ x, s = some x → sumOf R.1 R.2 = x
  sub : ∀ g ∈ R.1.fs, g ∈ T.fs ∨ plainF g
  sem : ∀ ρ v, Sem T ρ v → ∃ u, Sem R.1 ρ u
theorem plF_fos {T : Tb} {ps : List (Nat × Int)} (h : ∀ p ∈ ps, p.1 < T.fs.length) (n : Int) : fos T n ps ∈ T.fs ∨ plainF (fos T n ps) := by
  match ps, h with
  | [], _ => exact .inr trivial
  | _ :: _ :: _, _ => exact .inr trivial
  | [(u, c)], h =>
    show (if n = 0 ∧ c = 1 then T.fm u else Fm.sum n [(u, c)]) ∈ T.fs ∨ plainF (if n = 0 ∧ c = 1 then T.fm u else Fm.sum n [(u, c)])
    split
    · exact .inl (List.mem_of_getElem? (fm_at (h (u, c) List.mem_cons_self)))
    · exact .inr trivial
theorem putT_fs {T : Tb} {f : Fm} {l h : Int} (hf : f ∈ T.fs ∨ plainF f) : ∀ g ∈ (putT T f l h).1.fs, g ∈ T.fs ∨ plainF g := fun g hg => by
  unfold putT at hg
  split at hg
  · rcases placeT_fs _ _ _ _ _ hg with h | rfl
    · exact .inl h
    · exact .inr trivial
  · rcases placeT_fs _ _ _ _ _ hg with h | rfl
    · exact .inl h
    · exact hf
theorem make_res {b : Nat} {B B' : Int} {T : Tb} {k : Bk} {ids : List Nat} {s : Option (Int × List (Nat × Int))} {F : Fm × Int × Int} (W : Wf b T) (hb : 200 ≤ b) (hL : T.fs.length ≤ 60) (hl : ids.length = k.ar) (hk : KC k) (hi : ∀ i ∈ ids, i < T.fs.length ∧ Small T i) (I : Inv0 B T) (BB : B ≤ B') (M : MdI T)
    (hit : ∀ r, MdE T k ids r → ∀ x, s = some x → sumOf T r = x) (mf : mkForm T k ids = (T, F)) (P : Put B' T s (putT T F.1 F.2.1 F.2.2)) (fp : F.1 ∈ T.fs ∨ plainF F.1)
    (new : ∀ T' r, Ext T T' → (∀ x, s = some x → sumOf T' r = x) → MdE T' k ids r) : Res (b + 212) B' T s (makeT T k ids) := by
  have G := make_ok W hb hL hl hk hi
  have sm : ∀ ρ v, Sem T ρ v → ∃ u, Sem (makeT T k ids).1 ρ u := fun ρ v S => by
    obtain ⟨u, U, _⟩ := G.sem ρ v S
    exact ⟨u, U⟩
  refine ⟨G.wf, ?_, ?_, G.ext, G.lt, G.two, ?_, G.vs, ?_, ?_, sm⟩
  all_goals
    unfold makeT
    cases e : T.md.lookup (k, ids) with
    | some r => _
    | none => _
  · exact I.mono BB
  · rw [mf]
    exact P.inv.mdx _
  · exact M
  · rw [mf]
    intro en hen
    rcases List.mem_append.mp hen with h | h
    · exact ((MdI.ext W P.ext M P.md) en h).mdx _
    · rw [List.mem_singleton.mp h]
      exact (new _ _ P.ext P.sum).mdx _
  · exact Nat.le_succ _
  · rw [mf]
    show (_ ++ [_]).length ≤ _
    rw [List.length_append, P.md]
    exact Nat.le_refl _
  · exact hit r (M _ (lookup_mem e))
  · rw [mf]
    exact P.sum
  · exact fun g hg => .inl hg
  · rw [mf]
    exact putT_fs fp
theorem num_res {b : Nat} {B : Int} {T : Tb} (W : Wf b T) (I : Inv0 B T) (M : MdI T) {n : Int} (bn : Bg b n) (h1 : -B ≤ n) (h2 : n ≤ B) : Res b B T (some (n, [])) (numberT T n) := by
  obtain ⟨G, g1, g2, g3⟩ := num_ok W bn
  have P := put_num I h1 h2
  refine ⟨G.wf, P.inv, M.ext W P.ext P.md, P.ext, P.lt, by omega, by rw [P.md]; exact Nat.le_succ _, P.vs, P.sum, fun g hg => ?_, fun ρ v S => ?_⟩
  · rcases placeT_fs _ _ _ _ _ hg with h | rfl
    · exact .inl h
    · exact .inr trivial
  · obtain ⟨u, U, _⟩ := G.sem ρ v S
    exact ⟨u, U⟩
theorem add_res {b : Nat} {B : Int} {T : Tb} (W : Wf b T) (hb : 200 ≤ b) (hL : T.fs.length ≤ 60) (I : Inv0 B T) (hB : B < 2 ^ 190) (M : MdI T) {k : Bk} {s : Int} (hk : k = .add ∧ s = 1 ∨ k = .sub ∧ s = -1) {a c : Nat} (ha : a < T.fs.length) (hc : c < T.fs.length) (dj : disj (sumOf T a).2 (sumOf T c).2) :
    Res (b + 212) (4 * B) T (some (addS (sumOf T a) (sumOf T c) s)) (makeT T k [a, c]) := by
  have s0 : s ≠ 0 := by rcases hk with ⟨_, rfl⟩ | ⟨_, rfl⟩ <;> decide
  obtain ⟨o1, o2, o3, o4⟩ := addS_ok I ha hc s0 dj
  have ba := I.bd a ha
  have bc := I.bd c hc
  have la := (I.can a ha).le
  have lc := (I.can c hc).le
  have BB : B ≤ 4 * B := by omega
  have cl := clo_mn T c s
  have mm := mn_le_mx (T.lo c) (T.hi c)
  have bnd : -(4 * B) ≤ T.lo a + cLo T c s ∧ T.hi a + cHi T c s ≤ 4 * B := by
    rw [cl.1, cl.2]
    rcases hk with ⟨_, rfl⟩ | ⟨_, rfl⟩
    · rw [Int.one_mul, Int.one_mul]
      unfold mn mx
      constructor <;> split <;> omega
    · rw [Int.neg_one_mul, Int.neg_one_mul]
      unfold mn mx
      constructor <;> split <;> omega
  have hin : ∀ i ∈ [a, c], i < T.fs.length ∧ Small T i := fun i hi => by
    simp only [List.mem_cons, List.not_mem_nil, or_false] at hi
    rcases hi with rfl | rfl
    · exact ⟨ha, I.small hB ha⟩
    · exact ⟨hc, I.small hB hc⟩
  have ep := plus_dj (a := a) (s := s) (I.ss.srt c hc) dj
  have P := putT_sum (I.mono BB) o1 o2 o3 o4 bnd.1 bnd.2
  have sx : ∀ {x y : Int × List (Nat × Int)}, some x = some y → x = y := fun e => Option.some.inj e
  have fp := plF_fos (T := T) (ps := (addS (sumOf T a) (sumOf T c) s).2) (fun p hp => (o2 p hp).1) (addS (sumOf T a) (sumOf T c) s).1
  rcases hk with ⟨rfl, rfl⟩ | ⟨rfl, rfl⟩
  · refine make_res (F := plusF T a c 1) W hb hL rfl trivial hin I BB M (fun r h x e => ?_) rfl (by rw [ep]; exact P) (by rw [ep]; exact fp) fun T' r X h => ⟨fun a' c' _ e _ => ?_, fun a' c' e => (by cases e), fun a' c' e => (by cases e)⟩
    · rw [← sx e]
      exact h.add a c rfl rfl dj
    · cases e
      rw [h _ rfl, sumOf_ext X ha, sumOf_ext X hc]
  · refine make_res (F := plusF T a c (-1)) W hb hL rfl trivial hin I BB M (fun r h x e => ?_) rfl (by rw [ep]; exact P) (by rw [ep]; exact fp) fun T' r X h => ⟨fun a' c' e => (by cases e), fun a' c' _ e _ => ?_, fun a' c' e => (by cases e)⟩
    · rw [← sx e]
      exact h.sub a c rfl rfl dj
    · cases e
      rw [h _ rfl, sumOf_ext X ha, sumOf_ext X hc]
theorem mul_res {b : Nat} {B : Int} {T : Tb} (W : Wf b T) (hb : 200 ≤ b) (hL : T.fs.length ≤ 60) (I : Inv0 B T) (hB : B < 2 ^ 190) (M : MdI T) {a c : Nat} (ha : a < T.fs.length) (hc : c < T.fs.length) {y : Int} (hy : sumOf T c = (y, [])) (y0 : y ≠ 0) (y1 : -4 ≤ y) (y2 : y ≤ 4) (sa : T.lo a ≠ T.hi a) :
    Res (b + 212) (4 * B) T (some (mulS y (sumOf T a))) (makeT T .mul [a, c]) := by
  have ba := I.bd a ha
  have la := (I.can a ha).le
  have BB : B ≤ 4 * B := by omega
  have Cc := I.can c hc
  have lc : T.lo c = y := by rw [Cc.lo, hy]; exact Int.add_zero y
  have hc' : T.hi c = y := by rw [Cc.hi, hy]; exact Int.add_zero y
  have ef : mulF T a c = timesF T a y := by
    unfold mulF
    rw [if_neg sa, if_pos (lc.trans hc'.symm), lc]
  have ct := cs_times (I.can a ha) y
  have cl := clo_mn T a y
  have hin : ∀ i ∈ [a, c], i < T.fs.length ∧ Small T i := fun i hi => by
    simp only [List.mem_cons, List.not_mem_nil, or_false] at hi
    rcases hi with rfl | rfl
    · exact ⟨ha, I.small hB ha⟩
    · exact ⟨hc, I.small hB hc⟩
  have bnd : -(4 * B) ≤ cLo T a y ∧ cHi T a y ≤ 4 * B := by
    rw [cl.1, cl.2]
    have key : ∀ x : Int, -B ≤ x → x ≤ B → -(4 * B) ≤ y * x ∧ y * x ≤ 4 * B := fun x h1 h2 => by
      rcases Int.le_total 0 y with s | s
      · have k1 := Int.mul_le_mul_of_nonneg_left h1 s
        have k2 := Int.mul_le_mul_of_nonneg_left h2 s
        have k3 := Int.mul_le_mul_of_nonneg_right y2 (show 0 ≤ B by omega)
        rw [Int.mul_neg] at k1
        omega
      · have k1 := Int.mul_le_mul_of_nonpos_left s h1
        have k2 := Int.mul_le_mul_of_nonpos_left s h2
        have k3 := Int.mul_le_mul_of_nonneg_right y1 (show 0 ≤ B by omega)
        rw [Int.mul_neg] at k1
        omega
    have k1 := key (T.lo a) (by omega) (by omega)
    have k2 := key (T.hi a) (by omega) (by omega)
    unfold mn mx
    constructor <;> split <;> omega
  have P := putT_sum (I.mono BB) (n := y * (sumOf T a).1) (mulP_srt (I.ss.srt a ha) y) (mulP_un (I.ss.un a ha) y0) ct.1 ct.2 bnd.1 bnd.2
  refine make_res (F := timesF T a y) W hb hL rfl trivial hin I BB M (fun r h x e => ?_) (by show (T, mulF T a c) = _; rw [ef]) P (plF_fos (fun p hp => (mulP_un (I.ss.un a ha) y0 p hp).1) _) fun T' r X h => ⟨fun a' c' e => (by cases e), fun a' c' e => (by cases e), fun a' c' _ e _ _ _ => ?_⟩
  · rw [← Option.some.inj e]
    have := h.mul a c rfl rfl sa (by rw [hy]) (by rw [hy]; exact y0)
    rw [hy] at this
    exact this
  · cases e
    rw [h _ rfl, sumOf_ext X ha, sumOf_ext X hc, hy]
/-- a product that is no sum -/
theorem mulu_res {b : Nat} {B B' : Int} {T : Tb} (W : Wf b T) (hb : 200 ≤ b) (hL : T.fs.length ≤ 60) (I : Inv0 B T) (BB : B ≤ B') (hB : B < 2 ^ 190) (M : MdI T) {a : Nat} (ha : a < T.fs.length) (hu : unitF (T.fm a)) (sa : T.lo a ≠ T.hi a)
    (h0 : lst (corn (T.lo a) (T.hi a) (T.lo a) (T.hi a)) < grt (corn (T.lo a) (T.hi a) (T.lo a) (T.hi a))) (h1 : -B' ≤ lst (corn (T.lo a) (T.hi a) (T.lo a) (T.hi a))) (h2 : grt (corn (T.lo a) (T.hi a) (T.lo a) (T.hi a)) ≤ B') : Res (b + 212) B' T none (makeT T .mul [a, a]) := by
  have ef : mulF T a a = (.op .mul (sort2 a a), lst (corn (T.lo a) (T.hi a) (T.lo a) (T.hi a)), grt (corn (T.lo a) (T.hi a) (T.lo a) (T.hi a))) := by
    unfold mulF
    rw [if_neg sa, if_neg sa]
  have hin : ∀ i ∈ [a, a], i < T.fs.length ∧ Small T i := fun i hi => by
    simp only [List.mem_cons, List.not_mem_nil, or_false, or_self] at hi
    rw [hi]
    exact ⟨ha, I.small hB ha⟩
  have P := put_unit (I.mono BB) (f := .op .mul (sort2 a a)) trivial h0 h1 h2
  refine make_res (F := (.op .mul (sort2 a a), lst (corn (T.lo a) (T.hi a) (T.lo a) (T.hi a)), grt (corn (T.lo a) (T.hi a) (T.lo a) (T.hi a)))) W hb hL rfl trivial hin I BB M (fun r h x e => (by cases e)) (by show (T, mulF T a a) = _; rw [ef]) ?_ (.inr trivial) fun T' r X h => ⟨fun a' c' e => (by cases e), fun a' c' e => (by cases e), fun a' c' _ e _ z => ?_⟩
  · unfold putT
    rw [if_neg (Int.ne_of_lt h0)]
    exact P
  · cases e
    rw [sumOf_ext X ha, unit_sum hu] at z
    cases z
theorem clamp_res {b : Nat} {B B' : Int} {T : Tb} (W : Wf b T) (hb : 200 ≤ b) (hL : T.fs.length ≤ 60) (I : Inv0 B T) (BB : B ≤ B') (hB : B < 2 ^ 190) (M : MdI T) {a : Nat} (ha : a < T.fs.length) {l h : Int} (lh : l ≤ h) (bl : Bg 200 l) (bh : Bg 200 h) (h1 : -B' ≤ l) (h2 : h ≤ B') : Res (b + 212) B' T none (makeT T (.clamp l h) [a]) := by
  have hin : ∀ i ∈ [a], i < T.fs.length ∧ Small T i := fun i hi => by
    rw [List.mem_singleton.mp hi]
    exact ⟨ha, I.small hB ha⟩
  have noS : ∀ {R : Tb × Nat} {s : Option (Int × List (Nat × Int))}, Put B' T s R → Put B' T none R := fun P => ⟨P.inv, P.ext, P.lt, P.md, P.vs, fun x e => (by cases e)⟩
  have ba := I.bd a ha
  have la := (I.can a ha).le
  refine make_res (F := clampF T l h a) W hb hL rfl ⟨lh, bl, bh⟩ hin I BB M (fun r h x e => (by cases e)) rfl ?_ ?_ fun T' r X h => ⟨fun a' c' e => (by cases e), fun a' c' e => (by cases e), fun a' c' e => (by cases e)⟩
  · unfold clampF
    split
    · exact noS (putT_known (I.mono BB) ha)
    · rename_i hn
      show Put B' T none (putT T (.op (.clamp l h) [a]) (lim (T.lo a) l h) (lim (T.hi a) l h))
      have lm := lim_mono lh la
      have lb : ∀ x, -B' ≤ x → x ≤ B' → -B' ≤ lim x l h ∧ lim x l h ≤ B' := fun x a1 a2 => by
        unfold lim
        split
        · omega
        · split <;> omega
      have b1 := lb (T.lo a) (by omega) (by omega)
      have b2 := lb (T.hi a) (by omega) (by omega)
      unfold putT
      split
      · exact noS (put_num (I.mono BB) b1.1 b1.2)
      · exact put_unit (I.mono BB) (f := .op (.clamp l h) [a]) trivial (by omega) b1.1 b2.2
  · unfold clampF
    split
    · exact .inl (List.mem_of_getElem? (fm_at ha))
    · exact .inr trivial
/-! ### picks -/
structure RowI (T : Tb) (i : Nat) : Prop where
  ne : (sumOf T i).2 ≠ []
  g0 : byP (sumOf T i).2 ≠ 0
  gs : ((byP (sumOf T i).2).natAbs : Int) ≤ T.hi i - T.lo i
  lo : rowLo T i = cLoS T (rowPs (sumOf T i).2)
  hi : rowHi T i = cHiS T (rowPs (sumOf T i).2)
  d1 : byP (sumOf T i).2 ∣ T.lo i - (sumOf T i).1
  d2 : byP (sumOf T i).2 ∣ T.hi i - (sumOf T i).1
  srt : SrtP (rowPs (sumOf T i).2)
  un : UnP T (rowPs (sumOf T i).2)
  lt : rowLo T i < rowHi T i
  wd : rowHi T i - rowLo T i ≤ T.hi i - T.lo i
theorem row_facts {B : Int} {T : Tb} (I : Inv0 B T) {i : Nat} (hi : i < T.fs.length) (hne : T.lo i ≠ T.hi i) : RowI T i := by
  have C := I.can i hi
  have un := I.ss.un i hi
  have ne : (sumOf T i).2 ≠ [] := fun e => hne (by
    have h1 := C.lo
    have h2 := C.hi
    rw [e] at h1 h2
    exact h1.trans h2.symm)
  obtain ⟨p, hp⟩ := List.exists_mem_of_ne_nil _ ne
  have u := un p hp
  have g0 := byP_ne hp u.2.2
  have rc := row_can C g0
  have back := row_back (sumOf T i).2
  have un2 : UnP T (rowPs (sumOf T i).2) := fun q hq => by
    obtain ⟨q', hq', rfl⟩ := List.mem_map.mp hq
    have u' := un q' hq'
    refine ⟨u'.1, u'.2.1, fun z => u'.2.2 ?_⟩
    have k := Int.fdiv_mul_cancel (byP_dvd _ q' hq')
    have z : q'.2.fdiv (byP (sumOf T i).2) = 0 := z
    rw [← k, z, Int.zero_mul]
  have ne2 : rowPs (sumOf T i).2 ≠ [] := fun e => ne (List.map_eq_nil_iff.mp e)
  have lt := sum_strict I un2 ne2
  have wide := cS_wide (I.st p.1 u.1 u.2.1) hp
  have gl := byP_le hp u.2.2
  have e1 : T.hi i - T.lo i = cHiS T (sumOf T i).2 - cLoS T (sumOf T i).2 := by
    have := C.lo
    have := C.hi
    omega
  refine ⟨ne, g0, by omega, rc.1, rc.2.1, rc.2.2.1, rc.2.2.2, (I.ss.srt i hi).map fun x => x.fdiv (byP (sumOf T i).2), un2, by rw [rc.1, rc.2.1]; exact lt, ?_⟩
  rw [rc.1, rc.2.1, e1]
  rcases Int.le_total 0 (byP (sumOf T i).2) with s | s
  · have k := cS_mul T s (rowPs (sumOf T i).2)
    rw [back] at k
    rw [k.1, k.2, ← Int.mul_sub]
    have := Int.mul_le_mul_of_nonneg_right (show 1 ≤ byP (sumOf T i).2 by omega) (show 0 ≤ cHiS T (rowPs (sumOf T i).2) - cLoS T (rowPs (sumOf T i).2) by omega)
    omega
  · have k := cS_muln T s (rowPs (sumOf T i).2)
    rw [back] at k
    rw [k.1, k.2, ← Int.mul_sub]
    have := Int.mul_le_mul_of_nonneg_right (show 1 ≤ -byP (sumOf T i).2 by omega) (show 0 ≤ cHiS T (rowPs (sumOf T i).2) - cLoS T (rowPs (sumOf T i).2) by omega)
    rw [Int.neg_mul, ← Int.mul_neg, Int.neg_sub] at this
    omega
theorem bg_small {x : Int} (h1 : -900 ≤ x) (h2 : x ≤ 900) : Bg 10 x := by
  unfold Bg
  have : (2 : Nat) ^ 10 = 1024 := by decide
  omega
theorem getD_mem {ids : List Nat} {k : Nat} (h : k < ids.length) : ids.getD k 0 ∈ ids := by
  rw [List.getD_eq_getElem?_getD, List.getElem?_eq_getElem h]
  exact List.getElem_mem h
theorem fdiv_bg {b : Nat} {x g : Int} (h : Bg b x) (d : g ∣ x) (g0 : g ≠ 0) : Bg b (x.fdiv g) := by
  have e := Int.fdiv_mul_cancel d
  unfold Bg at *
  have e2 : (x.fdiv g).natAbs * g.natAbs = x.natAbs := by rw [← Int.natAbs_mul, e]
  have h1 : 1 ≤ g.natAbs := by omega
  have := Nat.mul_le_mul_left (x.fdiv g).natAbs h1
  omega
structure PRes (b : Nat) (B : Int) (T : Tb) (ids : List Nat) (i : Nat) (R : Tb × Nat) : Prop where
  wf : Wf b R.1
  inv : Inv0 B R.1
  mdi : MdI R.1
  ext : Ext T R.1
  lt : R.2 < R.1.fs.length
  two : R.1.fs.length ≤ T.fs.length + 2
  md : R.1.md = T.md
  vs : R.1.vs = T.vs
  var : ∀ k, Fm.var k ∈ R.1.fs → Fm.var k ∈ T.fs
  sem : ∀ ρ v, Sem T ρ v → ∃ u, Sem R.1 ρ u
  val : ∀ T', Ext R.1 T' → ∀ ρ v, Sem T' ρ v → 0 ≤ v i ∧ v i < ids.length ∧ v R.2 = v (ids.getD (v i).toNat 0)
  iv : (∀ l, Fm.pick l ∉ T.fs) → ∀ m m' : Int, (∀ k : Nat, T.lo i ≤ (k : Int) → (k : Int) ≤ T.hi i → m ≤ T.lo (ids.getD k 0) ∧ T.hi (ids.getD k 0) ≤ m') → m ≤ R.1.lo R.2 ∧ R.1.hi R.2 ≤ m'
theorem row_ext {T T' : Tb} (X : Ext T T') {i : Nat} (hi : i < T.fs.length) (hl : T.sp.length = T.fs.length) : rowLo T' i = rowLo T i ∧ rowHi T' i = rowHi T i ∧ rowF T' i = rowF T i ∧ rowM T' i = rowM T i := by
  have e := sumOf_ext X hi
  have r := row_shift (T := T) (T' := T') (i := i) (j := i) (k := 0) (by rw [e, Int.add_zero]) (by rw [X.lo (by omega), Int.add_zero]) (by rw [X.hi (by omega), Int.add_zero])
  exact ⟨r.1, r.2.1, r.2.2.2.2.1.trans (Int.add_zero _), r.2.2.2.2.2⟩
theorem pick_res {b : Nat} {B : Int} {T : Tb} (W : Wf b T) (hb : 200 ≤ b) (hb5 : b ≤ 5000) (I : Inv0 B T) (hB : B < 2 ^ 190) (M : MdI T) (hL : T.fs.length ≤ 60) {ids : List Nat} {i : Nat} (hi : i < T.fs.length) (hin : ∀ j ∈ ids, j < T.fs.length) (l9 : ids.length ≤ 800) (h0 : 0 ≤ T.lo i) (h1 : T.hi i < ids.length) :
    PickOk T ids i ∧ PRes (b + 212) B T ids i (pickT T ids i) := by
  have C := I.can i hi
  have hle := C.le
  have rows : T.lo i ≠ T.hi i → RowOk T i ∧ Put B T (some (-(rowLo T i), rowPs (sumOf T i).2)) (rowT T i) ∧ Placed (b + 212) T (fos T (-(rowLo T i)) (rowPs (sumOf T i).2)) 0 (rowHi T i - rowLo T i) (rowT T i) ∧
      (∀ t : Nat, t < rowM T i → CMulW (byP (sumOf T i).2) t ∧ T.lo i ≤ rowF T i + byP (sumOf T i).2 * (t : Int) ∧ rowF T i + byP (sumOf T i).2 * (t : Int) ≤ T.hi i) ∧ ∀ T', Ext T T' → ∀ ρ v, Sem T' ρ v → rowLo T i ≤ psV v (rowPs (sumOf T i).2) ∧ psV v (rowPs (sumOf T i).2) ≤ rowHi T i ∧ rowF T i + byP (sumOf T i).2 * (psV v (rowPs (sumOf T i).2) - rowLo T i) = v i := fun hne => by
    have R := row_facts I hi hne
    have sm : ∀ j, j < T.fs.length → Small T j := fun j hj => I.small hB hj
    obtain ⟨s1, s2, s3, s4⟩ := sumOf_ok W (by omega) hi (sm i hi)
    have blo : Bg (b + 202) (rowLo T i) := by
      have k1 : Bg (b + 202) (T.lo i - (sumOf T i).1) := (Bg.sub ((sm i hi).1.mono (m := b + 201) (by omega)) (s2.mono (by omega)))
      have k2 : Bg (b + 202) (T.hi i - (sumOf T i).1) := (Bg.sub ((sm i hi).2.mono (m := b + 201) (by omega)) (s2.mono (by omega)))
      unfold rowLo mn rowE1 rowE2
      split
      · exact fdiv_bg k2 R.d2 R.g0
      · exact fdiv_bg k1 R.d1 R.g0
    have gs := R.gs
    have bg : Bg 10 (byP (sumOf T i).2) := bg_small (by omega) (by omega)
    have lt := R.lt
    have wd := R.wd
    have ri := row_in R.g0 R.d1 R.d2 hle
    have bb := I.bd i hi
    have P : Put B T (some (-(rowLo T i), rowPs (sumOf T i).2)) (rowT T i) := put_sum I R.srt R.un (fun e => R.ne (List.map_eq_nil_iff.mp e)) (by rw [R.lo]; omega) (by rw [R.lo, R.hi]; omega) (by omega) (by omega)
    obtain ⟨F, val⟩ := fos_ok (b := b + 212) (W.mono (by omega)) (n := -(rowLo T i)) (ps := rowPs (sumOf T i).2) R.srt.nodup ((bg_neg blo).mono (by omega)) fun p hp => by
      obtain ⟨q, hq, rfl⟩ := List.mem_map.mp hp
      have s := s3 q hq
      exact ⟨s.1, (fdiv_bg s.2.1 (byP_dvd _ q hq) R.g0).mono (by omega), s.2.2⟩
    have rv : ∀ T', Ext T T' → ∀ ρ v, Sem T' ρ v → rowLo T i ≤ psV v (rowPs (sumOf T i).2) ∧ psV v (rowPs (sumOf T i).2) ≤ rowHi T i ∧ rowF T i + byP (sumOf T i).2 * (psV v (rowPs (sumOf T i).2) - rowLo T i) = v i := fun T' X ρ v S => by
      have e := sumOf_ext X hi
      have re := row_ext X hi I.len
      have k := row_val S (i := i) (Nat.lt_of_lt_of_le hi X.len) (by rw [e]; exact R.g0) (by rw [e, X.lo (by rw [I.len]; exact hi)]; exact R.d1) (by rw [e, X.hi (by rw [I.len]; exact hi)]; exact R.d2)
      rw [e, re.1, re.2.1, re.2.2.1] at k
      exact k
    refine ⟨⟨⟨hi, I.len⟩, R.ne, ?_, fun x => ⟨R.g0, by omega⟩, fun p hp => (I.ss.un i hi p hp).1, Bg.cmul bg blo (by decide) (by omega) (by omega), wf_pl W, by omega⟩, P, place_ok (W.mono (by omega)) F (bg_zero _) ((bg_small (x := rowHi T i - rowLo T i) (by omega) (by omega)).mono (by omega)), fun t ht => ⟨?_, ri.2 t ht⟩, rv⟩
    · have := nodup_lt s1 fun x hx => by
        obtain ⟨p, hp, rfl⟩ := List.mem_map.mp hx
        exact (s3 p hp).1
      rw [List.length_map] at this
      omega
    · have : rowM T i ≤ 801 := by unfold rowM; omega
      exact Bg.cmul bg (bg_small (x := (t : Int)) (by omega) (by omega)) (by decide) (by decide) (by decide)
  refine ⟨⟨h0, h1, hin, fun hne => ?_⟩, ?_⟩
  · obtain ⟨ro, P, PL, rt, rv⟩ := rows hne
    have R := row_facts I hi hne
    have lt := R.lt
    have wd := R.wd
    have one := PL.one
    refine ⟨ro, wf_pl PL.wf, PL.wf.len, by omega, fun j hj => ⟨P.ext.lo (by rw [I.len]; exact hj), P.ext.hi (by rw [I.len]; exact hj)⟩, P.ext.len, by omega, by unfold rowM; omega, fun t ht => ?_⟩
    have := rt t ht
    exact ⟨this.1, by omega, by omega⟩
  · unfold pickT
    by_cases hne : T.lo i = T.hi i
    · rw [if_pos hne]
      have hk : (T.lo i).toNat < ids.length := by omega
      refine ⟨W.mono (by omega), I, M, Ext.refl T, hin _ (getD_mem hk), Nat.le_add_right _ 2, rfl, rfl, fun k h => h, fun ρ v S => ⟨v, S⟩, fun T' X ρ v S => ?_, fun _ m m' h => ?_⟩
      · have iv := S.iv i (Nat.lt_of_lt_of_le hi X.len)
        have xl : T'.lo i = T.lo i := X.lo (by show i < T.sp.length; rw [I.len]; exact hi)
        have xh : T'.hi i = T.hi i := X.hi (by show i < T.sp.length; rw [I.len]; exact hi)
        have e : v i = T.lo i := by omega
        rw [e]
        exact ⟨h0, by omega, rfl⟩
      · exact h (T.lo i).toNat (by omega) (by omega)
    · rw [if_neg hne]
      obtain ⟨ro, P, PL, rt, rv⟩ := rows hne
      have R := row_facts I hi hne
      have lt := R.lt
      have wd := R.wd
      have one := PL.one
      have hm : 1 ≤ rowM T i ∧ rowM T i ≤ 801 ∧ (rowM T i : Int) = rowHi T i - rowLo T i + 1 := by unfold rowM; omega
      have chl : (chI T ids i).length = rowM T i := by unfold chI; rw [List.length_map, List.length_range]
      have chat : ∀ t : Nat, t < rowM T i → (chI T ids i)[t]? = some (ids.getD (rowF T i + byP (sumOf T i).2 * (t : Int)).toNat 0) := fun t ht => by
        unfold chI
        rw [List.getElem?_map, List.getElem?_range ht]
        rfl
      have chx : ∀ c ∈ chI T ids i, ∃ k : Nat, T.lo i ≤ (k : Int) ∧ (k : Int) ≤ T.hi i ∧ c = ids.getD k 0 := fun c hc => by
        obtain ⟨t, ht, rfl⟩ := List.mem_map.mp hc
        have r := rt t (List.mem_range.mp ht)
        exact ⟨_, by omega, by omega, rfl⟩
      have chlt : ∀ c ∈ chI T ids i, c < T.fs.length := fun c hc => by
        obtain ⟨k, k1, k2, rfl⟩ := chx c hc
        exact hin _ (getD_mem (by omega))
      have hh : (chI T ids i).headD 0 ∈ chI T ids i := by
        match hq : chI T ids i with
        | [] => rw [hq] at chl; simp at chl; omega
        | c :: r => exact List.mem_cons_self
      have var1 : ∀ k, Fm.var k ∈ (rowT T i).1.fs → Fm.var k ∈ T.fs := fun k h => by
        rcases placeT_fs _ _ _ _ _ h with h | h
        · exact h
        · rcases plF_fos (T := T) (ps := rowPs (sumOf T i).2) (fun p hp => (R.un p hp).1) (-(rowLo T i)) with h2 | h2
          · rw [h]
            exact h2
          · rw [← h] at h2
            exact h2.elim
      have sem1 : ∀ ρ v, Sem T ρ v → ∃ u, Sem (rowT T i).1 ρ u := fun ρ v S => by
        have k := rv T (Ext.refl T) ρ v S
        have e : fmV ρ v (fos T (-(rowLo T i)) (rowPs (sumOf T i).2)) = -(rowLo T i) + psV v (rowPs (sumOf T i).2) := by
          have sm : ∀ j, j < T.fs.length → Small T j := fun j hj => I.small hB hj
          have bk := sum_back (T := T) (T' := (rowT T i).1) (j := (rowT T i).2) PL.at_ P.ext P.inv.nd fun p hp => ⟨(R.un p hp).1, (R.un p hp).2.1⟩
          match hq : rowPs (sumOf T i).2, R.un with
          | [], _ => rfl
          | p :: q :: r, _ => rfl
          | [(u, c)], un =>
            show fmV ρ v (if -(rowLo T i) = 0 ∧ c = 1 then T.fm u else Fm.sum _ [(u, c)]) = _
            split
            · rename_i z
              rw [z.1, z.2, ← S.at_ u _ (fm_at (un (u, c) List.mem_cons_self).1)]
              show v u = 0 + (1 * v u + 0)
              omega
            · rfl
        obtain ⟨u, U, _⟩ := PL.sem ρ v S (by rw [e]; omega) (by rw [e]; omega)
        exact ⟨u, U⟩
      have cnt : ∀ T', Ext (rowT T i).1 T' → ∀ ρ v, Sem T' ρ v → ∃ t : Nat, t < rowM T i ∧ v (rowT T i).2 = (t : Int) ∧ (v i).toNat = (rowF T i + byP (sumOf T i).2 * (t : Int)).toNat ∧ 0 ≤ v i ∧ v i < ids.length := fun T' X ρ v S => by
        have k := rv T' (P.ext.trans X) ρ v S
        have sv := sum_val S (i := (rowT T i).2) (Nat.lt_of_lt_of_le P.lt X.len)
        rw [sumOf_ext X P.lt, P.sum _ rfl] at sv
        have iv := S.iv i (Nat.lt_of_lt_of_le hi (P.ext.trans X).len)
        rw [(P.ext.trans X).lo (by rw [I.len]; exact hi), (P.ext.trans X).hi (by rw [I.len]; exact hi)] at iv
        have sv : v (rowT T i).2 = -(rowLo T i) + psV v (rowPs (sumOf T i).2) := sv
        refine ⟨(psV v (rowPs (sumOf T i).2) - rowLo T i).toNat, by omega, by omega, ?_, by omega, by omega⟩
        rw [← k.2.2]
        congr 3
        omega
      split
      · rename_i al
        have al := List.all_eq_true.mp al
        have same : ∀ t : Nat, t < rowM T i → ids.getD (rowF T i + byP (sumOf T i).2 * (t : Int)).toNat 0 = (chI T ids i).headD 0 := fun t ht => of_decide_eq_true (al _ (List.mem_of_getElem? (chat t ht)))
        refine ⟨PL.wf, P.inv, M.ext W P.ext P.md, P.ext, Nat.lt_of_lt_of_le (chlt _ hh) P.ext.len, by show (rowT T i).1.fs.length ≤ _; omega, P.md, P.vs, var1, sem1, fun T' X ρ v S => ?_, fun _ m m' h => ?_⟩
        · obtain ⟨t, ht, _, e, v0, v1⟩ := cnt T' X ρ v S
          rw [e, same t ht]
          exact ⟨v0, v1, rfl⟩
        · obtain ⟨k, k1, k2, e⟩ := chx _ hh
          show m ≤ (rowT T i).1.lo ((chI T ids i).headD 0) ∧ (rowT T i).1.hi ((chI T ids i).headD 0) ≤ m'
          have kl := chlt _ hh
          rw [P.ext.lo (by rw [I.len]; exact kl), P.ext.hi (by rw [I.len]; exact kl), e]
          exact h k k1 k2
      · rename_i al
        have C1 := P.inv.can _ P.lt
        have e1 := P.sum _ rfl
        have cx := cS_ext P.ext (ps := rowPs (sumOf T i).2) fun p hp => by rw [I.len]; exact (R.un p hp).1
        have clo : (rowT T i).1.lo (rowT T i).2 = 0 := by
          rw [C1.lo, e1]
          show -(rowLo T i) + cLoS _ (rowPs (sumOf T i).2) = 0
          rw [cx.1, R.lo]
          omega
        have chi : (rowT T i).1.hi (rowT T i).2 = rowHi T i - rowLo T i := by
          rw [C1.hi, e1]
          show -(rowLo T i) + cHiS _ (rowPs (sumOf T i).2) = _
          rw [cx.2, R.hi]
          omega
        have lastD : (chI T ids i ++ [(rowT T i).2]).getLastD 0 = (rowT T i).2 := by
          rw [List.getLastD_eq_getLast?, List.getLast?_append]
          rfl
        have hlo : ∀ c ∈ chI T ids i, lst ((chI T ids i).map T.lo) ≤ T.lo c := fun c hc => lst_le _ _ (List.mem_map.mpr ⟨c, hc, rfl⟩)
        have hhi : ∀ c ∈ chI T ids i, T.hi c ≤ grt ((chI T ids i).map T.hi) := fun c hc => le_grt _ _ (List.mem_map.mpr ⟨c, hc, rfl⟩)
        have ne1 : (chI T ids i).map T.lo ≠ [] := fun e => by
          have := List.map_eq_nil_iff.mp e
          rw [this] at hh
          cases hh
        have ne2 : (chI T ids i).map T.hi ≠ [] := fun e => by
          have := List.map_eq_nil_iff.mp e
          rw [this] at hh
          cases hh
        obtain ⟨c1, hc1, ec1⟩ := List.mem_map.mp (lst_mem _ ne1)
        obtain ⟨c2, hc2, ec2⟩ := List.mem_map.mp (grt_mem _ ne2)
        have strict : lst ((chI T ids i).map T.lo) < grt ((chI T ids i).map T.hi) := by
          apply Decidable.byContradiction
          intro z
          have allnum : ∀ c ∈ chI T ids i, T.fs[c]? = some (.num (lst ((chI T ids i).map T.lo))) := fun c hc => by
            have hcl := chlt c hc
            have Cc := I.can c hcl
            have a1 := hlo c hc
            have a2 := hhi c hc
            have a3 := Cc.le
            have en : (sumOf T c).2 = [] := by
              apply Decidable.byContradiction
              intro ne
              have := sum_strict I (I.ss.un c hcl) ne
              have := Cc.lo
              have := Cc.hi
              omega
            have el : T.lo c = (sumOf T c).1 := by
              have := Cc.lo
              rw [en] at this
              exact this.trans (Int.add_zero _)
            rw [fm_at hcl]
            have el2 : lst ((chI T ids i).map T.lo) = (sumOf T c).1 := by omega
            rw [el2]
            have nos := I.nos c
            unfold sumOf at en ⊢
            revert en nos
            cases T.fm c with
            | num n => exact fun _ _ => rfl
            | sum n ps => exact fun e nos => absurd e (nos n ps hcl rfl)
            | var _ => exact fun e => by cases e
            | op _ _ => exact fun e => by cases e
            | pick _ => exact fun e => by cases e
          refine al (List.all_eq_true.mpr fun c hc => decide_eq_true ?_)
          exact nodup_at I.nd (allnum c hc) (allnum _ hh)
        have bnd : -B ≤ lst ((chI T ids i).map T.lo) ∧ grt ((chI T ids i).map T.hi) ≤ B := by
          rw [← ec1, ← ec2]
          exact ⟨(I.bd _ (chlt _ hc1)).1, (I.bd _ (chlt _ hc2)).2⟩
        have P2 := put_unit P.inv (f := .pick (chI T ids i ++ [(rowT T i).2])) trivial strict bnd.1 bnd.2
        have sb : ∀ c, c < T.fs.length → Bg (b + 212) (T.lo c) ∧ Bg (b + 212) (T.hi c) := fun c hc => ⟨(I.small hB hc).1.mono (by omega), (I.small hB hc).2.mono (by omega)⟩
        have F2 : FOk (b + 212) (rowT T i).1 (.pick (chI T ids i ++ [(rowT T i).2])) :=
          { pa := fun p hp => by
              rcases List.mem_append.mp hp with h | h
              · exact Nat.lt_of_lt_of_le (chlt p h) P.ext.len
              · rw [List.mem_singleton.mp h]
                exact P.lt
            nu := fun n e => by cases e
            su := fun n ps e => by cases e
            ar := fun k ids e => by cases e
            ex := fun k ids e => by cases e
            sh := fun n ids e => by cases e
            pk := fun l e => by
              cases e
              rw [List.length_append, chl, lastD, clo, chi]
              show 2 ≤ rowM T i + 1 ∧ rowM T i + 1 ≤ 900 ∧ (0 : Int) ≤ 0 ∧ _ < ((rowM T i + 1 : Nat) : Int) - 1
              omega
            vk := fun k e => by cases e }
        have PL2 := place_ok PL.wf F2 (l := lst ((chI T ids i).map T.lo)) (h := grt ((chI T ids i).map T.hi)) (by rw [← ec1]; exact (sb _ (chlt _ hc1)).1) (by rw [← ec2]; exact (sb _ (chlt _ hc2)).2)
        have pv : ∀ {v : Nat → Int} {t : Nat} (ρ : PyData → Int), v (rowT T i).2 = (t : Int) → t < rowM T i → fmV ρ v (.pick (chI T ids i ++ [(rowT T i).2])) = v (ids.getD (rowF T i + byP (sumOf T i).2 * (t : Int)).toNat 0) := fun {v t} ρ e ht => by
          show (((chI T ids i ++ [(rowT T i).2]).map v)).getD ((((chI T ids i ++ [(rowT T i).2]).map v)).getLastD 0).toNat 0 = _
          have e3 : ((chI T ids i ++ [(rowT T i).2]).map v).getLastD 0 = (t : Int) := by
            rw [List.map_append, List.getLastD_eq_getLast?, List.getLast?_append]
            exact e
          rw [e3, Int.toNat_natCast, List.getD_eq_getElem?_getD, List.getElem?_map, List.getElem?_append_left (by rw [chl]; exact ht), chat t ht]
          rfl
        have X2 := P.ext.trans P2.ext
        refine ⟨PL2.wf, P2.inv, (M.ext W P.ext P.md).ext PL.wf P2.ext P2.md, X2, P2.lt, by have := PL2.one; show (placeT _ _ _ _).1.fs.length ≤ _; omega, P2.md.trans P.md, P2.vs.trans P.vs, fun k h => ?_, fun ρ v S => ?_, fun T' X ρ v S => ?_, fun np m m' h => ?_⟩
        · rcases placeT_fs _ _ _ _ _ h with h | h
          · exact var1 k h
          · cases h
        · obtain ⟨u, U⟩ := sem1 ρ v S
          obtain ⟨t, ht, e, e2, _⟩ := cnt _ (Ext.refl _) ρ u U
          have ep := pv ρ e ht
          have mem := List.mem_of_getElem? (chat t ht)
          have iv := U.iv _ (Nat.lt_of_lt_of_le (chlt _ mem) P.ext.len)
          rw [P.ext.lo (by rw [I.len]; exact chlt _ mem), P.ext.hi (by rw [I.len]; exact chlt _ mem)] at iv
          have a1 := hlo _ mem
          have a2 := hhi _ mem
          obtain ⟨u2, U2, _⟩ := PL2.sem ρ u U (by rw [ep]; omega) (by rw [ep]; omega)
          exact ⟨u2, U2⟩
        · obtain ⟨t, ht, e, e2, v0, v1⟩ := cnt T' (P2.ext.trans X) ρ v S
          refine ⟨v0, v1, ?_⟩
          rw [S.at_ _ _ (X.at_ PL2.at_), pv ρ e ht, e2]
        · have hn : posF (rowT T i).1.fs (.pick (chI T ids i ++ [(rowT T i).2])) = none := by
            cases e : posF (rowT T i).1.fs (.pick (chI T ids i ++ [(rowT T i).2])) with
            | none => rfl
            | some j =>
              have hj := List.mem_of_getElem? (posF_some e)
              rcases placeT_fs _ _ _ _ _ hj with h | h
              · exact absurd h (np _)
              · rcases plF_fos (T := T) (ps := rowPs (sumOf T i).2) (fun p hp => (R.un p hp).1) (-(rowLo T i)) with h2 | h2
                · rw [← h] at h2
                  exact absurd h2 (np _)
                · rw [← h] at h2
                  exact h2.elim
          rw [placeT_snT _ _ hn]
          have sp := snT_sp P.inv.len (.pick (chI T ids i ++ [(rowT T i).2])) (lst ((chI T ids i).map T.lo)) (grt ((chI T ids i).map T.hi))
          show m ≤ (snT _ _ _ _).lo (rowT T i).1.fs.length ∧ (snT _ _ _ _).hi (rowT T i).1.fs.length ≤ m'
          rw [sp.1, sp.2, ← ec1, ← ec2]
          obtain ⟨k1, a1, a2, rfl⟩ := chx _ hc1
          obtain ⟨k2, b1, b2, rfl⟩ := chx _ hc2
          exact ⟨(h k1 a1 a2).1, (h k2 b1 b2).2⟩
/-- the same picks again -/
theorem pick_again {b : Nat} {B : Int} {T : Tb} (W : Wf b T) (hb : 200 ≤ b) (hb5 : b ≤ 5000) (I : Inv0 B T) (hB : B < 2 ^ 190) (M : MdI T) (hL : T.fs.length ≤ 60) {ids : List Nat} {i : Nat} (hi : i < T.fs.length) (hin : ∀ j ∈ ids, j < T.fs.length) (l9 : ids.length ≤ 800) (h0 : 0 ≤ T.lo i) (h1 : T.hi i < ids.length)
    {T2 : Tb} {ids2 : List Nat} {j : Nat} (X : Ext (pickT T ids i).1 T2) (nd2 : T2.fs.Nodup) (hE : T2.lo j = T2.hi j ↔ T.lo i = T.hi i) (hc : T.lo i = T.hi i → ids2.getD (T2.lo j).toNat 0 = ids.getD (T.lo i).toNat 0)
    (hr : T.lo i ≠ T.hi i → rowLo T2 j = rowLo T i ∧ rowPs (sumOf T2 j).2 = rowPs (sumOf T i).2 ∧ chI T2 ids2 j = chI T ids i) : pickT T2 ids2 j = (T2, (pickT T ids i).2) := by
  have PR := (pick_res W hb hb5 I hB M hL hi hin l9 h0 h1).2
  by_cases hne : T.lo i = T.hi i
  · unfold pickT
    rw [if_pos hne, if_pos (hE.mpr hne), hc hne]
  · have R := row_facts I hi hne
    obtain ⟨r1, r2, r3⟩ := hr hne
    have XT : Ext T T2 := PR.ext.trans X
    have ef : fos T2 (-(rowLo T2 j)) (rowPs (sumOf T2 j).2) = fos T (-(rowLo T i)) (rowPs (sumOf T i).2) := by
      rw [r1, r2]
      exact fos_ext XT fun p hp => (R.un p hp).1
    have at1 : (rowT T i).1.fs[(rowT T i).2]? = some (fos T (-(rowLo T i)) (rowPs (sumOf T i).2)) := by
      unfold rowT
      cases e : posF T.fs (fos T (-(rowLo T i)) (rowPs (sumOf T i).2)) with
      | some q =>
        rw [placeT_has _ _ e]
        exact posF_some e
      | none =>
        rw [placeT_snT _ _ e]
        exact snT_at _ _ _ _
    have X1 : Ext (rowT T i).1 (pickT T ids i).1 := by
      unfold pickT
      rw [if_neg hne]
      split
      · exact Ext.refl _
      · cases e : posF (rowT T i).1.fs (.pick (chI T ids i ++ [(rowT T i).2])) with
        | some q =>
          rw [placeT_has _ _ e]
          exact Ext.refl _
        | none =>
          rw [placeT_snT _ _ e]
          exact snT_ext _ _ _ _
    have er : rowT T2 j = (T2, (rowT T i).2) := by
      show placeT T2 (fos T2 (-(rowLo T2 j)) (rowPs (sumOf T2 j).2)) _ _ = _
      rw [ef]
      exact placeT_nd nd2 ((X1.trans X).at_ at1) _ _
    have un : ∀ {T ids i}, pickT T ids i = if T.lo i = T.hi i then (T, ids.getD (T.lo i).toNat 0) else if (chI T ids i).all (fun c => decide (c = (chI T ids i).headD 0)) = true then ((rowT T i).1, (chI T ids i).headD 0) else placeT (rowT T i).1 (.pick (chI T ids i ++ [(rowT T i).2])) (lst ((chI T ids i).map T.lo)) (grt ((chI T ids i).map T.hi)) := rfl
    have X' := X
    rw [un, if_neg hne] at X'
    rw [un (T := T2), if_neg (fun z => hne (hE.mp z)), r3, er, un (T := T), if_neg hne]
    split
    · rfl
    · rename_i al
      rw [if_neg al] at X'
      have at2 : (placeT (rowT T i).1 (.pick (chI T ids i ++ [(rowT T i).2])) (lst ((chI T ids i).map T.lo)) (grt ((chI T ids i).map T.hi))).1.fs[(placeT (rowT T i).1 (.pick (chI T ids i ++ [(rowT T i).2])) (lst ((chI T ids i).map T.lo)) (grt ((chI T ids i).map T.hi))).2]? = some (.pick (chI T ids i ++ [(rowT T i).2])) := by
        cases e : posF (rowT T i).1.fs (.pick (chI T ids i ++ [(rowT T i).2])) with
        | some q =>
          rw [placeT_has _ _ e]
          exact posF_some e
        | none =>
          rw [placeT_snT _ _ e]
          exact snT_at _ _ _ _
      exact placeT_nd nd2 (X'.at_ at2) _ _
/-! ### the places of a heap, each with what it holds, apart from each other -/
structure Cell where
  g : List Addr
  C : Hp → Prop
  loc : ∀ H H', KT H H' → (∀ b ∈ g, ∀ o, H b = some o → H' b = some o) → C H → C H'
  ex : ∀ H, C H → ∀ b ∈ g, (∃ o, H b = some o) ∧ ∀ o, H b = some o → ¬ IsT o
structure Sep (cs : List Cell) (H : Hp) : Prop where
  nd : (cs.map Cell.g).Pairwise fun a b => ∀ x ∈ a, ∀ y ∈ b, x ≠ y
  at_ : ∀ (j : Nat) (c : Cell), cs[j]? = some c → c.C H
theorem Sep.nil (H : Hp) : Sep [] H := ⟨List.Pairwise.nil, fun j c h => by simp at h⟩
theorem Sep.ne {cs : List Cell} {H : Hp} (S : Sep cs H) {i j : Nat} {c d : Cell} (hi : cs[i]? = some c) (hj : cs[j]? = some d) (h : i ≠ j) : ∀ x ∈ c.g, ∀ y ∈ d.g, x ≠ y := by
  have gi : (cs.map Cell.g)[i]? = some c.g := by rw [List.getElem?_map, hi]; rfl
  have gj : (cs.map Cell.g)[j]? = some d.g := by rw [List.getElem?_map, hj]; rfl
  obtain ⟨li, ei⟩ := List.getElem?_eq_some_iff.mp gi
  obtain ⟨lj, ej⟩ := List.getElem?_eq_some_iff.mp gj
  rcases Nat.lt_or_gt_of_ne h with h | h
  · have := List.pairwise_iff_getElem.mp S.nd i j li lj h
    rw [ei, ej] at this
    exact this
  · have := List.pairwise_iff_getElem.mp S.nd j i lj li h
    rw [ei, ej] at this
    exact fun x hx y hy z => this y hy x hx z.symm
theorem Sep.same {cs : List Cell} {H H' : Hp} (S : Sep cs H) (s : Same H H') : Sep cs H' := ⟨S.nd, fun j c h => c.loc H H' (Same.kt s) (fun b _ o e => s b o e) (S.at_ j c h)⟩
/-- one cell changes -/
theorem Sep.step {cs : List Cell} {H H' : Hp} (S : Sep cs H) (j : Nat) {c c' : Cell} (hj : cs[j]? = some c) (hg : c'.g = c.g) (k : Keep c.g H H') (hc : c'.C H') : Sep (cs.set j c') H' := by
  have kt : KT H H' := k.kt fun b hb o e => (c.ex H (S.at_ j c hj) b hb).2 o e
  refine ⟨?_, fun i d hd => ?_⟩
  · have e : (cs.set j c').map Cell.g = cs.map Cell.g := List.ext_getElem? fun i => by
      rw [List.getElem?_map, List.getElem?_map, List.getElem?_set]
      split
      · rename_i e
        subst e
        rw [if_pos (List.getElem?_eq_some_iff.mp hj).1, hj]
        show some c'.g = some c.g
        rw [hg]
      · rfl
    rw [e]
    exact S.nd
  · rw [List.getElem?_set] at hd
    by_cases e : j = i
    · rw [if_pos e] at hd
      split at hd
      · cases hd
        exact hc
      · cases hd
    · rw [if_neg e] at hd
      exact d.loc H H' kt (fun b hb o eo => k b o (fun z => S.ne hj hd e b z b hb rfl) eo) (S.at_ i d hd)
theorem Sep.ktk {cs : List Cell} {H H' : Hp} (S : Sep cs H) (j : Nat) {c : Cell} (hj : cs[j]? = some c) (k : Keep c.g H H') : KT H H' := k.kt fun b hb o e => (c.ex H (S.at_ j c hj) b hb).2 o e
/-- a new cell -/
theorem Sep.grow {cs : List Cell} {H H' : Hp} (S : Sep cs H) (s : Same H H') (c : Cell) (fr : ∀ b ∈ c.g, H b = none) (hc : c.C H') : Sep (c :: cs) H' := by
  refine ⟨?_, fun j d hd => ?_⟩
  · rw [List.map_cons, List.pairwise_cons]
    refine ⟨fun g hg x hx y hy z => ?_, S.nd⟩
    obtain ⟨d, hd, rfl⟩ := List.mem_map.mp hg
    obtain ⟨i, hi⟩ := List.getElem?_of_mem hd
    obtain ⟨⟨o, e⟩, _⟩ := d.ex H (S.at_ i d hi) y hy
    rw [← z, fr x hx] at e
    cases e
  · cases j with
    | zero =>
      cases hd
      exact hc
    | succ j => exact (S.same s).at_ j d hd
def cLst (p : Addr) (xs : List V) : Cell := ⟨[p], fun H => H p = some (.lst xs), fun _ _ _ k h => k p List.mem_cons_self _ h, fun H h b hb => by
  obtain rfl := List.mem_singleton.mp hb
  exact ⟨⟨_, h⟩, fun o e => by
    rw [h] at e
    cases e
    exact fun z => z⟩⟩
def cDr (d c : Addr) : Cell := ⟨[d, c], fun H => DrAt H d c, fun H H' _ k h => by
  obtain ⟨ns, i, r, s, n, h1, h2, h3⟩ := h
  exact ⟨ns, i, r, s, n, k d List.mem_cons_self _ h1, k c (List.mem_cons_of_mem _ List.mem_cons_self) _ h2, h3⟩, fun H h b hb => by
  obtain ⟨ns, i, r, s, n, h1, h2, h3⟩ := h
  rcases List.mem_cons.mp hb with rfl | hb
  · exact ⟨⟨_, h1⟩, fun o e => by
      rw [h1] at e
      cases e
      exact fun z => z⟩
  · obtain rfl := List.mem_singleton.mp hb
    exact ⟨⟨_, h2⟩, fun o e => by
      rw [h2] at e
      cases e
      exact fun z => z⟩⟩
def cTab (P : Program) (w : World) (K : PySem.W.Frag) (aT : Addr) (t : Addr) (L : Own) (T : Tb) : Cell := ⟨t :: L.l, fun H => TabAt P w K aT H t L T, fun H H' kt k h => by
  obtain ⟨⟨dx, h1⟩, h2⟩ := h
  exact ⟨⟨dx, k t List.mem_cons_self _ h1⟩, h2.keep kt fun b hb o e => k b (List.mem_cons_of_mem _ hb) o e⟩, fun H h b hb => by
  obtain ⟨⟨dx, h1⟩, h2⟩ := h
  rcases List.mem_cons.mp hb with rfl | hb
  · exact ⟨⟨_, h1⟩, fun o e => by
      rw [h1] at e
      cases e
      exact fun z => z⟩
  · exact h2.noT b hb⟩
/-- a dict with keys that hold tuples; tup: each of these values is a pair -/
def cDV (P : Program) (w : World) (K : PySem.W.Frag) (p : Addr) (kvs : List (PyData × V)) : Cell := ⟨[p], fun H => DV P w K H p kvs, fun H H' kt k h => h.kt kt.keepT (fun o e => k p List.mem_cons_self o e), fun H h b hb => by
  obtain rfl := List.mem_singleton.mp hb
  obtain ⟨xs, h1, _⟩ := h
  exact ⟨⟨_, h1⟩, fun o e => by
    rw [h1] at e
    cases e
    exact fun z => z⟩⟩
/-- two cells change -/
theorem Sep.step2 {cs : List Cell} {H H' : Hp} (S : Sep cs H) (j i : Nat) {c c' d d' : Cell} (hj : cs[j]? = some c) (hi : cs[i]? = some d) (hg : c'.g = c.g) (hg2 : d'.g = d.g) (k : Keep (c.g ++ d.g) H H') (hc : c'.C H') (hd' : d'.C H') : Sep ((cs.set j c').set i d') H' ∧ KT H H' := by
  have kt : KT H H' := k.kt fun b hb o e => by
    rcases List.mem_append.mp hb with hb | hb
    · exact (c.ex H (S.at_ j c hj) b hb).2 o e
    · exact (d.ex H (S.at_ i d hi) b hb).2 o e
  have one : ∀ (l : List Cell) (n : Nat) (a a' : Cell), l[n]? = some a → a'.g = a.g → (l.set n a').map Cell.g = l.map Cell.g := fun l n a a' hn hg => List.ext_getElem? fun i => by
    rw [List.getElem?_map, List.getElem?_map, List.getElem?_set]
    split
    · rename_i e
      subst e
      rw [if_pos (List.getElem?_eq_some_iff.mp hn).1, hn]
      show some a'.g = some a.g
      rw [hg]
    · rfl
  refine ⟨⟨?_, fun m x hx => ?_⟩, kt⟩
  · have e : ((cs.set j c').set i d').map Cell.g = cs.map Cell.g := by
      rw [← one cs j c c' hj hg]
      by_cases e : j = i
      · subst e
        exact one _ j c' d' (by rw [List.getElem?_set, if_pos rfl, if_pos (List.getElem?_eq_some_iff.mp hj).1]) (by rw [hg2, hg]; rw [hi] at hj; cases hj; rfl)
      · exact one _ i d d' (by rw [List.getElem?_set, if_neg e]; exact hi) hg2
    rw [e]
    exact S.nd
  · rw [List.getElem?_set] at hx
    by_cases e : i = m
    · rw [if_pos e] at hx
      split at hx
      · cases hx
        exact hd'
      · cases hx
    · rw [if_neg e, List.getElem?_set] at hx
      by_cases e2 : j = m
      · rw [if_pos e2] at hx
        split at hx
        · cases hx
          exact hc
        · cases hx
      · rw [if_neg e2] at hx
        exact x.loc H H' kt (fun b hb o eo => k b o (fun z => by
          rcases List.mem_append.mp z with z | z
          · exact S.ne hj hx e2 b z b hb rfl
          · exact S.ne hi hx e b z b hb rfl) eo) (S.at_ m x hx)
theorem Keep.sub {S S' : List Addr} {H H' : Hp} (k : Keep S H H') (h : ∀ b ∈ S, b ∈ S') : Keep S' H H' := fun b o n e => k b o (fun m => n (h b m)) e
/-! ### the law's tables -/
def k1 (i : Int) : PyData := .tuple [.int i]
structure LT (R : (PyData → Int) → Prop) (b : Nat) (B : Int) (nf nm : Nat) (T : Tb) : Prop where
  wf : Wf b T
  inv : Inv0 B T
  mdi : MdI T
  few : T.fs.length ≤ nf
  mdl : T.md.length ≤ nm
  var : ∀ k, Fm.var k ∈ T.fs → k = k1 0 ∨ k = k1 1 ∨ k = k1 2
  sem : ∀ ρ, R ρ → ∃ v, Sem T ρ v
def NP (T : Tb) : Prop := ∀ l, Fm.pick l ∉ T.fs
theorem LT.mono {R : (PyData → Int) → Prop} {b b' : Nat} {B B' : Int} {nf nf' nm nm' : Nat} {T : Tb} (h : LT R b B nf nm T) (h1 : b ≤ b') (h2 : B ≤ B') (h3 : nf ≤ nf') (h4 : nm ≤ nm') : LT R b' B' nf' nm' T := ⟨h.wf.mono h1, h.inv.mono h2, h.mdi, Nat.le_trans h.few h3, Nat.le_trans h.mdl h4, h.var, h.sem⟩
theorem LT.res {R : (PyData → Int) → Prop} {b b' : Nat} {B B' : Int} {nf nm : Nat} {T : Tb} {s : Option (Int × List (Nat × Int))} {Q : Tb × Nat} (h : LT R b B nf nm T) (r : Res b' B' T s Q) : LT R b' B' (nf + 2) (nm + 1) Q.1 := ⟨r.wf, r.inv, r.mdi, Nat.le_trans r.two (Nat.add_le_add_right h.few 2), Nat.le_trans r.mdl (Nat.add_le_add_right h.mdl 1), fun k hk => by
    rcases r.sub _ hk with z | z
    · exact h.var k z
    · exact z.elim, fun ρ hρ => by
    obtain ⟨v, S⟩ := h.sem ρ hρ
    exact r.sem ρ v S⟩
theorem NP.res {b : Nat} {B : Int} {T : Tb} {s : Option (Int × List (Nat × Int))} {Q : Tb × Nat} (h : NP T) (r : Res b B T s Q) : NP Q.1 := fun l hl => by
  rcases r.sub _ hl with z | z
  · exact h l z
  · exact z.elim
theorem LT.pick {R : (PyData → Int) → Prop} {b b' : Nat} {B B' : Int} {nf nm : Nat} {T : Tb} {ids : List Nat} {i : Nat} {Q : Tb × Nat} (h : LT R b B nf nm T) (r : PRes b' B' T ids i Q) : LT R b' B' (nf + 2) nm Q.1 := ⟨r.wf, r.inv, r.mdi, Nat.le_trans r.two (Nat.add_le_add_right h.few 2), by rw [r.md]; exact h.mdl, fun k hk => h.var k (r.var k hk), fun ρ hρ => by
    obtain ⟨v, S⟩ := h.sem ρ hρ
    exact r.sem ρ v S⟩
theorem LT.num {R : (PyData → Int) → Prop} {b : Nat} {B : Int} {nf nm : Nat} {T : Tb} (h : LT R b B nf nm T) (hb : 200 ≤ b) {n : Int} (h1 : -900 ≤ n) (h2 : n ≤ 900) (hB : 900 ≤ B) : Res b B T (some (n, [])) (numberT T n) := num_res h.wf h.inv h.mdi ((bg_small h1 h2).mono (by omega)) (by omega) (by omega)
section
variable {P : Program} {w : World} {K : PySem.W.Frag} {mg : Str → Option Value} {base : Heap} {aT : Addr}
theorem Sep.tabN {cs : List Cell} {H : Hp} {t : Addr} {L : Own} {T : Tb} (S : Sep (cTab P w K aT t L T :: cs) H) : TabAt P w K aT H t L T := S.at_ 0 _ rfl
theorem Sep.drN {c0 : Cell} {cs : List Cell} {H : Hp} {d c : Addr} (S : Sep (c0 :: cDr d c :: cs) H) : DrAt H d c := S.at_ 1 _ rfl
theorem Sep.tabS {cs : List Cell} {H H' : Hp} {t : Addr} {L : Own} {T T' : Tb} (S : Sep (cTab P w K aT t L T :: cs) H) (k : Keep L.l H H') (h : TabAt P w K aT H' t L T') : Sep (cTab P w K aT t L T' :: cs) H' ∧ KT H H' :=
  have k' : Keep (cTab P w K aT t L T).g H H' := k.sub fun b hb => List.mem_cons_of_mem _ hb
  ⟨S.step 0 (c' := cTab P w K aT t L T') rfl rfl k' h, S.ktk 0 rfl k'⟩
theorem Sep.drS {c0 : Cell} {cs : List Cell} {H H' : Hp} {d c : Addr} (S : Sep (c0 :: cDr d c :: cs) H) (k : But d H H') (h : DrAt H' d c) : Sep (c0 :: cDr d c :: cs) H' ∧ KT H H' :=
  have k' : Keep (cDr d c).g H H' := k.keeps.sub fun b hb => by rw [List.mem_singleton.mp hb]; exact List.mem_cons_self
  ⟨S.step 1 (c' := cDr d c) rfl rfl k' h, S.ktk 1 rfl k'⟩
abbrev gI (t d c : Addr) (L : Own) : List Addr := (t :: L.l) ++ [d, c]
theorem Keep.gT {H H' : Hp} {t d c : Addr} {L : Own} (k : Keep L.l H H') : Keep (gI t d c L) H H' := k.sub fun b hb => List.mem_append_left _ (List.mem_cons_of_mem _ hb)
theorem But.gD {H H' : Hp} {t d c : Addr} {L : Own} (k : But d H H') : Keep (gI t d c L) H H' := k.keeps.sub fun b hb => by rw [List.mem_singleton.mp hb]; exact List.mem_append_right _ List.mem_cons_self
theorem LT.pre {R : (PyData → Int) → Prop} {b : Nat} {B : Int} {nf nm : Nat} {T : Tb} (h : LT R b B nf nm T) {cs : List Cell} {H : Hp} {t pi pc : Addr} {L : Own} (S : Sep (cTab P w K aT t L T :: cs) H) {k : Bk} {ids : List Nat} (hpi : SqT K H pi ((asInts ids).map V.int)) (hpc : SqT K H pc (k.is.map V.int))
    (hl : ids.length = k.ar) (kc : KC k) (hin : ∀ i ∈ ids, i < T.fs.length) (hb : 200 ≤ b := by decide) (hb5 : b ≤ 4500 := by decide) (hn : nf ≤ 60 := by decide) (hB : B < 2 ^ 190 := by decide) : MkPre P w K aT H t pi pc L T k ids b := ⟨S.tabN, hpi, hpc, h.wf, hb, hb5, Nat.le_trans h.few hn, hl, kc, fun i hi => ⟨hin i hi, h.inv.small hB (hin i hi)⟩⟩
end
abbrev nIx : List Str := ["d", "table", "x", "y", "menu", "factor", "index"]
theorem scIx : FnScope nIx ["d", "table", "x", "y"] (defScope s_law_index) := ⟨rfl, rfl, rfl, by decide +kernel, rfl, by decide +kernel, by decide +kernel⟩

section
variable {P : Program} {w : World} {K : PySem.W.Frag} {mg : Str → Option Value} {base : Heap} {aT : Addr}
structure TmL (P : Program) (w : World) (K : PySem.W.Frag) (mg : Str → Option Value) (base : Heap) (aT : Addr) : Prop extends Tm2 P w K mg base aT where
  va : MthAt P w K mg base aT 5 "value" ["self", "id_of_term", "values"] (spValue P w K aT)
  vb : MthAt P w K mg base aT 3 "variable" ["self", "key", "low", "high"] (spVar P w K aT)
  mke : MthAt P w K mg base aT 7 "make" ["self", "kind", "ids", "info"] (spMakeT P w K aT)
  ini : ∃ f fd, Mk K aT f ∧ FnOk P w K mg base CX0 1 f fd ["self"] (spInit P w K aT) ∧ Binds K fd ["self"] []
  gT : mg "Terms" = some (.ref aT)
def spIndexL (P : Program) (w : World) (K : PySem.W.Frag) (aT : Addr) : Sp := fun vs H Q _ => ∃ (d c t : Addr) (L : Own) (T : Tb) (x y : Nat) (R : (PyData → Int) → Prop), vs = [.ref d, .ref t, .int (x : Int), .int (y : Int)] ∧ Sep [cTab P w K aT t L T, cDr d c] H ∧ LT R 700 8000 14 4 T ∧ NP T ∧ x < T.fs.length ∧ y < T.fs.length ∧ unitF (T.fm x) ∧ unitF (T.fm y) ∧ x ≠ y ∧
  ∀ H' T' (i : Nat), Keep (gI t d c L) H H' → Sep [cTab P w K aT t L T', cDr d c] H' → LT R 1800 2048000 30 12 T' → NP T' → Ext T T' → i < T'.fs.length → Q (.int (i : Int)) H'
theorem ok_index {f : Addr} {fd : FuncData} (F : Fun K "_law_index" "_law_index" s_law_index f fd) (M : TmL P w K mg base aT) (cT : Calls P w K mg base CX0 1 "_law_take" ["d", "many"] spTake) (cS : Calls P w K mg base CX0 2 "_law_signed" ["d", "most"] spSigned) : FnOk P w K mg base CX0 8 f fd ["d", "table", "x", "y"] (spIndexL P w K aT) := by
  obtain ⟨fT, dT, GT, kT, bT, gT⟩ := cT.ex
  obtain ⟨fS, dS, GS, kS, bS, gS⟩ := cS.ex
  obtain ⟨fnu, dnu, mnu, Gnu, bnu⟩ := M.nu
  obtain ⟨fmk, dmk, mmk, Gmk, bmk⟩ := M.mke
  have cT := M.c.c
  refine F.ok scIx (fun vs H Q E h => ?_) (fun cdv A outer s H vs Q E hr7 h => ?_)
  · obtain ⟨_, _, _, _, _, _, _, _, rfl, _⟩ := h
    rfl
  · obtain ⟨d, c, t, L, T0, x, y, R, rfl, S, A0, np, hx, hy, ux, uy, xy, q⟩ := h
    have hr1 : Room 1 _ := hr7.mono (by decide)
    have hr2 : Room 2 _ := hr7.mono (by decide)
    refine ⟨_, (pss_cons (ps_set (i := 4) scIx.nd rfl (.inl rfl) (pe_call GT hr1 (by rfl) gT kT bT .nil pass0 (pa_cons (pv 0) (pa_cons pe_int pa_nil))))
      (pss_cons (ps_if (pt_cmpR op_eq (pv 4) pe_int (nomark _)) (pss_one (ps_ret (pe_meth (pv 1) cT mnu Gnu hr2 bnu .nil pass0 (pa_cons (pe_op op_add (pe_call GS hr2 (by rfl) gS kS bS .nil pass0 (pa_cons (pv 0) (pa_cons pe_int pa_nil))) pe_int) pa_nil)))) pss_nil)
      (pss_cons (ps_set (i := 5) scIx.nd rfl (.inl rfl) (pe_meth (pv 1) cT mnu Gnu hr2 bnu .nil pass0 (pa_cons (pe_ix ix_tup (pe_tup (pa_cons pe_int (pa_cons pe_int (pa_cons pe_int (pa_cons (pe_op op_sub pe_int pe_int) (pa_cons (pe_op op_sub pe_int pe_int) pa_nil)))))) (pe_call GT hr1 (by rfl) gT kT bT .nil pass0 (pa_cons (pv 0) (pa_cons pe_int pa_nil))) (fun _ _ => rfl)) pa_nil)))
      (pss_cons (ps_set (i := 6) scIx.nd rfl (.inl rfl) (pe_meth (pv 1) cT mmk Gmk hr7 bmk .nil pass0 (pa_cons pe_str (pa_cons (pe_tup (pa_cons (pv 2) (pa_cons (pv 5) pa_nil))) (pa_cons (pe_tup pa_nil) pa_nil)))))
      (pss_cons (ps_if (pt_cmpR op_gt (pv 4) pe_int (nomark _)) (pss_one (ps_set (i := 6) scIx.nd rfl (.inl rfl) (pe_meth (pv 1) cT mmk Gmk hr7 bmk .nil pass0 (pa_cons pe_str (pa_cons (pe_tup (pa_cons (pv 6) (pa_cons (pe_meth (pv 1) cT mmk Gmk hr7 bmk .nil pass0 (pa_cons pe_str (pa_cons (pe_tup (pa_cons (pv 3) (pa_cons (pv 5) pa_nil))) (pa_cons (pe_tup pa_nil) pa_nil)))) pa_nil))) (pa_cons (pe_tup pa_nil) pa_nil)))))) pss_nil)
      (pss_cons (ps_set (i := 6) scIx.nd rfl (.inl rfl) (pe_meth (pv 1) cT mmk Gmk hr7 bmk .nil pass0 (pa_cons pe_str (pa_cons (pe_tup (pa_cons (pv 6) (pa_cons (pe_meth (pv 1) cT mnu Gnu hr2 bnu .nil pass0 (pa_cons (pe_call GT hr1 (by rfl) gT kT bT .nil pass0 (pa_cons (pv 0) (pa_cons pe_int pa_nil))) pa_nil)) pa_nil))) (pa_cons (pe_tup pa_nil) pa_nil)))))
      (pss_one (ps_ret (pe_ifExp (pt_cmpR op_eq (pv 4) pe_int (nomark _)) (pe_meth (pv 1) cT mmk Gmk hr7 bmk .nil pass0 (pa_cons pe_str (pa_cons (pe_tup (pa_cons (pv 6) pa_nil)) (pa_cons (pe_tup (pa_cons pe_int (pa_cons pe_int pa_nil))) pa_nil)))) (pv 6)))))))))), ?_⟩
    refine ⟨_, rfl, d, c, 5, rfl, S.drN, by decide, bnd_le (by decide), fun H1 mu k1 dr1 m0 m1 => ?_⟩
    obtain ⟨S, _⟩ := S.drS k1 dr1
    have kk : Keep (gI t d c L) H H1 := k1.gD
    clear k1 dr1
    refine ⟨_, rfl, rfl, _, rfl, ?_⟩
    by_cases e0 : mu = 0
    · subst e0
      refine iteTd (decide_eq_true rfl) ?_
      obtain ⟨⟨dx, h1⟩, _⟩ := id S.tabN
      refine ⟨_, rfl, t, dx, _, rfl, h1, rfl, ?_⟩
      refine ⟨_, rfl, d, c, 3, rfl, S.drN, by decide, bnd_le (by decide), fun H2 s k2 dr2 s0 s1 => ?_⟩
      obtain ⟨S, _⟩ := S.drS k2 dr2
      refine ⟨_, _, rfl, rfl, t, L, T0, s + 2, rfl, S.tabN, wf_pl A0.wf, A0.wf.len, Nat.le_trans A0.few (by decide), fun H3 k3 tab3 => ?_⟩
      have r := A0.num (by decide) (n := s + 2) (by omega) (by omega) (by decide)
      obtain ⟨S, _⟩ := S.tabS k3 tab3
      exact q _ _ _ (kk.trans (k2.gD.trans k3.gT)) S ((A0.res r).mono (by decide) (by decide) (by decide) (by decide)) (np.res r) r.ext r.lt
    · refine iteFd (decide_eq_false (fun z => e0 (V.int.inj z))) ?_
      obtain ⟨⟨dx, h1⟩, _⟩ := id S.tabN
      refine ⟨_, rfl, t, dx, _, rfl, h1, rfl, ?_⟩
      refine ⟨_, _, rfl, rfl, _, _, rfl, rfl, by show 5 ≤ sizeLine; decide, fun p np5 => ?_⟩
      have s2 := same_upd (o := .tup [V.int 1, .int 2, .int 3, .int (0 - 1), .int (0 - 2)]) np5
      have hp : SqT K (upd H1 p (.tup [V.int 1, .int 2, .int 3, .int (0 - 1), .int (0 - 2)])) p (([1, 2, 3, -1, -2] : List Int).map V.int) := SqT.of upd_same
      have S := S.same s2
      have kk := kk.trans (Same.keeps s2)
      refine ⟨_, rfl, d, c, 5, rfl, S.drN, by decide, bnd_le (by decide), fun H2 s k2 dr2 s0 s1 => ?_⟩
      obtain ⟨S, kt2⟩ := S.drS k2 dr2
      have hp2 := sqT_kt hp kt2
      have kk := kk.trans k2.gD
      clear k2 dr2 s2 np5 hp
      obtain ⟨fa, f0, f1, f2, hfa⟩ : ∃ fa : Int, fa ≠ 0 ∧ -2 ≤ fa ∧ fa ≤ 3 ∧ atI (([1, 2, 3, -1, -2] : List Int).map V.int) s = some (.int fa) := by
        have : s = 0 ∨ s = 1 ∨ s = 2 ∨ s = 3 ∨ s = 4 := by omega
        rcases this with rfl | rfl | rfl | rfl | rfl
        · exact ⟨1, by decide, by decide, by decide, rfl⟩
        · exact ⟨2, by decide, by decide, by decide, rfl⟩
        · exact ⟨3, by decide, by decide, by decide, rfl⟩
        · exact ⟨-1, by decide, by decide, by decide, rfl⟩
        · exact ⟨-2, by decide, by decide, by decide, rfl⟩
      refine ⟨p, _, s, _, rfl, rfl, hp2, hfa, ?_⟩
      refine ⟨t, L, T0, fa, rfl, S.tabN, wf_pl A0.wf, A0.wf.len, Nat.le_trans A0.few (by decide), fun H3 k3 tab3 => ?_⟩
      have r1 := A0.num (by decide) (n := fa) (by omega) (by omega) (by decide)
      obtain ⟨S, _⟩ := S.tabS k3 tab3
      have kk := kk.trans k3.gT
      have A1 := A0.res r1
      have np1 := np.res r1
      have e1 := r1.sum _ rfl
      have X1 := r1.ext
      have l1 := r1.lt
      clear k3 tab3 hp2 hfa
      generalize (numberT T0 fa).2 = a1 at *
      generalize (numberT T0 fa).1 = T1 at *
      obtain ⟨⟨dx1, h3⟩, _⟩ := id S.tabN
      refine ⟨_, rfl, t, dx1, _, rfl, h3, rfl, ?_⟩
      have hx1 : x < T1.fs.length := Nat.lt_of_lt_of_le hx X1.len
      have hy1 : y < T1.fs.length := Nat.lt_of_lt_of_le hy X1.len
      have ux1 : unitF (T1.fm x) := by rw [X1.fm hx]; exact ux
      have uy1 : unitF (T1.fm y) := by rw [X1.fm hy]; exact uy
      have sx1 := unit_sum ux1
      have sy1 := unit_sum uy1
      refine ⟨_, rfl, _, rfl, by show 2 ≤ sizeLine; decide, fun q1 nq1 => ?_⟩
      refine ⟨by show 0 ≤ sizeLine; decide, fun q2 nq2 => ?_⟩
      have s3 := same_upd (o := .tup [V.int (x : Int), .int (a1 : Int)]) nq1
      have s4 := same_upd (o := .tup []) nq2
      have S := (S.same s3).same s4
      have kk := kk.trans (Same.keeps (s3.trans s4))
      have r2 := mul_res A1.wf (by decide) (Nat.le_trans A1.few (by decide)) A1.inv (by decide) A1.mdi hx1 l1 e1 f0 (by omega) (by omega) (Int.ne_of_lt (A1.inv.st x hx1 ux1))
      refine ⟨t, q1, q2, L, T1, .mul, [x, a1], 700, rfl, A1.pre S (SqT.of (s4 _ _ upd_same)) (SqT.of upd_same) rfl trivial (fun i hi => by
        simp only [List.mem_cons, List.not_mem_nil, or_false] at hi
        rcases hi with rfl | rfl
        · exact hx1
        · exact l1), Nat.le_trans A1.mdl (by decide), fun H4 k4 tab4 => ?_⟩
      obtain ⟨S, _⟩ := S.tabS k4 tab4
      have kk := kk.trans k4.gT
      have A2 := A1.res r2
      have np2 := np1.res r2
      have e2 := r2.sum _ rfl
      have X2 := r2.ext
      have l2 := r2.lt
      clear k4 tab4 s3 s4 nq1 nq2 h3
      generalize (makeT T1 .mul [x, a1]).2 = a2 at *
      generalize (makeT T1 .mul [x, a1]).1 = T2 at *
      have el2 : (sumOf T2 a2) = (fa * 0, [(x, fa * 1)]) := by rw [e2, sx1]; rfl
      refine ⟨_, rfl, _, _, rfl, rfl, _, rfl, ?_⟩
      by_cases m3 : (2 : Int) < mu
      · refine iteTd (decide_eq_true m3) ?_
        obtain ⟨⟨dx2, h2⟩, _⟩ := id S.tabN
        refine ⟨_, rfl, t, dx2, _, rfl, h2, rfl, _, rfl, _, rfl, t, dx2, _, rfl, h2, rfl, ?_⟩
        refine ⟨_, rfl, _, rfl, by show 2 ≤ sizeLine; decide, fun q1 nq1 => ?_⟩
        refine ⟨by show 0 ≤ sizeLine; decide, fun q2 nq2 => ?_⟩
        have s3 := same_upd (o := .tup [V.int (y : Int), .int (a1 : Int)]) nq1
        have s4 := same_upd (o := .tup []) nq2
        have S := (S.same s3).same s4
        have kk := kk.trans (Same.keeps (s3.trans s4))
        have l12 : a1 < T2.fs.length := Nat.lt_of_lt_of_le l1 X2.len
        have hy2 : y < T2.fs.length := Nat.lt_of_lt_of_le hy1 X2.len
        have uy2 : unitF (T2.fm y) := by rw [X2.fm hy1]; exact uy1
        have e12 : sumOf T2 a1 = (fa, []) := by rw [sumOf_ext X2 l1]; exact e1
        have sy2 := unit_sum uy2
        have r3 := mul_res A2.wf (by decide) (Nat.le_trans A2.few (by decide)) A2.inv (by decide) A2.mdi hy2 l12 e12 f0 (by omega) (by omega) (Int.ne_of_lt (A2.inv.st y hy2 uy2))
        refine ⟨t, q1, q2, L, T2, .mul, [y, a1], _, rfl, A2.pre S (SqT.of (s4 _ _ upd_same)) (SqT.of upd_same) rfl trivial (fun i hi => by
          simp only [List.mem_cons, List.not_mem_nil, or_false] at hi
          rcases hi with rfl | rfl
          · exact hy2
          · exact l12), Nat.le_trans A2.mdl (by decide), fun H5 k5 tab5 => ?_⟩
        obtain ⟨S, _⟩ := S.tabS k5 tab5
        have kk := kk.trans k5.gT
        have A3 := A2.res r3
        have np3 := np2.res r3
        have e3 := r3.sum _ rfl
        have X3 := r3.ext
        have l3 := r3.lt
        clear k5 tab5 s3 s4 nq1 nq2 h2
        generalize (makeT T2 .mul [y, a1]).2 = a3 at *
        generalize (makeT T2 .mul [y, a1]).1 = T3 at *
        have l23 : a2 < T3.fs.length := Nat.lt_of_lt_of_le l2 X3.len
        refine ⟨by show 2 ≤ sizeLine; decide, fun q1 nq1 => ?_⟩
        refine ⟨by show 0 ≤ sizeLine; decide, fun q2 nq2 => ?_⟩
        have s3 := same_upd (o := .tup [V.int (a2 : Int), .int (a3 : Int)]) nq1
        have s4 := same_upd (o := .tup []) nq2
        have S := (S.same s3).same s4
        have kk := kk.trans (Same.keeps (s3.trans s4))
        have r4 := add_res A3.wf (by decide) (Nat.le_trans A3.few (by decide)) A3.inv (by decide) A3.mdi (.inl ⟨rfl, rfl⟩) l23 l3 (by
          rw [e3, sy2, sumOf_ext X3 l2, el2]
          intro q hq p hp
          have hq : q ∈ [(y, fa * 1)] := hq
          rw [List.mem_singleton.mp hq, List.mem_singleton.mp hp]
          exact xy)
        refine ⟨t, q1, q2, L, T3, .add, [a2, a3], _, rfl, A3.pre S (SqT.of (s4 _ _ upd_same)) (SqT.of upd_same) rfl trivial (fun i hi => by
          simp only [List.mem_cons, List.not_mem_nil, or_false] at hi
          rcases hi with rfl | rfl
          · exact l23
          · exact l3), Nat.le_trans A3.mdl (by decide), fun H5 k5 tab5 => ?_⟩
        obtain ⟨S, _⟩ := S.tabS k5 tab5
        have kk := kk.trans k5.gT
        have A5 := A3.res r4
        have np5 := np3.res r4
        have X05 := ((X1.trans X2).trans X3).trans r4.ext
        have l5 := r4.lt
        clear k5 tab5 s3 s4 nq1 nq2
        generalize (makeT T3 .add [a2, a3]).2 = a5 at *
        generalize (makeT T3 .add [a2, a3]).1 = T5 at *
        have hA5 := A5.num (b := 700 + 212 + 212 + 212) (by decide) (n := 0) (by decide) (by decide) (by decide)
        clear hA5
        obtain ⟨⟨dx5, h5⟩, _⟩ := id S.tabN
        refine ⟨_, rfl, t, dx5, _, rfl, h5, rfl, _, rfl, _, rfl, t, dx5, _, rfl, h5, rfl, ?_⟩
        refine ⟨_, rfl, d, c, 7, rfl, S.drN, by decide, bnd_le (by decide), fun H6 kn k6 dr6 n0 n1 => ?_⟩
        obtain ⟨S, _⟩ := S.drS k6 dr6
        have kk := kk.trans k6.gD
        clear k6 dr6
        refine ⟨t, L, T5, kn, rfl, S.tabN, wf_pl A5.wf, A5.wf.len, Nat.le_trans A5.few (by decide), fun H7 k7 tab7 => ?_⟩
        have r6 := A5.num (by decide) (n := kn) (by omega) (by omega) (by decide)
        obtain ⟨S, _⟩ := S.tabS k7 tab7
        have kk := kk.trans k7.gT
        have A6 := A5.res r6
        have np6 := np5.res r6
        have e6 := r6.sum _ rfl
        have X6 := r6.ext
        have l6 := r6.lt
        clear k7 tab7 h5
        generalize (numberT T5 kn).2 = a6 at *
        generalize (numberT T5 kn).1 = T6 at *
        have l56 : a5 < T6.fs.length := Nat.lt_of_lt_of_le l5 X6.len
        refine ⟨by show 2 ≤ sizeLine; decide, fun q3 nq3 => ?_⟩
        refine ⟨by show 0 ≤ sizeLine; decide, fun q4 nq4 => ?_⟩
        have s5 := same_upd (o := .tup [V.int (a5 : Int), .int (a6 : Int)]) nq3
        have s6 := same_upd (o := .tup []) nq4
        have S := (S.same s5).same s6
        have kk := kk.trans (Same.keeps (s5.trans s6))
        have r7 := add_res A6.wf (by decide) (Nat.le_trans A6.few (by decide)) A6.inv (by decide) A6.mdi (.inl ⟨rfl, rfl⟩) l56 l6 (by rw [e6]; exact fun _ h => (nomatch h))
        refine ⟨t, q3, q4, L, T6, .add, [a5, a6], _, rfl, A6.pre S (SqT.of (s6 _ _ upd_same)) (SqT.of upd_same) rfl trivial (fun i hi => by
          simp only [List.mem_cons, List.not_mem_nil, or_false] at hi
          rcases hi with rfl | rfl
          · exact l56
          · exact l6), Nat.le_trans A6.mdl (by decide), fun H8 k8 tab8 => ?_⟩
        obtain ⟨S, _⟩ := S.tabS k8 tab8
        have kk := kk.trans k8.gT
        have A7 := A6.res r7
        have np7 := np6.res r7
        have X7 := r7.ext
        have l7 := r7.lt
        clear k8 tab8 s5 s6 nq3 nq4
        generalize (makeT T6 .add [a5, a6]).2 = a7 at *
        generalize (makeT T6 .add [a5, a6]).1 = T7 at *
        have XX := (X05.trans X6).trans X7
        refine ⟨_, rfl, rfl, _, rfl, ?_⟩
        by_cases m4 : mu = 4
        · refine iteTd (decide_eq_true (by rw [m4])) ?_
          obtain ⟨⟨dx8, h8⟩, _⟩ := id S.tabN
          refine ⟨_, rfl, t, dx8, _, rfl, h8, rfl, ?_⟩
          refine ⟨_, rfl, by show 1 ≤ sizeLine; decide, fun q5 nq5 => ?_⟩
          refine ⟨by show 2 ≤ sizeLine; decide, fun q6 nq6 => ?_⟩
          have s7 := same_upd (o := .tup [V.int (a7 : Int)]) nq5
          have s8 := same_upd (o := .tup [V.int 0, .int 6]) nq6
          have S := (S.same s7).same s8
          have kk := kk.trans (Same.keeps (s7.trans s8))
          have r8 := clamp_res A7.wf (by decide) (Nat.le_trans A7.few (by decide)) A7.inv (Int.le_refl _) (by decide) A7.mdi l7 (l := 0) (h := 6) (by decide) (bg_zero _) ((bg_small (x := 6) (by decide) (by decide)).mono (by decide)) (by decide) (by decide)
          refine ⟨t, q5, q6, L, T7, .clamp 0 6, [a7], _, rfl, A7.pre S (SqT.of (s8 _ _ upd_same)) (SqT.of upd_same) rfl ⟨by decide, bg_zero _, (bg_small (x := 6) (by decide) (by decide)).mono (by decide)⟩ (fun i hi => by rw [List.mem_singleton.mp hi]; exact l7), Nat.le_trans A7.mdl (by decide), fun H9 k9 tab9 => ?_⟩
          obtain ⟨S, _⟩ := S.tabS k9 tab9
          exact q _ _ _ (kk.trans k9.gT) S ((A7.res r8).mono (by decide) (by decide) (by decide) (by decide)) (np7.res r8) (XX.trans r8.ext) r8.lt
        · refine iteFd (decide_eq_false (fun z => m4 (V.int.inj z))) ?_
          exact ⟨_, rfl, q _ _ _ kk S (A7.mono (by decide) (by decide) (by decide) (by decide)) np7 XX l7⟩
      · refine iteFd (decide_eq_false m3) ?_
        have A5 := A2.mono (b' := 700 + 212 + 212 + 212) (B' := 4 * (4 * (4 * 8000))) (nf' := 14 + 2 + 2 + 2 + 2) (nm' := 4 + 1 + 1 + 1 + 1) (by decide) (by decide) (by decide) (by decide)
        have np5 := np2
        have X05 := X1.trans X2
        have l5 := l2
        generalize a2 = a5 at *
        generalize T2 = T5 at *
        have hA5 := A5.num (b := 700 + 212 + 212 + 212) (by decide) (n := 0) (by decide) (by decide) (by decide)
        clear hA5
        obtain ⟨⟨dx5, h5⟩, _⟩ := id S.tabN
        refine ⟨_, rfl, t, dx5, _, rfl, h5, rfl, _, rfl, _, rfl, t, dx5, _, rfl, h5, rfl, ?_⟩
        refine ⟨_, rfl, d, c, 7, rfl, S.drN, by decide, bnd_le (by decide), fun H6 kn k6 dr6 n0 n1 => ?_⟩
        obtain ⟨S, _⟩ := S.drS k6 dr6
        have kk := kk.trans k6.gD
        clear k6 dr6
        refine ⟨t, L, T5, kn, rfl, S.tabN, wf_pl A5.wf, A5.wf.len, Nat.le_trans A5.few (by decide), fun H7 k7 tab7 => ?_⟩
        have r6 := A5.num (by decide) (n := kn) (by omega) (by omega) (by decide)
        obtain ⟨S, _⟩ := S.tabS k7 tab7
        have kk := kk.trans k7.gT
        have A6 := A5.res r6
        have np6 := np5.res r6
        have e6 := r6.sum _ rfl
        have X6 := r6.ext
        have l6 := r6.lt
        clear k7 tab7 h5
        generalize (numberT T5 kn).2 = a6 at *
        generalize (numberT T5 kn).1 = T6 at *
        have l56 : a5 < T6.fs.length := Nat.lt_of_lt_of_le l5 X6.len
        refine ⟨by show 2 ≤ sizeLine; decide, fun q3 nq3 => ?_⟩
        refine ⟨by show 0 ≤ sizeLine; decide, fun q4 nq4 => ?_⟩
        have s5 := same_upd (o := .tup [V.int (a5 : Int), .int (a6 : Int)]) nq3
        have s6 := same_upd (o := .tup []) nq4
        have S := (S.same s5).same s6
        have kk := kk.trans (Same.keeps (s5.trans s6))
        have r7 := add_res A6.wf (by decide) (Nat.le_trans A6.few (by decide)) A6.inv (by decide) A6.mdi (.inl ⟨rfl, rfl⟩) l56 l6 (by rw [e6]; exact fun _ h => (nomatch h))
        refine ⟨t, q3, q4, L, T6, .add, [a5, a6], _, rfl, A6.pre S (SqT.of (s6 _ _ upd_same)) (SqT.of upd_same) rfl trivial (fun i hi => by
          simp only [List.mem_cons, List.not_mem_nil, or_false] at hi
          rcases hi with rfl | rfl
          · exact l56
          · exact l6), Nat.le_trans A6.mdl (by decide), fun H8 k8 tab8 => ?_⟩
        obtain ⟨S, _⟩ := S.tabS k8 tab8
        have kk := kk.trans k8.gT
        have A7 := A6.res r7
        have np7 := np6.res r7
        have X7 := r7.ext
        have l7 := r7.lt
        clear k8 tab8 s5 s6 nq3 nq4
        generalize (makeT T6 .add [a5, a6]).2 = a7 at *
        generalize (makeT T6 .add [a5, a6]).1 = T7 at *
        have XX := (X05.trans X6).trans X7
        refine ⟨_, rfl, rfl, _, rfl, ?_⟩
        by_cases m4 : mu = 4
        · refine iteTd (decide_eq_true (by rw [m4])) ?_
          obtain ⟨⟨dx8, h8⟩, _⟩ := id S.tabN
          refine ⟨_, rfl, t, dx8, _, rfl, h8, rfl, ?_⟩
          refine ⟨_, rfl, by show 1 ≤ sizeLine; decide, fun q5 nq5 => ?_⟩
          refine ⟨by show 2 ≤ sizeLine; decide, fun q6 nq6 => ?_⟩
          have s7 := same_upd (o := .tup [V.int (a7 : Int)]) nq5
          have s8 := same_upd (o := .tup [V.int 0, .int 6]) nq6
          have S := (S.same s7).same s8
          have kk := kk.trans (Same.keeps (s7.trans s8))
          have r8 := clamp_res A7.wf (by decide) (Nat.le_trans A7.few (by decide)) A7.inv (Int.le_refl _) (by decide) A7.mdi l7 (l := 0) (h := 6) (by decide) (bg_zero _) ((bg_small (x := 6) (by decide) (by decide)).mono (by decide)) (by decide) (by decide)
          refine ⟨t, q5, q6, L, T7, .clamp 0 6, [a7], _, rfl, A7.pre S (SqT.of (s8 _ _ upd_same)) (SqT.of upd_same) rfl ⟨by decide, bg_zero _, (bg_small (x := 6) (by decide) (by decide)).mono (by decide)⟩ (fun i hi => by rw [List.mem_singleton.mp hi]; exact l7), Nat.le_trans A7.mdl (by decide), fun H9 k9 tab9 => ?_⟩
          obtain ⟨S, _⟩ := S.tabS k9 tab9
          exact q _ _ _ (kk.trans k9.gT) S ((A7.res r8).mono (by decide) (by decide) (by decide) (by decide)) (np7.res r8) (XX.trans r8.ext) r8.lt
        · refine iteFd (decide_eq_false (fun z => m4 (V.int.inj z))) ?_
          exact ⟨_, rfl, q _ _ _ kk S (A7.mono (by decide) (by decide) (by decide) (by decide)) np7 XX l7⟩
end
/-! ### the law's variables -/
def VS (n : Nat) (T : Tb) : Prop := T.vs.length ≤ n ∧ ∀ e ∈ T.vs, ∃ m : Nat, m < n ∧ e.1 = k1 (m : Int)
theorem k1_inj {i j : Int} (h : keyD (k1 i) = keyD (k1 j)) : i = j := by
  simp [k1, keyD, keyDs] at h
  exact h
theorem k1_plain (i : Int) : plainD (k1 i) = true := by simp [k1, plainD, plainDs]
theorem k1_depth (i : Int) : (keyD (k1 i)).depth ≤ 7 := by simp [k1, keyD, keyDs, NestedKey.depth, NestedKey.depthAll]
theorem VS.fresh {n : Nat} {T : Tb} (V : VS n T) {x : Int × Int} : ∀ e ∈ T.vs, keyD e.1 = keyD (k1 (n : Int)) → e.2 = x := fun e he hk => by
  obtain ⟨m, hm, e1⟩ := V.2 e he
  rw [e1] at hk
  have := k1_inj hk
  omega
theorem var_lt {R : (PyData → Int) → Prop} {b : Nat} {B : Int} {nf nm : Nat} {T : Tb} (h : LT R b B nf nm T) {n : Nat} (V : VS n T) (fr : Fm.var (k1 (n : Int)) ∉ T.fs) (np : NP T) {lo hi : Int} (lh : lo < hi) (h1 : -900 ≤ lo) (h2 : hi ≤ 900) (hb : 200 ≤ b) (hB : 900 ≤ B) (hk : n = 0 ∨ n = 1 ∨ n = 2) :
    LT (fun ρ => R ρ ∧ lo ≤ ρ (k1 (n : Int)) ∧ ρ (k1 (n : Int)) ≤ hi) b B (nf + 1) nm (varT T (k1 (n : Int)) lo hi).1 ∧ VS (n + 1) (varT T (k1 (n : Int)) lo hi).1 ∧ NP (varT T (k1 (n : Int)) lo hi).1 ∧ Ext T (varT T (k1 (n : Int)) lo hi).1 ∧ (varT T (k1 (n : Int)) lo hi).2 < (varT T (k1 (n : Int)) lo hi).1.fs.length ∧
    (varT T (k1 (n : Int)) lo hi).1.fm (varT T (k1 (n : Int)) lo hi).2 = .var (k1 (n : Int)) ∧ (varT T (k1 (n : Int)) lo hi).1.lo (varT T (k1 (n : Int)) lo hi).2 = lo ∧ (varT T (k1 (n : Int)) lo hi).1.hi (varT T (k1 (n : Int)) lo hi).2 = hi ∧ ∀ k, Fm.var k ∈ (varT T (k1 (n : Int)) lo hi).1.fs → Fm.var k ∈ T.fs ∨ k = k1 (n : Int) := by
  have O := var_ok h.wf (k1_plain (n : Int)) (k1_depth (n : Int)) (lo := lo) (hi := hi) ((bg_small h1 (by omega)).mono (by omega)) ((bg_small (by omega) h2).mono (by omega))
  have P := put_unit (h.inv.vsx (regT T (k1 (n : Int)) lo hi).vs) (f := .var (k1 (n : Int))) trivial lh (by omega) (by omega)
  have ev : varT T (k1 (n : Int)) lo hi = placeT (regT T (k1 (n : Int)) lo hi) (.var (k1 (n : Int))) lo hi := by
    unfold varT
    rw [if_neg (Int.ne_of_lt lh)]
  have es : varT T (k1 (n : Int)) lo hi = (snT (regT T (k1 (n : Int)) lo hi) (.var (k1 (n : Int))) lo hi, T.fs.length) := by
    rw [ev]
    refine placeT_snT lo hi ?_
    cases e : posF T.fs (.var (k1 (n : Int))) with
    | none => exact e
    | some i => exact absurd (List.mem_of_getElem? (posF_some e)) fr
  have at1 : (varT T (k1 (n : Int)) lo hi).1.fm (varT T (k1 (n : Int)) lo hi).2 = .var (k1 (n : Int)) := by
    have := O.at_
    unfold vfm at this
    rw [if_neg (Int.ne_of_lt lh)] at this
    exact fm_of this
  refine ⟨⟨O.wf, ?_, ?_, Nat.le_trans O.one (Nat.succ_le_succ h.few), by rw [O.md]; exact h.mdl, fun k hk' => ?_, fun ρ hρ => ?_⟩, ⟨?_, fun e he => ?_⟩, fun l hl => ?_, O.ext, O.lt, at1, ?_, ?_, O.var⟩
  · rw [ev]
    exact P.inv
  · exact MdI.ext h.wf O.ext h.mdi O.md
  · rcases O.var k hk' with z | rfl
    · exact h.var k z
    · rcases hk with rfl | rfl | rfl
      · exact .inl rfl
      · exact .inr (.inl rfl)
      · exact .inr (.inr rfl)
  · obtain ⟨v, S⟩ := h.sem ρ hρ.1
    obtain ⟨u, U, _⟩ := O.sem ρ v S hρ.2.1 hρ.2.2
    exact ⟨u, U⟩
  · rw [O.vs]
    show (if _ then T.vs else T.vs ++ [_]).length ≤ _
    split
    · exact Nat.le_succ_of_le V.1
    · rw [List.length_append]
      exact Nat.succ_le_succ V.1
  · rw [O.vs] at he
    have he : e ∈ (if hasVar T.vs (k1 (n : Int)) = true then T.vs else T.vs ++ [(k1 (n : Int), lo, hi)]) := he
    have old : e ∈ T.vs → ∃ m : Nat, m < n + 1 ∧ e.1 = k1 (m : Int) := fun z => by
      obtain ⟨m, hm, e1⟩ := V.2 e z
      exact ⟨m, by omega, e1⟩
    split at he
    · exact old he
    · rcases List.mem_append.mp he with he | he
      · exact old he
      · rw [List.mem_singleton.mp he]
        exact ⟨n, by omega, rfl⟩
  · rw [ev] at hl
    rcases placeT_fs _ _ _ _ _ hl with z | z
    · exact np l z
    · cases z
  · rw [es]
    exact (snT_sp (T := regT T (k1 (n : Int)) lo hi) h.inv.len _ lo hi).1
  · rw [es]
    exact (snT_sp (T := regT T (k1 (n : Int)) lo hi) h.inv.len _ lo hi).2
theorem var_ltN {R : (PyData → Int) → Prop} {b : Nat} {B : Int} {nf nm : Nat} {T : Tb} (h : LT R b B nf nm T) {n : Nat} {k : Int} (ek : k = (n : Int)) (V : VS n T) (fr : Fm.var (k1 k) ∉ T.fs) (np : NP T) {lo hi : Int} (lh : lo < hi) (h1 : -900 ≤ lo) (h2 : hi ≤ 900) (hb : 200 ≤ b) (hB : 900 ≤ B) (hk : n = 0 ∨ n = 1 ∨ n = 2) :
    LT (fun ρ => R ρ ∧ lo ≤ ρ (k1 k) ∧ ρ (k1 k) ≤ hi) b B (nf + 1) nm (varT T (k1 k) lo hi).1 ∧ VS (n + 1) (varT T (k1 k) lo hi).1 ∧ NP (varT T (k1 k) lo hi).1 ∧ Ext T (varT T (k1 k) lo hi).1 ∧ (varT T (k1 k) lo hi).2 < (varT T (k1 k) lo hi).1.fs.length ∧
    (varT T (k1 k) lo hi).1.fm (varT T (k1 k) lo hi).2 = .var (k1 k) ∧ (varT T (k1 k) lo hi).1.lo (varT T (k1 k) lo hi).2 = lo ∧ (varT T (k1 k) lo hi).1.hi (varT T (k1 k) lo hi).2 = hi ∧ ∀ k', Fm.var k' ∈ (varT T (k1 k) lo hi).1.fs → Fm.var k' ∈ T.fs ∨ k' = k1 k := by
  subst ek
  exact var_lt h V fr np lh h1 h2 hb hB hk
theorem empty_lt : LT (fun _ => True) 200 900 0 0 emptyT := ⟨empty_wf 200, ⟨rfl, List.nodup_nil, ⟨fun i h => absurd h (Nat.not_lt_zero _), fun i h => absurd h (Nat.not_lt_zero _)⟩, fun i h => absurd h (Nat.not_lt_zero _), fun i h => absurd h (Nat.not_lt_zero _), fun i _ _ h => absurd h (Nat.not_lt_zero _), fun i h => absurd h (Nat.not_lt_zero _)⟩, fun e h => (nomatch h), Nat.le_refl 0, Nat.le_refl 0, fun k h => (nomatch h), fun ρ _ => ⟨fun _ => 0, empty_sem ρ _⟩⟩
theorem empty_vs : VS 0 emptyT := ⟨Nat.le_refl 0, fun e h => (nomatch h)⟩
theorem empty_np : NP emptyT := fun l h => (nomatch h)
def Rho (xl xh yh : Int) (ρ : PyData → Int) : Prop := (xl ≤ ρ (k1 0) ∧ ρ (k1 0) ≤ xh) ∧ (0 ≤ ρ (k1 1) ∧ ρ (k1 1) ≤ yh) ∧ (-40 ≤ ρ (k1 2) ∧ ρ (k1 2) ≤ 40)
theorem LT.toR {R R' : (PyData → Int) → Prop} {b : Nat} {B : Int} {nf nm : Nat} {T : Tb} (h : LT R b B nf nm T) (hh : ∀ ρ, R' ρ → R ρ) : LT R' b B nf nm T := ⟨h.wf, h.inv, h.mdi, h.few, h.mdl, h.var, fun ρ hρ => h.sem ρ (hh ρ hρ)⟩
/-! ### the list padded, the list turned -/
theorem shift_facts {B B' : Int} {T T' : Tb} (X : Ext T T') (I : Inv0 B T) (I' : Inv0 B' T') {i j : Nat} (hi : i < T.fs.length) (hj : j < T'.fs.length) {k : Int} (hs : sumOf T' j = ((sumOf T i).1 + k, (sumOf T i).2)) : T'.lo j = T.lo i + k ∧ T'.hi j = T.hi i + k := by
  have C := I.can i hi
  have C' := I'.can j hj
  have e := cS_ext X (ps := (sumOf T i).2) fun p hp => by rw [I.len]; exact (I.ss.un i hi p hp).1
  have c1 := C'.lo
  have c2 := C'.hi
  rw [hs] at c1 c2
  have c1 : T'.lo j = (sumOf T i).1 + k + cLoS T' (sumOf T i).2 := c1
  have c2 : T'.hi j = (sumOf T i).1 + k + cHiS T' (sumOf T i).2 := c2
  rw [e.1] at c1
  rw [e.2] at c2
  have := C.lo
  have := C.hi
  omega
theorem turn_facts {B B' : Int} {T T' : Tb} (X : Ext T T') (I : Inv0 B T) (I' : Inv0 B' T') {i j : Nat} (hi : i < T.fs.length) (hj : j < T'.fs.length) {m : Int} (hs : sumOf T' j = (m - (sumOf T i).1, mulP (-1) (sumOf T i).2)) : T'.lo j = m - T.hi i ∧ T'.hi j = m - T.lo i := by
  have C := I.can i hi
  have C' := I'.can j hj
  have e := cS_ext X (ps := (sumOf T i).2) fun p hp => by rw [I.len]; exact (I.ss.un i hi p hp).1
  have n := cS_muln T' (y := -1) (by decide) (sumOf T i).2
  have c1 := C'.lo
  have c2 := C'.hi
  rw [hs] at c1 c2
  have c1 : T'.lo j = m - (sumOf T i).1 + cLoS T' (mulP (-1) (sumOf T i).2) := c1
  have c2 : T'.hi j = m - (sumOf T i).1 + cHiS T' (mulP (-1) (sumOf T i).2) := c2
  rw [n.1, e.2] at c1
  rw [n.2, e.1] at c2
  have := C.lo
  have := C.hi
  omega
theorem addS_num {a : Int × List (Nat × Int)} (h : SrtP a.2) (k : Int) : addS a (k, []) 1 = (a.1 + k, a.2) := by
  show (a.1 + 1 * k, sortP (a.2 ++ [])) = _
  rw [List.append_nil, sortP_id h, Int.one_mul]
theorem addS_turn {a : Int × List (Nat × Int)} (h : SrtP a.2) (m : Int) : addS (m, []) a (-1) = (m - a.1, mulP (-1) a.2) := by
  show (m + -1 * a.1, sortP ([] ++ mulP (-1) a.2)) = _
  rw [List.nil_append, sortP_id (mulP_srt h (-1)), Int.neg_one_mul, Int.sub_eq_add_neg]
/-- what was picked, and where the table stands then -/
structure Pk (R : (PyData → Int) → Prop) (T : Tb) (ids : List Nat) (i : Nat) : Prop where
  a : LT R 1800 2048000 30 12 T
  np : NP T
  li : i < T.fs.length
  inn : ∀ j ∈ ids, j < T.fs.length
  l7 : ids.length ≤ 7
  h0 : 0 ≤ T.lo i
  h1 : T.hi i < ids.length
theorem Pk.res {R : (PyData → Int) → Prop} {T : Tb} {ids : List Nat} {i : Nat} (h : Pk R T ids i) : PickOk T ids i ∧ PRes 2012 2048000 T ids i (pickT T ids i) := pick_res h.a.wf (by decide) (by decide) h.a.inv (by decide) h.a.mdi (Nat.le_trans h.a.few (by decide)) h.li h.inn (Nat.le_trans h.l7 (by decide)) h.h0 h.h1
theorem Pk.lt {R : (PyData → Int) → Prop} {T : Tb} {ids : List Nat} {i : Nat} (h : Pk R T ids i) : LT R 2012 2048000 32 12 (pickT T ids i).1 := h.a.pick h.res.2
theorem Pk.again {R : (PyData → Int) → Prop} {T : Tb} {ids : List Nat} {i : Nat} (h : Pk R T ids i) {T2 : Tb} {ids2 : List Nat} {j : Nat} (X : Ext (pickT T ids i).1 T2) (nd2 : T2.fs.Nodup) (hE : T2.lo j = T2.hi j ↔ T.lo i = T.hi i) (hc : T.lo i = T.hi i → ids2.getD (T2.lo j).toNat 0 = ids.getD (T.lo i).toNat 0)
    (hr : T.lo i ≠ T.hi i → rowLo T2 j = rowLo T i ∧ rowPs (sumOf T2 j).2 = rowPs (sumOf T i).2 ∧ chI T2 ids2 j = chI T ids i) : pickT T2 ids2 j = (T2, (pickT T ids i).2) := pick_again h.a.wf (by decide) (by decide) h.a.inv (by decide) h.a.mdi (Nat.le_trans h.a.few (by decide)) h.li h.inn (Nat.le_trans h.l7 (by decide)) h.h0 h.h1 X nd2 hE hc hr
/-- the padded list -/
theorem Pk.pad {R : (PyData → Int) → Prop} {T : Tb} {ids : List Nat} {i : Nat} (h : Pk R T ids i) {T2 : Tb} {b nf nm : Nat} {B : Int} (A2 : LT R b B nf nm T2) (hb : 200 ≤ b) (hb5 : b ≤ 5000) (hB : B < 2 ^ 190) (hn : nf ≤ 60) (X : Ext (pickT T ids i).1 T2) {j : Nat} (hj : j < T2.fs.length) (hs : sumOf T2 j = addS (sumOf T i) (2, []) 1) {x y z : Nat} (hx : x < T.fs.length) (hy : y < T.fs.length) (hz : z < T.fs.length) :
    ¬ (T2.lo j < 0 ∨ ((([z, x] ++ ids ++ [y] : List Nat).length : Nat) : Int) ≤ T2.hi j) ∧ PickOk T2 ([z, x] ++ ids ++ [y]) j ∧ pickT T2 ([z, x] ++ ids ++ [y]) j = (T2, (pickT T ids i).2) := by
  have O := h.res.1
  have XT : Ext T T2 := h.res.2.ext.trans X
  rw [addS_num (h.a.inv.ss.srt i h.li)] at hs
  have sf := shift_facts XT h.a.inv A2.inv h.li hj hs
  have h0 := h.h0
  have h1 := h.h1
  have l7 := h.l7
  have ll : ([z, x] ++ ids ++ [y] : List Nat).length = ids.length + 3 := by
    rw [List.length_append, List.length_append]
    show 2 + ids.length + 1 = _
    omega
  have inn : ∀ q ∈ ([z, x] ++ ids ++ [y] : List Nat), q < T2.fs.length := fun q hq => by
    refine Nat.lt_of_lt_of_le ?_ XT.len
    rcases List.mem_append.mp hq with hq | hq
    · rcases List.mem_append.mp hq with hq | hq
      · simp only [List.mem_cons, List.not_mem_nil, or_false] at hq
        rcases hq with rfl | rfl
        · exact hz
        · exact hx
      · exact h.inn q hq
    · rw [List.mem_singleton.mp hq]
      exact hy
  refine ⟨by rw [ll]; omega, (pick_res A2.wf hb hb5 A2.inv hB A2.mdi (Nat.le_trans A2.few hn) hj inn (by rw [ll]; omega) (by omega) (by rw [ll]; omega)).1, h.again X A2.inv.nd (by omega) (fun e => ?_) fun ne => ?_⟩
  · rw [sf.1]
    have en : (T.lo i + 2).toNat = 2 + (T.lo i).toNat := by omega
    rw [en, List.getD_eq_getElem?_getD, List.getD_eq_getElem?_getD, List.append_assoc, List.getElem?_append_right (by show 2 ≤ _; omega)]
    show ((ids ++ [y])[2 + (T.lo i).toNat - 2]?).getD 0 = _
    rw [Nat.add_sub_cancel_left, List.getElem?_append_left (by omega)]
  · have rs := row_shift hs sf.1 sf.2
    obtain ⟨_, _, _, _, _, _, _, _, rix⟩ := O.row ne
    exact ⟨rs.1, rs.2.2.1, ch_shift (pre := [z, x]) (post := [y]) rs.2.2.2.1 rs.2.2.2.2.1 rs.2.2.2.2.2 fun t ht => (rix t ht).2⟩
/-- the list turned -/
theorem Pk.turn {R : (PyData → Int) → Prop} {T : Tb} {ids : List Nat} {i : Nat} (h : Pk R T ids i) {T2 : Tb} {b nf nm : Nat} {B : Int} (A2 : LT R b B nf nm T2) (hb : 200 ≤ b) (hb5 : b ≤ 5000) (hB : B < 2 ^ 190) (hn : nf ≤ 60) (X : Ext (pickT T ids i).1 T2) {j : Nat} (hj : j < T2.fs.length) (hs : sumOf T2 j = addS ((ids.length : Int) - 1, []) (sumOf T i) (-1)) :
    ¬ (T2.lo j < 0 ∨ ((ids.reverse.length : Nat) : Int) ≤ T2.hi j) ∧ PickOk T2 ids.reverse j ∧ pickT T2 ids.reverse j = (T2, (pickT T ids i).2) := by
  have O := h.res.1
  have XT : Ext T T2 := h.res.2.ext.trans X
  rw [addS_turn (h.a.inv.ss.srt i h.li)] at hs
  have sf := turn_facts XT h.a.inv A2.inv h.li hj hs
  have h0 := h.h0
  have h1 := h.h1
  have l7 := h.l7
  have hle := (h.a.inv.can i h.li).le
  have ll : ids.reverse.length = ids.length := List.length_reverse
  have inn : ∀ q ∈ ids.reverse, q < T2.fs.length := fun q hq => Nat.lt_of_lt_of_le (h.inn q (List.mem_reverse.mp hq)) XT.len
  refine ⟨by rw [ll]; omega, (pick_res A2.wf hb hb5 A2.inv hB A2.mdi (Nat.le_trans A2.few hn) hj inn (by rw [ll]; omega) (by omega) (by rw [ll]; omega)).1, h.again X A2.inv.nd (by omega) (fun e => ?_) fun ne => ?_⟩
  · rw [sf.1]
    rw [List.getD_eq_getElem?_getD, List.getD_eq_getElem?_getD, List.getElem?_reverse (by omega)]
    congr 2
    omega
  · have em : mulP (-1) (sumOf T i).2 = (sumOf T i).2.map fun p => (p.1, -p.2) := List.map_congr_left fun p _ => by rw [Int.neg_one_mul]
    rw [em] at hs
    have hd : ((sumOf T i).2.headD (0, 0)).2 ≠ 0 := by
      have R := row_facts h.a.inv h.li ne
      have un := h.a.inv.ss.un i h.li
      match hq : (sumOf T i).2, R.ne, un with
      | p :: r, _, un => exact (un p List.mem_cons_self).2.2
    have rs := row_turn hs sf.1 sf.2 hd
    obtain ⟨_, _, _, _, _, _, _, _, rix⟩ := O.row ne
    exact ⟨rs.1, rs.2.2.1, ch_turn rs.2.2.2.1 rs.2.2.2.2.1 rs.2.2.2.2.2 fun t ht => (rix t ht).2⟩
/-! ### slices, spans -/
theorem slA_one {K : PySem.W.Frag} {a : Addr} {xs : List V} {lo hi : Option Int} {H : Hp} {Q : VK} (h : SqT K H a xs) (q : ∀ p H', Same H H' → SqT K H' p (cutV xs lo hi) → Q (.ref p) H') : rSlA K (.ref a) lo hi H Q := by
  refine ⟨a, xs, rfl, h, fun e => q a H (Same.refl _) ?_, fun _ p np => q p _ (same_upd np) (SqT.of upd_same)⟩
  unfold cutV
  rw [e.1, e.2, List.drop_zero, Nat.sub_zero, List.take_length]
  exact h
theorem cut_ids {ids : List Nat} {l h : Nat} (hl : l ≤ ids.length) (hh : h + 1 ≤ ids.length) : cutV ((asInts ids).map V.int) (some (l : Int)) (some ((h + 1 : Nat) : Int)) = (asInts ((ids.drop l).take (h + 1 - l))).map V.int := by
  unfold cutV asInts
  rw [HT.sIx_nat, HT.sIx_nat, List.length_map, List.length_map, Nat.min_eq_left hl, Nat.min_eq_left hh, List.map_take, List.map_take, List.map_drop, List.map_drop]
theorem cut_mem {ids : List Nat} {l h k : Nat} (h1 : l ≤ k) (h2 : k ≤ h) (hh : h + 1 ≤ ids.length) : ids.getD k 0 ∈ (ids.drop l).take (h + 1 - l) := by
  have e : ((ids.drop l).take (h + 1 - l))[k - l]? = some (ids.getD k 0) := by
    rw [List.getElem?_take_of_lt (by omega), List.getElem?_drop, show l + (k - l) = k by omega, List.getD_eq_getElem?_getD, List.getElem?_eq_getElem (by omega)]
    rfl
  exact List.mem_of_getElem? e
/-- the spans of some terms stand in a list -/
def SpsI (K : PySem.W.Frag) (T : Tb) (js : List Nat) (D : Addr) (m : Nat) (H : Hp) : Prop := ∃ qs : List Addr, H D = some (.lst (qs.map V.ref)) ∧ qs.length = m ∧ ∀ (k : Nat) (q : Addr) (c : Nat), qs[k]? = some q → js[k]? = some c → SqT K H q [.int (T.lo c), .int (T.hi c)]
theorem SpsI.step {K : PySem.W.Frag} {T : Tb} {js : List Nat} {D : Addr} {m : Nat} {H : Hp} {qs : List Addr} (hD : H D = some (.lst (qs.map V.ref))) (ql : qs.length = m) (hqs : ∀ (k : Nat) (q : Addr) (c : Nat), qs[k]? = some q → js[k]? = some c → SqT K H q [.int (T.lo c), .int (T.hi c)]) {c : Nat} (hc : js[m]? = some c) {pq : Addr} (hpq : SqT K H pq [.int (T.lo c), .int (T.hi c)]) : SpsI K T js D (m + 1) (upd H D (.lst (qs.map V.ref ++ [.ref pq]))) := by
  have keep : ∀ q0 lo hi, SqT K H q0 [.int lo, .int hi] → SqT K (upd H D (.lst (qs.map V.ref ++ [.ref pq]))) q0 [.int lo, .int hi] := fun q0 lo hi h => by
    refine sqT_kt h fun b o io e => ?_
    rw [upd_ne (fun z => by rw [z, hD] at e; cases e; exact io)]
    exact e
  refine ⟨qs ++ [pq], by rw [upd_same, List.map_append]; rfl, by rw [List.length_append, ql]; rfl, fun k q0 c0 e1 e2 => ?_⟩
  rcases get_snoc e1 with ⟨a1, a2⟩ | ⟨a1, a2⟩
  · exact keep _ _ _ (hqs k q0 c0 a2 e2)
  · rw [a1, ql, hc] at e2
    cases e2
    rw [a2]
    exact keep _ _ _ hpq
theorem SpsI.same {K : PySem.W.Frag} {T : Tb} {js : List Nat} {D : Addr} {m : Nat} {H H' : Hp} (h : SpsI K T js D m H) (s : Same H H') : SpsI K T js D m H' := by
  obtain ⟨qs, a, b, c⟩ := h
  exact ⟨qs, s _ _ a, b, fun k q x e1 e2 => sqT_same (c k q x e1 e2) s⟩
/-! ### t[::-1] of a tuple -/
namespace RevT
open PySem PySem.Spec PyProof.Rows HT
theorem pick_rev (xs : Array Value) : ((List.range xs.size).filterMap fun (m : Nat) => xs[(((xs.size : Int) - 1) + (m : Int) * (-1)).toNat]?).toArray = xs.toList.reverse.toArray := by
  have e : (fun (m : Nat) => xs[(((xs.size : Int) - 1) + (m : Int) * (-1)).toNat]?) = fun m => xs[xs.size - 1 - m]? := by
    funext m
    have : (((xs.size : Int) - 1) + (m : Int) * (-1)).toNat = xs.size - 1 - m := by omega
    rw [this]
  rw [e]
  have h : (List.range xs.size).filterMap (fun m => xs[xs.size - 1 - m]?) = ((List.range xs.size).map (fun k => xs.size - 1 - k)).filterMap (xs[·]?) := by
    rw [List.filterMap_map]
    rfl
  rw [h, PySem.W.krv_range, List.filterMap_reverse, PySem.W.krv_all]
theorem adjust_rev (n : Nat) : Builtin.Slice.sliceAdjust none none (-1) (n : Int) = ((n : Int) - 1, -1) := by
  unfold Builtin.Slice.sliceAdjust
  simp only [show ((-1 : Int) < 0) from by decide, if_true]
theorem places_rev (n : Nat) : Builtin.Slice.slicePlaces ((n : Int) - 1) (-1) (-1) = n := by
  unfold Builtin.Slice.slicePlaces
  simp only [show ¬ ((-1 : Int) > 0) from by decide, if_false, show (- -1 : Int) = 1 from rfl, Int.ediv_one]
  split <;> omega
section
variable {prog : Program} {w : World} {A : Around} {E : Value → Shared → Prop} {s : Shared}
theorem sliceApplied_rev {sl : Addr} {vl vu vs : Value} {n : Nat} {Q : Int × Int × Nat → Shared → Prop} (hs : s.heap.IsSliceOf sl vl vu vs) (pl : IsPart vl none) (pu : IsPart vu none) (ps : IsPart vs (some (-1)))
    (h : Q ((n : Int) - 1, -1, n) s) : wpAny (model prog w) A (Builtin.Slice.sliceApplied (.ref sl) (pure (n : Int))) Q E s := by
  obtain ⟨os, hos, hcs, hds⟩ := id hs
  unfold Builtin.Slice.sliceApplied Builtin.Slice.sliceFields
  refine wpAny_bind (wpAny_bind (wpAny_field hos hds (x := vl) rfl (wpAny_bind (wpAny_field hos hds (x := vu) rfl (wpAny_bind (wpAny_field hos hds (x := vs) rfl (wpAny_pure ?_)))))))
  refine wpAny_bind (slicePart_ ps ?_)
  show wpAny _ _ (if ((-1 : Int) == 0) = true then _ else _) _ _ s
  rw [if_neg (by decide)]
  refine wpAny_bind (slicePart_ pl (wpAny_bind (slicePart_ pu (wpAny_bind (wpAny_pure ?_)))))
  show wpAny _ _ (match Builtin.Slice.sliceAdjust none none (-1) (n : Int) with | (lo, hi) => pure (lo, (-1 : Int), Builtin.Slice.slicePlaces lo hi (-1))) _ _ s
  rw [adjust_rev n]
  show wpAny _ _ (pure ((n : Int) - 1, (-1 : Int), Builtin.Slice.slicePlaces ((n : Int) - 1) (-1) (-1))) _ _ s
  rw [places_rev]
  exact wpAny_pure h
theorem getItem_tuple_rev {t sl : Addr} {items : Array Value} {vl vu vs : Value} {Q : Value → Shared → Prop} (ht : IsTup s.heap t items) (hs : s.heap.IsSliceOf sl vl vu vs) (pl : IsPart vl none) (pu : IsPart vu none) (ps : IsPart vs (some (-1)))
    (h : Q (.ref s.heap.objs.size) { s with heap := s.heap.push { cls := .type "tuple", data := .seq items.toList.reverse.toArray } })
    (hsz : items.size ≤ sizeLine) : wpAny (model prog w) A (getItem (.ref t) (.ref sl)) Q E s := by
  have htake : sizeOk (.seq items.toList.reverse.toArray) := by
    show items.toList.reverse.toArray.size ≤ sizeLine
    rw [List.size_toArray, List.length_reverse, Array.length_toList]
    exact hsz
  obtain ⟨os, hos, hcs, hds⟩ := id hs
  have hTs : s.TypeIs (.ref sl) "slice" := ⟨os, hos, hcs⟩
  unfold getItem
  try with_reducible refine wpAny_holding ?_
  first | refine wpAny_bind (wpAny_pure ?_) | skip
  refine wpAny_bind (wpAny_sequenceKey ht.typeIs (by decide) ?_)
  refine wpAny_bind (wpAny_callSpecial?_slot (name := Str.ofString "__getitem__") ht.typeIs PyProof.Rows.slot_tuple_getitem
    (wpAny_call_entry PyProof.Rows.slot_tuple_getitem ht.typeIs entry_tuple_getitem ?_ (args_tuple_getitem _ _)))
  show wpAny _ _ (Builtin.Tuple.tupleItemsOf (.ref t) >>= _) _ _ s
  refine wpAny_bind (tupleItemsOf_ ht ?_)
  refine wpAny_bind (wpAny_typeOf hTs ?_)
  rw [if_pos (by decide)]
  refine wpAny_bind (sliceApplied_rev hs pl pu ps ?_)
  have hno : ¬ ((((items.size : Int) - 1) == 0 && (-1 : Int) == 1 && items.size == items.size) = true) := by
    rw [show ((-1 : Int) == 1) = false from by decide, Bool.and_false, Bool.false_and]
    exact Bool.false_ne_true
  show wpAny _ _ (if (((items.size : Int) - 1) == 0 && (-1 : Int) == 1 && items.size == items.size) = true then _ else _) _ _ s
  rw [if_neg hno, pick_rev]
  first
    | exact wpAny_bind (m := Builtin.Tuple.tupleExact _) (wpAny_newObj_type (wpAny_pure ⟨_, rfl, wpAny_pure h⟩) htake)
    | exact wpAny_bind (m := Builtin.Tuple.tupleExact _) (wpAny_newObj_type (wpAny_bind (wpAny_pure (wpAny_pure ⟨_, rfl, wpAny_pure h⟩))) htake)
    | exact wpAny_bind (wpAny_bind (m := Builtin.Tuple.tupleExact _) (wpAny_newObj_type (wpAny_pure (wpAny_pure ⟨_, rfl, wpAny_pure h⟩)) htake))
    | exact wpAny_bind (wpAny_bind (m := Builtin.Tuple.tupleExact _) (wpAny_newObj_type (wpAny_pure ⟨_, rfl, wpAny_pure h⟩) htake))
end
end RevT
section
open PySem.Spec PyProof.Rows
variable {X : Cx}
def tRevT (K : PySem.W.Frag) (te : TE) : TE := fun σ H Q => te σ H fun x H1 => ∃ a xs, x = .ref a ∧ SqT K H1 a xs ∧ ∀ p, H1 p = none → Q (.ref p) (upd H1 p (.tup xs.reverse))
theorem pe_revT {e : Expr} {te : TE} {k : Nat} {p1 p2 p3 pos : Pos} (he : PE X e te) : PE X (.Subscript e (.Slice none none (some (.UnaryOp .USub (.Constant (.int 1) k p1) p2)) p3) pos) (tRevT X.K te) := by
  refine ⟨fun pins s σ H Q I h => ?_⟩
  refine Subscript_ (thn (he.run pins s σ H _ I h) fun v s1 ⟨x, H1, I1, r1, q1⟩ => ?_)
  obtain ⟨a, xs, ex, hx, q⟩ := q1
  subst ex
  cases r1
  have hst : PO X (some (.UnaryOp .USub (.Constant (.int 1) k p1) p2)) (tPart (tUn (rU fun i => .int (-i)) (tC (.int 1)))) := po_some (pe_un un_neg pe_int)
  refine wpAny_Slice (thn (po_none.run pins s1 σ H1 (fun o H2 => o = none ∧ H2 = H1) I1 ⟨rfl, rfl⟩) fun vl s2 ⟨l, H2, I2, pl, el, e2⟩ => ?_)
  subst el e2
  refine thn (po_none.run pins s2 σ H2 (fun o H3 => o = none ∧ H3 = H2) I2 ⟨rfl, rfl⟩) fun vu s3 ⟨u, H3, I3, pu, eu, e3⟩ => ?_
  subst eu e3
  refine thn (hst.run pins s3 σ H3 (fun o H4 => o = some (-1) ∧ H4 = H3) I3 ⟨1, rfl, -1, rfl, rfl, rfl⟩) fun vs s4 ⟨o, H4, I4, ps, eo, e4⟩ => ?_
  subst eo e4
  have I5 : Inv X pins σ H4 { s4 with heap := s4.heap.push { cls := .type "slice", data := .fields #[vl, vu, vs] } } := I4.kept (t' := s4.toks) fun b ob q => Heap.get?_push_of_some _ q
  obtain ⟨its, r, ht, hz⟩ := I5.tuple hx
  have hlen := r.length
  show wpAny (model X.prog X.w) X.A (subscriptTail e (.Slice none none (some (.UnaryOp .USub (.Constant (.int 1) k p1) p2)) p3) (.ref a) (.ref s4.heap.objs.size)) (EP X pins σ Q) X.xe { s4 with heap := s4.heap.push { cls := .type "slice", data := .fields #[vl, vu, vs] } }
  refine tail_any (ops := [.ref a, .ref s4.heap.objs.size]) ht.typeIs (PyProof.Rows.slot_tuple_getitem.lookup) ?_ (by with_unfolding_all rfl)
  refine RevT.getItem_tuple_rev ht (Heap.IsSliceOf.new _ vl vu vs) pl pu ps ?_ (by rw [List.size_toArray, ← hlen]; exact hz)
  refine ⟨.ref _, _, I5.laid (t' := s4.toks) (o := .tup xs.reverse) (fun b ob q => Heap.get?_push_of_some _ q) (Nat.le_refl _) ?_, rfl, q _ (I5.hok.fresh (Nat.le_refl _))⟩
  exact ⟨by rw [List.length_reverse]; exact hz, _, r.reverse, IsTup.new _ _⟩
end
/-! ### a value drawn within a variable's interval -/
abbrev endE (K : PySem.W.Frag) (k j : Int) : TE := tOp (rIxT K) (tOp (rIxL K) (tVar 16) (tC (V.int k))) (tC (V.int j))
abbrev turnE (K : PySem.W.Frag) (k b : Int) : TE := tIf (tTest (tOp (rI0 fun i j => V.bl (decide (i < j))) (tVar 17) (tC (V.int b)))) (tOp (rIxT K) (tOp (rIxL K) (tVar 16) (tC (V.int k))) (tOp (rI (fun x j => 0 < j) fun i j => V.int (i % j)) (tVar 17) (tC (V.int 2))))
  (tOp (rI0 fun i j => V.int (i + j)) (endE K k 0) (tCall spTake [] E0 (tCons (tVar 1) (tCons (tOp (rI0 fun i j => V.int (i + j)) (tOp (rI0 fun i j => V.int (i - j)) (endE K k 1) (endE K k 0)) (tC (V.int 1))) tNil))))
theorem But.refl' (d : Addr) (H : Hp) : But d H H := fun _ _ => rfl
theorem turn_ok {K : PySem.W.Frag} {σ : St} {H : Hp} {Q : VK} {k b : Int} {D e : Addr} {xs : List V} {d c : Addr} {lo hi : Int} {tn : Nat} (h17 : σ[17]? = some (some (.int (tn : Int)))) (h16 : σ[16]? = some (some (.ref D))) (h1 : σ[1]? = some (some (.ref d))) (hD : SqL K H D xs) (hk : atI xs k = some (.ref e)) (he : SqT K H e [.int lo, .int hi]) (dr : DrAt H d c) (lh : lo ≤ hi) (sm : hi - lo + 1 ≤ 1000000)
    (q : ∀ v H', lo ≤ v → v ≤ hi → But d H H' → DrAt H' d c → Q (.int v) H') : turnE K k b σ H Q := by
  have ix : ∀ (j : Int) (v : Int) (R : VK), atI [V.int lo, .int hi] j = some (.int v) → R (.int v) H → endE K k j σ H R := fun j v R hj r => ⟨_, h16, D, xs, k, _, rfl, rfl, hD, hk, e, _, j, _, rfl, rfl, he, hj, r⟩
  refine ⟨_, h17, _, _, rfl, rfl, _, rfl, ite2 (fun _ => ?_) (fun _ => ?_)⟩
  · refine ⟨_, h16, D, xs, k, _, rfl, rfl, hD, hk, _, h17, _, _, rfl, rfl, (by decide : (0 : Int) < 2), ?_⟩
    have em : (tn : Int) % 2 = 0 ∨ (tn : Int) % 2 = 1 := by omega
    rcases em with em | em
    · exact ⟨e, _, 0, _, rfl, by show V.int ((tn : Int) % 2) = _; rw [em], he, rfl, q lo H (Int.le_refl _) lh (But.refl' d H) dr⟩
    · exact ⟨e, _, 1, _, rfl, by show V.int ((tn : Int) % 2) = _; rw [em], he, rfl, q hi H lh (Int.le_refl _) (But.refl' d H) dr⟩
  · refine ix 0 lo _ rfl ?_
    refine ⟨_, h1, ?_⟩
    refine ix 1 hi _ rfl ?_
    refine ix 0 lo _ rfl ?_
    refine ⟨_, _, rfl, rfl, _, _, rfl, rfl, d, c, _, rfl, dr, by omega, bnd_le sm, fun H' v k' dr' v0 v1 => ⟨_, _, rfl, rfl, q _ _ (by omega) (by omega) k' dr'⟩⟩
theorem look1 {i : Int} {v : V} : lookV [(k1 i, v)] (k1 i) = some v := by
  unfold lookV
  rw [List.find?_cons_of_pos (by exact decide_eq_true rfl)]
  rfl
theorem look_no {kvs : List (PyData × V)} {n : Int} (h : ∀ p ∈ kvs, ∃ m : Int, p.1 = k1 m ∧ m ≠ n) : lookV kvs (k1 n) = none := by
  unfold lookV
  rw [List.find?_eq_none.mpr fun p hp z => by
    obtain ⟨m, e, ne⟩ := h p hp
    have z := of_decide_eq_true z
    rw [e] at z
    exact ne (k1_inj z)]
  rfl
theorem put_k1 {kvs : List (PyData × V)} {n : Int} {v : V} (h : ∀ p ∈ kvs, ∃ m : Int, p.1 = k1 m ∧ m ≠ n) : putV kvs (k1 n) v = kvs ++ [(k1 n, v)] := by
  unfold putV
  rw [look_no h, if_neg (by exact Bool.false_ne_true)]
def vk3 (a b c : Int) : List (PyData × V) := [(k1 0, .int a), (k1 1, .int b), (k1 2, .int c)]
theorem vk1_put (a : Int) : putV [] (k1 0) (.int a) = [(k1 0, .int a)] := put_k1 (kvs := []) (fun p h => nomatch h)
theorem vk2_put (a b : Int) : putV [(k1 0, .int a)] (k1 1) (.int b) = [(k1 0, .int a), (k1 1, .int b)] := put_k1 (fun p h => ⟨0, by rw [List.mem_singleton.mp h], by decide⟩)
theorem vk3_put (a b c : Int) : putV (putV (putV [] (k1 0) (.int a)) (k1 1) (.int b)) (k1 2) (.int c) = vk3 a b c := by
  rw [vk1_put, vk2_put]
  refine put_k1 (kvs := [(k1 0, .int a), (k1 1, .int b)]) (fun p h => ?_)
  simp only [List.mem_cons, List.not_mem_nil, or_false] at h
  rcases h with rfl | rfl
  · exact ⟨0, rfl, by decide⟩
  · exact ⟨1, rfl, by decide⟩
open Classical in
noncomputable def rho3 (a b c : Int) (k : PyData) : Int := if k = k1 0 then a else if k = k1 1 then b else c
theorem k1_ne {i j : Int} (h : i ≠ j) : k1 i ≠ k1 j := fun e => h (k1_inj (congrArg keyD e))
theorem rho3_0 (a b c : Int) : rho3 a b c (k1 0) = a := if_pos rfl
theorem rho3_1 (a b c : Int) : rho3 a b c (k1 1) = b := by
  unfold rho3
  rw [if_neg (k1_ne (by decide)), if_pos rfl]
theorem rho3_2 (a b c : Int) : rho3 a b c (k1 2) = c := by
  unfold rho3
  rw [if_neg (k1_ne (by decide)), if_neg (k1_ne (by decide))]
theorem look3 (a b c : Int) {k : PyData} (h : k = k1 0 ∨ k = k1 1 ∨ k = k1 2) : lookV (vk3 a b c) k = some (.int (rho3 a b c k)) := by
  rcases h with rfl | rfl | rfl
  · rw [rho3_0]
    unfold lookV vk3
    rw [List.find?_cons_of_pos (by exact decide_eq_true rfl)]
    rfl
  · rw [rho3_1]
    unfold lookV vk3
    rw [List.find?_cons_of_neg (by rw [decide_eq_false fun z => absurd (k1_inj z) (by decide)]; exact Bool.false_ne_true), List.find?_cons_of_pos (by exact decide_eq_true rfl)]
    rfl
  · rw [rho3_2]
    unfold lookV vk3
    rw [List.find?_cons_of_neg (by rw [decide_eq_false fun z => absurd (k1_inj z) (by decide)]; exact Bool.false_ne_true), List.find?_cons_of_neg (by rw [decide_eq_false fun z => absurd (k1_inj z) (by decide)]; exact Bool.false_ne_true), List.find?_cons_of_pos (by exact decide_eq_true rfl)]
    rfl
theorem key1_of {K : PySem.W.Frag} {H : Hp} {p : Addr} {i : Int} (h : H p = some (.tup [.int i])) : KeyV K H p (k1 i) := ⟨.tup (SqT.of h) (.cons (.int _) .nil), k1_plain i, Nat.le_succ_of_le (k1_depth i)⟩
theorem at_ids {jd : List Nat} {t : Nat} (h : t < jd.length) : atI ((asInts jd).map V.int) ((t : Nat) : Int) = some (.int ((jd.getD t 0 : Nat) : Int)) := atI_nat (by
  unfold asInts
  rw [List.getElem?_map, List.getElem?_map, List.getD_eq_getElem?_getD, List.getElem?_eq_getElem h]
  rfl)
theorem keep_upd {p : Addr} {o : HO} {H : Hp} : Keep [p] H (upd H p o) := fun b x n e => by rw [upd_ne (fun z => n (by rw [z]; exact List.mem_cons_self))]; exact e
theorem Sep.growE {cs : List Cell} {H H' : Hp} (S : Sep cs H) (s : Same H H') (c : Cell) (fr : ∀ b ∈ c.g, H b = none) (hc : c.C H') : Sep (cs ++ [c]) H' := by
  refine ⟨?_, fun j d hd => ?_⟩
  · rw [List.map_append, List.pairwise_append]
    refine ⟨S.nd, List.pairwise_singleton _ _, fun g hg g' hg' x hx y hy z => ?_⟩
    obtain rfl := List.mem_singleton.mp hg'
    obtain ⟨d, hd, rfl⟩ := List.mem_map.mp hg
    obtain ⟨i, hi⟩ := List.getElem?_of_mem hd
    obtain ⟨⟨o, e⟩, _⟩ := d.ex H (S.at_ i d hi) x hx
    rw [z, fr y hy] at e
    cases e
  · rcases get_snoc hd with ⟨_, h⟩ | ⟨_, h⟩
    · exact (S.same s).at_ j d h
    · rw [h]
      exact hc
theorem Sep.pre {cs ds : List Cell} {H : Hp} (S : Sep (cs ++ ds) H) : Sep cs H := by
  refine ⟨?_, fun j d hd => S.at_ j d ?_⟩
  · have := S.nd
    rw [List.map_append] at this
    exact (List.pairwise_append.mp this).1
  · rw [List.getElem?_append_left (List.getElem?_eq_some_iff.mp hd).1]
    exact hd

section
variable {P : Program} {w : World} {K : PySem.W.Frag} {mg : Str → Option Value} {base : Heap} {aT : Addr}

structure L13 (xl xh yh : Int) (T8 T : Tb) (ids : List Nat) (i x y fd lw hg : Nat) : Prop where
  a : LT (Rho xl xh yh) 3000 100000000 50 20 T
  lf : fd < T.fs.length
  lx : x < T.fs.length
  ly : y < T.fs.length
  li : i < T.fs.length
  lox : T.lo x = xl ∧ T.hi x = xh
  loy : T.lo y = 0 ∧ T.hi y = yh
  bx : -1 ≤ xl ∧ xl ≤ 0 ∧ 1 ≤ xh ∧ xh ≤ 2
  bY : 1 ≤ yh ∧ yh ≤ 2
  inn : ∀ j ∈ ids, j < T.fs.length
  l7 : ids.length ≤ 7
  lh : lw ≤ hg ∧ hg < ids.length
  iv : ∀ m m' : Int, (∀ k : Nat, lw ≤ k → k ≤ hg → m ≤ T.lo (ids.getD k 0) ∧ T.hi (ids.getD k 0) ≤ m') → m ≤ T.lo fd ∧ T.hi fd ≤ m'
  val : ∀ ρ v, Sem T ρ v → 0 ≤ v i ∧ v i < ids.length ∧ v fd = v (ids.getD (v i).toNat 0)
def Go3 (P : Program) (w : World) (K : PySem.W.Frag) (aT : Addr) (R : St → Hp → Prop) : Prop := ∀ (o0 o12 o13 : Option V) (d c t pm pi : Addr) (L : Own) (xl xh yh : Int) (T8 T : Tb) (ids : List Nat) (i x y z fd lw hg : Nat) (H : Hp), L13 xl xh yh T8 T ids i x y fd lw hg → Sep [cTab P w K aT t L T, cDr d c] H → SqT K H pi ((asInts ids).map V.int) →
  R [o0, some (.ref d), some (.ref t), some (.int (x : Int)), some (.int (y : Int)), some (.int (z : Int)), some (.ref pm), some (.ref pi), some (.int (i : Int)), some (.int (lw : Int)), some (.int (hg : Int)), some (.int (fd : Int)), o12, o13, none, none, none, none, none, none, none, none, none, none] H
abbrev nLw : List Str := ["script", "d", "table", "x", "y", "z", "menu", "ids", "index", "low", "high", "found", "padded", "back", "span", "all_spans", "ends", "turn", "values", "due", "actual", "one", "k", "s"]
theorem scLw : FnScope nLw ["script"] (defScope slaw) := ⟨rfl, rfl, rfl, by decide +kernel, rfl, by decide +kernel, by decide +kernel⟩
theorem law_end {f : Addr} {cdv : Value} {A : Around} {outer : List Env} {s : Shared} {H : Hp} {E : XK} (hr8 : Room 8 (A.deeper (PyProof.Rows.envOfC "law" (defScope slaw) s.heap.objs.size f cdv))) (T : TxtM mg) (M : TmL P w K mg base aT) (cB : Calls P w K mg base CX0 1 "_law_begin" ["script"] (spBegin K)) (cT : Calls P w K mg base CX0 1 "_law_take" ["d", "many"] spTake) (cS : Calls P w K mg base CX0 2 "_law_signed" ["d", "most"] spSigned) (cI : Calls P w K mg base CX0 1 "_law_int" ["actual"] spInt) (cTP : Calls P w K mg base CX0 6 "_law_told" ["table", "ids", "index"] (spToldP P w K aT)) (cIx : Calls P w K mg base CX0 8 "_law_index" ["d", "table", "x", "y"] (spIndexL P w K aT)) : ∃ tt, PSs (cxOf CX0 P w K mg base nLw "law" (defScope slaw) f cdv A outer s H E).nox ((defBody slaw).drop 16) tt ∧ ∀ (Q : VK) (_q : ∀ H', Q (.bl true) H'), Go3 P w K aT (tt { nx := fun _ H' => Q V.non H', rt := Q }) := by
  obtain ⟨fB, dB, GB, kB, bB, gB⟩ := cB.ex
  obtain ⟨fT, dT, GT, kT, bT, gT⟩ := cT.ex
  obtain ⟨fS, dS, GS, kS, bS, gS⟩ := cS.ex
  obtain ⟨fI, dI, GI, kI, bI, gI⟩ := cI.ex
  obtain ⟨fTP, dTP, GTP, kTP, bTP, gTP⟩ := cTP.ex
  obtain ⟨fIx, dIx, GIx, kIx, bIx, gIx⟩ := cIx.ex
  obtain ⟨fsp, dsp, msp, Gsp, bsp⟩ := M.sp
  obtain ⟨fnu, dnu, mnu, Gnu, bnu⟩ := M.nu
  obtain ⟨fva, dva, mva, Gva, bva⟩ := M.va
  obtain ⟨fvb, dvb, mvb, Gvb, bvb⟩ := M.vb
  obtain ⟨fmk, dmk, mmk, Gmk, bmk⟩ := M.mke
  obtain ⟨fIn, dIn, kMk, GIn, bIn⟩ := M.ini
  have gTm := M.gT
  have cT := M.c.c
  have hr1 : Room 1 _ := hr8.mono (by decide)
  have hr2 : Room 2 _ := hr8.mono (by decide)
  have hr3 : Room 3 _ := hr8.mono (by decide)
  have hr5 : Room 5 _ := hr8.mono (by decide)
  have hr6 : Room 6 _ := hr8.mono (by decide)
  have hr7 : Room 7 _ := hr8.mono (by decide)
  refine ⟨_, (pss_cons (ps_set (i := 14) scLw.nd rfl (.inl rfl) (pe_meth (pv 2) cT msp Gsp hr1 bsp .nil pass0 (pa_cons (pv 11) pa_nil)))
      (pss_cons (ps_setLc (i := 15) (own := [("one", 21)]) (g := (gName 21)) (tt := tYes) (te := (tMeth aT "span" (spSpan P w K aT) [] E0 (tVar 2) (tCons (tVar 21) tNil))) (by rfl) scLw.nd rfl rfl (sw_true rfl rfl rfl (by decide +kernel)) (pi_tup (pe_slice sl_tupA (pv 7) (po_some (pv 9)) (po_some (pe_op op_add (pv 10) pe_int)))) (blkOk_by (N := nLw) (sc := defScope slaw) (by decide +kernel)) (fun _ _ _ _ _ => (pg_name (i := 21) scLw.nd rfl (.inl rfl) (hf := Or.inr rfl))) (fun _ _ _ _ _ => pts_nil) (fun _ _ _ _ _ => (pe_meth (pv 2) cT msp Gsp hr1 bsp .nil pass0 (pa_cons (pv 21) pa_nil))))
      (pss_cons (ps_if (PW.pt (pw_or (pt_cmpR op_lt (pe_ix ix_tup (pv 14) pe_int (fun _ _ => rfl)) (pe_callB (cr_min rfl) (by rfl) T.min (by decide +kernel) (pa_cons (pe_lc (own := [("s", 23)]) (g := (gName 23)) (tt := tYes) (te := (tOp (rIxT K) (tVar 23) (tC (.int 0)))) rfl scLw.nd (pi_list (pv 15)) (blkOk_by (N := nLw) (sc := defScope slaw) (by decide +kernel)) (fun _ _ _ _ _ => (pg_name (i := 23) scLw.nd rfl (.inl rfl) (hf := Or.inr rfl))) (fun _ _ _ _ _ => pts_nil) (fun _ _ _ _ _ => (pe_ix ix_tup (pv 23) pe_int (fun _ _ => rfl)))) pa_nil)) (nomark _)) (pw_or1 (pt_cmpR op_gt (pe_ix ix_tup (pv 14) pe_int (fun _ _ => rfl)) (pe_callB (cr_max rfl) (by rfl) T.max (by decide +kernel) (pa_cons (pe_lc (own := [("s", 23)]) (g := (gName 23)) (tt := tYes) (te := (tOp (rIxT K) (tVar 23) (tC (.int 1)))) rfl scLw.nd (pi_list (pv 15)) (blkOk_by (N := nLw) (sc := defScope slaw) (by decide +kernel)) (fun _ _ _ _ _ => (pg_name (i := 23) scLw.nd rfl (.inl rfl) (hf := Or.inr rfl))) (fun _ _ _ _ _ => pts_nil) (fun _ _ _ _ _ => (pe_ix ix_tup (pv 23) pe_int (fun _ _ => rfl)))) pa_nil)) (nomark _))))) (pss_one (ps_ret pe_bl)) pss_nil)
      (pss_cons (ps_setLc (i := 16) (own := [("one", 21)]) (g := (gName 21)) (tt := tYes) (te := (tMeth aT "span" (spSpan P w K aT) [] E0 (tVar 2) (tCons (tVar 21) tNil))) (by rfl) scLw.nd rfl rfl (sw_true rfl rfl rfl (by decide +kernel)) (pi_tup (pe_tup (pa_cons (pv 3) (pa_cons (pv 4) pa_nil)))) (blkOk_by (N := nLw) (sc := defScope slaw) (by decide +kernel)) (fun _ _ _ _ _ => (pg_name (i := 21) scLw.nd rfl (.inl rfl) (hf := Or.inr rfl))) (fun _ _ _ _ _ => pts_nil) (fun _ _ _ _ _ => (pe_meth (pv 2) cT msp Gsp hr1 bsp .nil pass0 (pa_cons (pv 21) pa_nil))))
      (pss_cons (ps_for PassesOwn.never rfl (pi_range1 rfl T.range (pa_cons pe_int pa_nil)) (pg_name (i := 17) scLw.nd rfl (.inl rfl)) (pss_cons (ps_set (i := 18) scLw.nd rfl (.inl rfl) (pe_dnewV P w rfl rfl))
      (pss_cons (ps_asg (pe_ifExp (pt_cmpR op_lt (pv 17) pe_int (nomark _)) (pe_ix ix_tup (pe_ix ix_list (pv 16) pe_int (fun _ _ => rfl)) (pe_op op_mod (pv 17) pe_int) (fun _ _ => rfl)) (pe_op op_add (pe_ix ix_tup (pe_ix ix_list (pv 16) pe_int (fun _ _ => rfl)) pe_int (fun _ _ => rfl)) (pe_call GT hr1 (by rfl) gT kT bT .nil pass0 (pa_cons (pv 1) (pa_cons (pe_op op_add (pe_op op_sub (pe_ix ix_tup (pe_ix ix_list (pv 16) pe_int (fun _ _ => rfl)) pe_int (fun _ _ => rfl)) (pe_ix ix_tup (pe_ix ix_list (pv 16) pe_int (fun _ _ => rfl)) pe_int (fun _ _ => rfl))) pe_int) pa_nil))))) (pg_sub (pv 18) (pe_tup (pa_cons pe_int pa_nil)) (set_dictV hr8.units)))
      (pss_cons (ps_asg (pe_ifExp (pt_cmpR op_lt (pv 17) pe_int (nomark _)) (pe_ix ix_tup (pe_ix ix_list (pv 16) pe_int (fun _ _ => rfl)) (pe_op op_mod (pv 17) pe_int) (fun _ _ => rfl)) (pe_op op_add (pe_ix ix_tup (pe_ix ix_list (pv 16) pe_int (fun _ _ => rfl)) pe_int (fun _ _ => rfl)) (pe_call GT hr1 (by rfl) gT kT bT .nil pass0 (pa_cons (pv 1) (pa_cons (pe_op op_add (pe_op op_sub (pe_ix ix_tup (pe_ix ix_list (pv 16) pe_int (fun _ _ => rfl)) pe_int (fun _ _ => rfl)) (pe_ix ix_tup (pe_ix ix_list (pv 16) pe_int (fun _ _ => rfl)) pe_int (fun _ _ => rfl))) pe_int) pa_nil))))) (pg_sub (pv 18) (pe_tup (pa_cons pe_int pa_nil)) (set_dictV hr8.units)))
      (pss_cons (ps_asg (pe_call GS hr2 (by rfl) gS kS bS .nil pass0 (pa_cons (pv 1) (pa_cons pe_int pa_nil))) (pg_sub (pv 18) (pe_tup (pa_cons pe_int pa_nil)) (set_dictV hr8.units)))
      (pss_cons (ps_set (i := 19) scLw.nd rfl (.inl rfl) (pe_meth (pv 2) cT mva Gva hr5 bva .nil pass0 (pa_cons (pe_ix ix_tup (pv 7) (pe_meth (pv 2) cT mva Gva hr5 bva .nil pass0 (pa_cons (pv 8) (pa_cons (pv 18) pa_nil))) (fun _ _ => rfl)) (pa_cons (pv 18) pa_nil))))
      (pss_cons (ps_set (i := 20) scLw.nd rfl (.inl rfl) (pe_meth (pv 2) cT mva Gva hr5 bva .nil pass0 (pa_cons (pv 11) (pa_cons (pv 18) pa_nil))))
      (pss_one (ps_if (PW.pt (pw_or (pt_not (pt_val (pe_call GI hr1 (by rfl) gI kI bI .nil pass0 (pa_cons (pv 20) pa_nil)))) (pw_or (pt_cmpR op_ne (pv 20) (pv 19) (nomark _)) (pw_or (pt_cmpR op_lt (pv 20) (pe_ix ix_tup (pv 14) pe_int (fun _ _ => rfl)) (nomark _)) (pw_or1 (pt_cmpR op_gt (pv 20) (pe_ix ix_tup (pv 14) pe_int (fun _ _ => rfl)) (nomark _))))))) (pss_one (ps_ret pe_bl)) pss_nil)))))))))
      (pss_one (ps_ret pe_bl))))))), fun Q q o0 o12 o13 d c t pm pi L xl xh yh T8 T13 ids i x y z fd lw hg H23 F S hpi => ?_⟩
  obtain ⟨⟨dx0, h1⟩, _⟩ := id S.tabN
  refine ⟨_, rfl, t, dx0, _, rfl, h1, rfl, _, rfl, t, L, T13, fd, rfl, S.tabN, by rw [F.a.inv.len]; exact F.lf, fun ps hps => ?_⟩
  obtain ⟨js, ejs⟩ : ∃ js : List Nat, js = (ids.drop lw).take (hg + 1 - lw) := ⟨_, rfl⟩
  have jsin : ∀ c ∈ js, c ∈ ids := fun c hc => by
    rw [ejs] at hc
    exact List.drop_subset _ _ (List.take_subset _ _ hc)
  have lh := F.lh
  have l7 := F.l7
  have jslen : js.length ≤ 900 ∧ 0 < js.length := by
    rw [ejs, List.length_take, List.length_drop]
    omega
  have jl : ((asInts js).map V.int).length = js.length := by rw [List.length_map, asInts, List.length_map]
  refine ⟨_, rfl, _, rfl, _, rfl, _, rfl, _, _, rfl, rfl, _, rfl, slA_one hpi fun pq H24 sm24 hq => ?_⟩
  rw [show (hg : Int) + 1 = ((hg + 1 : Nat) : Int) by omega, cut_ids (by omega) (by omega), ← ejs] at hq
  replace S := S.same sm24
  replace hpi := sqT_same hpi sm24
  replace hps := sqT_same hps sm24
  refine ⟨pq, rfl, ⟨_, hq⟩, fun D nD => lc_tup (K := K) (a := pq) (xs := (asInts js).map V.int) (fun m H' => Same H24 H' ∧ SpsI K T13 js D m H')
    ⟨same_upd nD, [], upd_same, rfl, fun k q c h => by simp at h⟩ (fun m H' _ h => sqT_same hq h.1) ?_ ?_⟩
  · rintro m e H' hm ⟨sm, qs, hD, ql, hqs⟩
    obtain ⟨c, rfl, hcm⟩ := nat_item hm
    have t6 := S.tabN.same sm
    obtain ⟨⟨dx6, h6⟩, _⟩ := id t6
    refine ⟨rfl, ?_⟩
    unfold tYes
    dsimp only
    rw [if_pos rfl]
    refine ⟨_, rfl, t, dx6, _, rfl, h6, rfl, _, rfl, t, L, T13, c, rfl, t6, by rw [F.a.inv.len]; exact F.inn c (jsin c (List.mem_of_getElem? hcm)), fun pq hpq => ?_⟩
    have ml : m < js.length := (List.getElem?_eq_some_iff.mp hcm).1
    exact ⟨_, hD, by rw [List.length_map, ql]; exact lt900 (by omega), fun b o e => by rw [upd_ne (ne_of_none e nD)]; exact sm _ _ e, SpsI.step hD ql hqs hcm hpq⟩
  rintro H25 ⟨sm25, qs, hD, ql, hqs⟩
  rw [jl] at ql
  replace S := S.same sm25
  replace hpi := sqT_same hpi sm25
  replace hps := sqT_same hps sm25
  have qne : (qs.map V.ref).length = js.length := by rw [List.length_map, ql]
  refine ⟨_, rfl, ps, _, (0 : Nat), _, rfl, rfl, hps, rfl, ?_⟩
  refine ⟨_, rfl, D, rfl, ⟨_, SqL.of hD⟩, fun D4 nD4 => lc_list (K := K) (a := D) (xs := qs.map V.ref) (fun m H' => Same H25 H' ∧ H' D4 = some (.lst (((js.take m).map T13.lo).map V.int)))
    ⟨same_upd nD4, upd_same⟩ (fun m H' _ h => SqL.of (h.1 _ _ hD)) ?_ ?_⟩
  · rintro m e H' hm ⟨sm, hD2⟩
    rw [List.getElem?_map] at hm
    obtain ⟨q0, hqm, rfl⟩ : ∃ q0, qs[m]? = some q0 ∧ e = V.ref q0 := by
      cases e2 : qs[m]? with
      | none => rw [e2] at hm; cases hm
      | some q0 =>
        rw [e2] at hm
        exact ⟨q0, rfl, (Option.some.inj hm).symm⟩
    have ml : m < js.length := by rw [← ql]; exact (List.getElem?_eq_some_iff.mp hqm).1
    have hcm : js[m]? = some js[m] := List.getElem?_eq_getElem ml
    refine ⟨rfl, ?_⟩
    unfold tYes
    dsimp only
    rw [if_pos rfl]
    refine ⟨_, rfl, q0, _, (0 : Nat), _, rfl, rfl, sqT_same (hqs m q0 _ hqm hcm) sm, rfl, ?_⟩
    refine ⟨_, hD2, ?_, ?_, ?_⟩
    · rw [List.length_map, List.length_map, List.length_take]
      exact lt900 (Nat.le_trans (Nat.min_le_right _ _) jslen.1)
    · exact fun b o e => by rw [upd_ne (ne_of_none e nD4)]; exact sm _ _ e
    · rw [upd_same, take_snoc hcm, List.map_append, List.map_append]
      rfl
  rintro H26 ⟨sm26, hD4⟩
  rw [qne, List.take_length] at hD4
  refine ⟨D4, js.map T13.lo, rfl, SqL.of hD4, by rw [List.length_map]; exact jslen.2, fun mm hm1 hm2 => ?_⟩
  replace S := S.same sm26
  replace hpi := sqT_same hpi sm26
  replace hps := sqT_same hps sm26
  replace hD := sm26 _ _ hD
  replace hqs : ∀ (k : Nat) (q : Addr) (c : Nat), qs[k]? = some q → js[k]? = some c → SqT K H26 q [.int (T13.lo c), .int (T13.hi c)] := fun k q0 c e1 e2 => sqT_same (hqs k q0 c e1 e2) sm26
  have bdl : mm ≤ T13.lo fd := (F.iv mm 100000000 fun k k1 k2 => by
    have cm := cut_mem k1 k2 (show hg + 1 ≤ ids.length by omega)
    rw [← ejs] at cm
    exact ⟨hm2 _ (List.mem_map.mpr ⟨_, cm, rfl⟩), (F.a.inv.bd _ (F.inn _ (jsin _ cm))).2⟩).1
  refine ⟨_, _, rfl, rfl, _, rfl, iteFd (decide_eq_false (by omega)) ?_⟩
  refine ⟨_, rfl, ps, _, (1 : Nat), _, rfl, rfl, hps, rfl, ?_⟩
  refine ⟨_, rfl, D, rfl, ⟨_, SqL.of hD⟩, fun D5 nD5 => lc_list (K := K) (a := D) (xs := qs.map V.ref) (fun m H' => Same H26 H' ∧ H' D5 = some (.lst (((js.take m).map T13.hi).map V.int)))
    ⟨same_upd nD5, upd_same⟩ (fun m H' _ h => SqL.of (h.1 _ _ hD)) ?_ ?_⟩
  · rintro m e H' hm ⟨sm, hD2⟩
    rw [List.getElem?_map] at hm
    obtain ⟨q0, hqm, rfl⟩ : ∃ q0, qs[m]? = some q0 ∧ e = V.ref q0 := by
      cases e2 : qs[m]? with
      | none => rw [e2] at hm; cases hm
      | some q0 =>
        rw [e2] at hm
        exact ⟨q0, rfl, (Option.some.inj hm).symm⟩
    have ml : m < js.length := by rw [← ql]; exact (List.getElem?_eq_some_iff.mp hqm).1
    have hcm : js[m]? = some js[m] := List.getElem?_eq_getElem ml
    refine ⟨rfl, ?_⟩
    unfold tYes
    dsimp only
    rw [if_pos rfl]
    refine ⟨_, rfl, q0, _, (1 : Nat), _, rfl, rfl, sqT_same (hqs m q0 _ hqm hcm) sm, rfl, ?_⟩
    refine ⟨_, hD2, ?_, ?_, ?_⟩
    · rw [List.length_map, List.length_map, List.length_take]
      exact lt900 (Nat.le_trans (Nat.min_le_right _ _) jslen.1)
    · exact fun b o e => by rw [upd_ne (ne_of_none e nD5)]; exact sm _ _ e
    · rw [upd_same, take_snoc hcm, List.map_append, List.map_append]
      rfl
  rintro H27 ⟨sm27, hD5⟩
  rw [qne, List.take_length] at hD5
  refine ⟨D5, js.map T13.hi, rfl, SqL.of hD5, by rw [List.length_map]; exact jslen.2, fun m2 hm3 hm4 => ?_⟩
  replace S := S.same sm27
  replace hpi := sqT_same hpi sm27
  replace hps := sqT_same hps sm27
  have bdh : T13.hi fd ≤ m2 := (F.iv (-100000000) m2 fun k k1 k2 => by
    have cm := cut_mem k1 k2 (show hg + 1 ≤ ids.length by omega)
    rw [← ejs] at cm
    exact ⟨(F.a.inv.bd _ (F.inn _ (jsin _ cm))).1, hm4 _ (List.mem_map.mpr ⟨_, cm, rfl⟩)⟩).2
  refine ⟨_, _, rfl, rfl, _, rfl, iteFd (decide_eq_false (by omega)) ?_⟩
  clear hD hqs ql qne hD4 hD5 hm1 hm2 hm3 hm4 bdl bdh hq nD nD4 nD5 sm24 sm25 sm26 sm27 jsin jslen jl ejs
  refine ⟨_, rfl, _, rfl, by show 2 ≤ sizeLine; decide, fun p2 np2 => ?_⟩
  have sp := same_upd (o := .tup [V.int (x : Int), .int (y : Int)]) np2
  have hp2 : SqT K (upd H27 p2 (.tup [V.int (x : Int), .int (y : Int)])) p2 ((asInts [x, y]).map V.int) := SqT.of upd_same
  replace S := S.same sp
  replace hpi := sqT_same hpi sp
  replace hps := sqT_same hps sp
  clear sp np2
  generalize upd H27 p2 (.tup [V.int (x : Int), .int (y : Int)]) = H28 at *
  refine ⟨p2, rfl, ⟨_, hp2⟩, fun D nD => lc_tup (K := K) (a := p2) (xs := (asInts [x, y]).map V.int) (fun m H' => Same H28 H' ∧ SpsI K T13 [x, y] D m H')
    ⟨same_upd nD, [], upd_same, rfl, fun k q c h => by simp at h⟩ (fun m H' _ h => sqT_same hp2 h.1) ?_ ?_⟩
  · rintro m e H' hm ⟨sm, qs, hD, ql, hqs⟩
    obtain ⟨c, rfl, hcm⟩ := nat_item hm
    have t6 := S.tabN.same sm
    obtain ⟨⟨dx6, h6⟩, _⟩ := id t6
    refine ⟨rfl, ?_⟩
    unfold tYes
    dsimp only
    rw [if_pos rfl]
    have cm := List.mem_of_getElem? hcm
    simp only [List.mem_cons, List.not_mem_nil, or_false] at cm
    refine ⟨_, rfl, t, dx6, _, rfl, h6, rfl, _, rfl, t, L, T13, c, rfl, t6, by rw [F.a.inv.len]; rcases cm with rfl | rfl; exact F.lx; exact F.ly, fun pq hpq => ?_⟩
    have ml : m < 2 := (List.getElem?_eq_some_iff.mp hcm).1
    exact ⟨_, hD, by rw [List.length_map, ql]; exact lt900 (by omega), fun b o e => by rw [upd_ne (ne_of_none e nD)]; exact sm _ _ e, SpsI.step hD ql hqs hcm hpq⟩
  rintro H29 ⟨sm29, qs, hD, ql, hqs⟩
  replace hpi := sqT_same hpi sm29
  replace hps := sqT_same hps sm29
  obtain ⟨e0, e1, rfl⟩ : ∃ e0 e1, qs = [e0, e1] := by
    match qs, ql with
    | [e0, e1], _ => exact ⟨e0, e1, rfl⟩
  have he0 : SqT K H29 e0 [.int xl, .int xh] := by
    have := hqs 0 e0 x rfl rfl
    rw [F.lox.1, F.lox.2] at this
    exact this
  have he1 : SqT K H29 e1 [.int 0, .int yh] := by
    have := hqs 1 e1 y rfl rfl
    rw [F.loy.1, F.loy.2] at this
    exact this
  replace S := Sep.growE S sm29 (cLst D [.ref e0, .ref e1]) (fun b hb => by rw [List.mem_singleton.mp hb]; exact nD) hD
  clear hD hqs ql sm29 nD hp2
  have bx := F.bx
  have bY := F.bY
  refine ⟨4, rfl, by decide, by decide, for_range (lo := 0) (n := 4) (fun m σ H' => ∃ (v15 v17 v18 v19 v20 : Option V),
      σ = [o0, some (.ref d), some (.ref t), some (.int (x : Int)), some (.int (y : Int)), some (.int (z : Int)), some (.ref pm), some (.ref pi), some (.int (i : Int)), some (.int (lw : Int)), some (.int (hg : Int)), some (.int (fd : Int)), o12, o13, some (.ref ps), v15, some (.ref D), v17, v18, v19, v20, none, none, none] ∧
      Sep [cTab P w K aT t L T13, cDr d c, cLst D [.ref e0, .ref e1]] H' ∧ KT H29 H') ⟨_, none, none, none, none, rfl, S, KT.refl _⟩ ?_ ?_⟩
  · clear S
    rintro m σ H' hm ⟨v15, v17, v18, v19, v20, rfl, S, kt⟩
    rw [show (0 : Int) + (m : Int) = (m : Int) from Int.zero_add _]
    intro pv npv
    have s0 := same_upd (o := HO.ext (rawD P w pv [])) npv
    have dnew : DV P w K (upd H' pv (.ext (rawD P w pv []))) pv [] := ⟨[], upd_same, True.intro⟩
    replace S := Sep.growE S s0 (cDV P w K pv []) (fun b hb => by rw [List.mem_singleton.mp hb]; exact npv) dnew
    replace kt := kt.trans (Same.kt s0)
    clear s0 dnew npv
    generalize upd H' pv (.ext (rawD P w pv [])) = G0 at *
    have hDl : ∀ {kv : List (PyData × V)} {G : Hp}, Sep [cTab P w K aT t L T13, cDr d c, cLst D [.ref e0, .ref e1], cDV P w K pv kv] G → G D = some (.lst [.ref e0, .ref e1]) := fun S => S.at_ 2 _ rfl
    have hdv : ∀ {kv : List (PyData × V)} {G : Hp}, Sep [cTab P w K aT t L T13, cDr d c, cLst D [.ref e0, .ref e1], cDV P w K pv kv] G → DV P w K G pv kv := fun S => S.at_ 3 _ rfl
    have stv : ∀ {kv kv' : List (PyData × V)} {G G' : Hp}, Sep [cTab P w K aT t L T13, cDr d c, cLst D [.ref e0, .ref e1], cDV P w K pv kv] G → But pv G G' → DV P w K G' pv kv' → Sep [cTab P w K aT t L T13, cDr d c, cLst D [.ref e0, .ref e1], cDV P w K pv kv'] G' ∧ KT G G' := fun {kv kv' G G'} S b h => ⟨S.step 3 (c' := cDV P w K pv kv') rfl rfl b.keeps h, S.ktk 3 rfl b.keeps⟩
    replace S : Sep [cTab P w K aT t L T13, cDr d c, cLst D [.ref e0, .ref e1], cDV P w K pv []] G0 := S
    refine turn_ok (k := 0) (b := 2) (tn := m) (c := c) rfl rfl rfl (SqL.of (hDl S)) rfl (sqT_kt he0 kt) S.drN (by omega) (by omega) fun a0 G1 a00 a01 k1' dr1 => ?_
    obtain ⟨S1, kt1⟩ := S.drS k1' dr1
    refine ⟨_, rfl, by show 1 ≤ sizeLine; decide, fun pk npk => ?_⟩
    have sk := same_upd (o := .tup [V.int 0]) npk
    have hk : upd G1 pk (.tup [V.int 0]) pk = some (.tup [V.int 0]) := upd_same
    refine ⟨pk, pv, k1 0, [], rfl, rfl, key1_of hk, hdv (S1.same sk), Nat.zero_le _, fun G2 b2 _ d2 => ?_⟩
    obtain ⟨S2, kt2⟩ := stv (S1.same sk) b2 d2
    replace kt := (kt.trans kt1).trans ((Same.kt sk).trans kt2)
    clear S S1 k1' dr1 kt1 npk sk hk b2 d2 kt2
    refine turn_ok (k := 1) (b := 3) (tn := m) (c := c) rfl rfl rfl (SqL.of (hDl S2)) rfl (sqT_kt he1 kt) S2.drN (by omega) (by omega) fun b0 G3 b00 b01 k3' dr3 => ?_
    obtain ⟨S3, kt3⟩ := S2.drS k3' dr3
    refine ⟨_, rfl, by show 1 ≤ sizeLine; decide, fun pk npk => ?_⟩
    have sk := same_upd (o := .tup [V.int 1]) npk
    have hk : upd G3 pk (.tup [V.int 1]) pk = some (.tup [V.int 1]) := upd_same
    refine ⟨pk, pv, k1 1, _, rfl, rfl, key1_of hk, hdv (S3.same sk), by rw [vk1_put]; exact Nat.le_of_ble_eq_true rfl, fun G4 b4 _ d4 => ?_⟩
    obtain ⟨S4, kt4⟩ := stv (S3.same sk) b4 d4
    replace kt := (kt.trans kt3).trans ((Same.kt sk).trans kt4)
    clear S2 S3 k3' dr3 kt3 npk sk hk b4 d4 kt4
    refine ⟨_, rfl, d, c, 40, rfl, S4.drN, by decide, bnd_le (by decide), fun G5 c0 k5 dr5 c00 c01 => ?_⟩
    obtain ⟨S5, kt5⟩ := S4.drS k5 dr5
    refine ⟨_, rfl, by show 1 ≤ sizeLine; decide, fun pk npk => ?_⟩
    have sk := same_upd (o := .tup [V.int 2]) npk
    have hk : upd G5 pk (.tup [V.int 2]) pk = some (.tup [V.int 2]) := upd_same
    refine ⟨pk, pv, k1 2, _, rfl, rfl, key1_of hk, hdv (S5.same sk), ?_, fun G6 b6 _ d6 => ?_⟩
    · rw [vk1_put, vk2_put]
      exact Nat.le_of_ble_eq_true rfl
    obtain ⟨S6, kt6⟩ := stv (S5.same sk) b6 d6
    replace kt := (kt.trans kt5).trans ((Same.kt sk).trans kt6)
    rw [vk3_put] at S6
    clear S4 S5 k5 dr5 kt5 npk sk hk b6 d6 kt6
    obtain ⟨v, SV⟩ := F.a.sem (rho3 a0 b0 c0) ⟨by rw [rho3_0]; exact ⟨a00, a01⟩, by rw [rho3_1]; exact ⟨b00, b01⟩, by rw [rho3_2]; exact ⟨c00, c01⟩⟩
    have lk : ∀ k, Fm.var k ∈ T13.fs → lookV (vk3 a0 b0 c0) k = some (.int (rho3 a0 b0 c0 k)) := fun k hk => look3 a0 b0 c0 (F.a.var k hk)
    obtain ⟨vi0, vi1, vfd⟩ := F.val _ _ SV
    obtain ⟨n, en⟩ : ∃ n : Nat, v i = (n : Int) := ⟨(v i).toNat, by omega⟩
    rw [en, Int.toNat_natCast] at vfd
    have hn : n < ids.length := by omega
    have lid := F.inn _ (getD_mem hn)
    have fs63 : T13.fs.length ≤ 63 := Nat.le_trans F.a.few (by decide)
    have fdiv := SV.iv fd F.lf
    obtain ⟨⟨dx6, h6⟩, _⟩ := id S6.tabN
    refine ⟨_, rfl, t, dx6, _, rfl, h6, rfl, _, rfl, _, rfl, t, dx6, _, rfl, h6, rfl, _, rfl, _, rfl, t, pv, L, T13, i, 3000, _, v, _, rfl, S6.tabN, F.li, fs63, F.a.wf, by decide, SV, hdv S6, lk, fun G7 s7 => ?_⟩
    replace S6 := S6.same s7
    replace kt := kt.trans (Same.kt s7)
    rw [en]
    obtain ⟨⟨dx7, h7⟩, _⟩ := id S6.tabN
    refine ⟨pi, _, n, _, rfl, rfl, sqT_kt hpi kt, at_ids hn, _, rfl, t, pv, L, T13, ids.getD n 0, 3000, _, v, _, rfl, S6.tabN, lid, fs63, F.a.wf, by decide, SV, hdv S6, lk, fun G8 s8 => ?_⟩
    replace S6 := S6.same s8
    replace kt := kt.trans (Same.kt s8)
    obtain ⟨⟨dx8, h8⟩, _⟩ := id S6.tabN
    refine ⟨_, rfl, t, dx8, _, rfl, h8, rfl, _, rfl, _, rfl, t, pv, L, T13, fd, 3000, _, v, _, rfl, S6.tabN, F.lf, fs63, F.a.wf, by decide, SV, hdv S6, lk, fun G9 s9 => ?_⟩
    replace S6 := S6.same s9
    replace kt := kt.trans (Same.kt s9)
    replace hps := sqT_kt hps kt
    refine ⟨_, rfl, _, rfl, _, rfl, iteFd rfl ?_⟩
    refine ⟨_, rfl, _, rfl, rfl, _, rfl, iteFd (by rw [vfd, decide_eq_true rfl]; rfl) ?_⟩
    refine ⟨_, rfl, _, rfl, ps, _, (0 : Nat), _, rfl, rfl, hps, rfl, _, _, rfl, rfl, _, rfl, iteFd (decide_eq_false (by omega)) ?_⟩
    refine ⟨_, rfl, _, rfl, ps, _, (1 : Nat), _, rfl, rfl, hps, rfl, _, _, rfl, rfl, _, rfl, iteFd (decide_eq_false (by omega)) ?_⟩
    exact ⟨v15, _, _, _, _, rfl, Sep.pre (cs := [cTab P w K aT t L T13, cDr d c, cLst D [.ref e0, .ref e1]]) (ds := [cDV P w K pv (vk3 a0 b0 c0)]) S6, kt⟩
  · rintro σ H' ⟨v15, v17, v18, v19, v20, rfl, S, kt⟩
    exact q _
end

section
variable {P : Program} {w : World} {K : PySem.W.Frag} {mg : Str → Option Value} {base : Heap} {aT : Addr}

structure L8 (xl xh yh : Int) (T : Tb) (ids : List Nat) (i x y z : Nat) : Prop where
  a : LT (Rho xl xh yh) 1800 2048000 30 12 T
  np : NP T
  li : i < T.fs.length
  lx : x < T.fs.length
  ly : y < T.fs.length
  lz : z < T.fs.length
  inn : ∀ j ∈ ids, j < T.fs.length
  lox : T.lo x = xl ∧ T.hi x = xh
  loy : T.lo y = 0 ∧ T.hi y = yh
  bx : -1 ≤ xl ∧ xl ≤ 0 ∧ 1 ≤ xh ∧ xh ≤ 2
  bY : 1 ≤ yh ∧ yh ≤ 2
  l17 : 1 ≤ ids.length ∧ ids.length ≤ 7
def Go2 (P : Program) (w : World) (K : PySem.W.Frag) (aT : Addr) (R : St → Hp → Prop) : Prop := ∀ (o0 : Option V) (d c t pm pi : Addr) (L : Own) (xl xh yh : Int) (T : Tb) (ids : List Nat) (i x y z : Nat) (H : Hp), L8 xl xh yh T ids i x y z → Sep [cTab P w K aT t L T, cDr d c] H → SqT K H pi ((asInts ids).map V.int) →
  R [o0, some (.ref d), some (.ref t), some (.int (x : Int)), some (.int (y : Int)), some (.int (z : Int)), some (.ref pm), some (.ref pi), some (.int (i : Int)), some (.int (T.lo i)), some (.int (T.hi i)), none, none, none, none, none, none, none, none, none, none, none, none, none] H
theorem law_mid {f : Addr} {cdv : Value} {A : Around} {outer : List Env} {s : Shared} {H : Hp} {E : XK} (hr8 : Room 8 (A.deeper (PyProof.Rows.envOfC "law" (defScope slaw) s.heap.objs.size f cdv))) (T : TxtM mg) (M : TmL P w K mg base aT) (cB : Calls P w K mg base CX0 1 "_law_begin" ["script"] (spBegin K)) (cT : Calls P w K mg base CX0 1 "_law_take" ["d", "many"] spTake) (cS : Calls P w K mg base CX0 2 "_law_signed" ["d", "most"] spSigned) (cI : Calls P w K mg base CX0 1 "_law_int" ["actual"] spInt) (cTP : Calls P w K mg base CX0 6 "_law_told" ["table", "ids", "index"] (spToldP P w K aT)) (cIx : Calls P w K mg base CX0 8 "_law_index" ["d", "table", "x", "y"] (spIndexL P w K aT)) : ∃ tt, PSs (cxOf CX0 P w K mg base nLw "law" (defScope slaw) f cdv A outer s H E).nox ((defBody slaw).drop 9) tt ∧ ∀ (Q : VK) (_q : ∀ H', Q (.bl true) H'), Go2 P w K aT (tt { nx := fun _ H' => Q V.non H', rt := Q }) := by
  obtain ⟨t3, h3, q3⟩ := law_end (cdv := cdv) (outer := outer) (H := H) (E := E) hr8 T M cB cT cS cI cTP cIx
  obtain ⟨fB, dB, GB, kB, bB, gB⟩ := cB.ex
  obtain ⟨fT, dT, GT, kT, bT, gT⟩ := cT.ex
  obtain ⟨fS, dS, GS, kS, bS, gS⟩ := cS.ex
  obtain ⟨fI, dI, GI, kI, bI, gI⟩ := cI.ex
  obtain ⟨fTP, dTP, GTP, kTP, bTP, gTP⟩ := cTP.ex
  obtain ⟨fIx, dIx, GIx, kIx, bIx, gIx⟩ := cIx.ex
  obtain ⟨fsp, dsp, msp, Gsp, bsp⟩ := M.sp
  obtain ⟨fnu, dnu, mnu, Gnu, bnu⟩ := M.nu
  obtain ⟨fva, dva, mva, Gva, bva⟩ := M.va
  obtain ⟨fvb, dvb, mvb, Gvb, bvb⟩ := M.vb
  obtain ⟨fmk, dmk, mmk, Gmk, bmk⟩ := M.mke
  obtain ⟨fIn, dIn, kMk, GIn, bIn⟩ := M.ini
  have gTm := M.gT
  have cT := M.c.c
  have hr1 : Room 1 _ := hr8.mono (by decide)
  have hr2 : Room 2 _ := hr8.mono (by decide)
  have hr3 : Room 3 _ := hr8.mono (by decide)
  have hr5 : Room 5 _ := hr8.mono (by decide)
  have hr6 : Room 6 _ := hr8.mono (by decide)
  have hr7 : Room 7 _ := hr8.mono (by decide)
  refine ⟨_, (pss_cons (ps_set (i := 11) scLw.nd rfl (.inl rfl) (pe_call GTP hr6 (by rfl) gTP kTP bTP .nil pass0 (pa_cons (pv 2) (pa_cons (pv 7) (pa_cons (pv 8) pa_nil)))))
      (pss_cons (ps_if (PW.pt (pw_or (pt_cmpR op_lt (pv 9) pe_int (nomark _)) (pw_or1 (pt_cmpR op_ge (pv 10) (pe_callB call_len_seq (by rfl) T.len PySem.boot_len (pa_cons (pv 7) pa_nil)) (nomark _))))) (pss_one (ps_ret (pe_cmpR op_isN (pv 11) pe_non (nomark _)))) pss_nil)
      (pss_cons (ps_if (PW.pt (pw_or (pt_cmpR op_isN (pv 11) pe_non (nomark _)) (pw_or1 (pt_not (pt_val (pe_call GI hr1 (by rfl) gI kI bI .nil pass0 (pa_cons (pv 11) pa_nil))))))) (pss_one (ps_ret pe_bl)) pss_nil)
      (pss_cons (ps_set (i := 12) scLw.nd rfl (.inl rfl) (pe_op op_catT (pe_op op_catT (pe_tup (pa_cons (pv 5) (pa_cons (pv 3) pa_nil))) (pv 7)) (pe_tup (pa_cons (pv 4) pa_nil))))
      (pss_cons (ps_if (pt_cmpR op_ne (pe_call GTP hr6 (by rfl) gTP kTP bTP .nil pass0 (pa_cons (pv 2) (pa_cons (pv 12) (pa_cons (pe_meth (pv 2) cT mmk Gmk hr7 bmk .nil pass0 (pa_cons pe_str (pa_cons (pe_tup (pa_cons (pv 8) (pa_cons (pe_meth (pv 2) cT mnu Gnu hr2 bnu .nil pass0 (pa_cons pe_int pa_nil)) pa_nil))) (pa_cons (pe_tup pa_nil) pa_nil)))) pa_nil)))) (pv 11) (nomark _)) (pss_one (ps_ret pe_bl)) pss_nil)
      (pss_cons (ps_set (i := 13) scLw.nd rfl (.inl rfl) (pe_meth (pv 2) cT mmk Gmk hr7 bmk .nil pass0 (pa_cons pe_str (pa_cons (pe_tup (pa_cons (pe_meth (pv 2) cT mnu Gnu hr2 bnu .nil pass0 (pa_cons (pe_op op_sub (pe_callB call_len_seq (by rfl) T.len PySem.boot_len (pa_cons (pv 7) pa_nil)) pe_int) pa_nil)) (pa_cons (pv 8) pa_nil))) (pa_cons (pe_tup pa_nil) pa_nil)))))
      (pss_cons (ps_if (pt_cmpR op_ne (pe_call GTP hr6 (by rfl) gTP kTP bTP .nil pass0 (pa_cons (pv 2) (pa_cons (pe_revT (pv 7)) (pa_cons (pv 13) pa_nil)))) (pv 11) (nomark _)) (pss_one (ps_ret pe_bl)) pss_nil)
      h3))))))), fun Q q o0 d c t pm pi L xl xh yh T8 ids i x y z H14 F S hpi => ?_⟩
  obtain ⟨A8, np8, li, lx8, ly8, lz8, inn8, lox8, loy8, bx, bY, hN7⟩ := F
  have al : ((asInts ids).map V.int).length = ids.length := by rw [List.length_map, asInts, List.length_map]
  refine ⟨_, rfl, _, rfl, _, rfl, t, pi, L, T8, ids, i, rfl, S.tabN, ⟨li, A8.inv.len⟩, hpi, by omega, fun out => ?_, fun nout => ?_⟩
  · refine ⟨_, rfl, _, _, rfl, rfl, _, rfl, ite2 (fun e => ?_) (fun e => ?_)⟩
    · exact ⟨_, rfl, rfl, q _⟩
    · refine ⟨_, rfl, _, rfl, pi, _, rfl, .inr hpi, _, _, rfl, rfl, _, rfl, iteTd (decide_eq_true ?_) ⟨_, rfl, rfl, q _⟩⟩
      rw [al]
      exact out.resolve_left fun z => e (decide_eq_true z)
  · have pk : Pk (Rho xl xh yh) T8 ids i := ⟨A8, np8, li, inn8, by omega, by omega, by omega⟩
    refine ⟨pk.res.1, fun H15 k15 tab15 => ?_⟩
    obtain ⟨S_, kt15⟩ := S.tabS k15 tab15
    clear S
    have S := S_
    clear S_
    replace hpi := sqT_kt hpi kt15
    have PR := pk.res.2
    have A9 := pk.lt
    clear k15 tab15 kt15
    refine ⟨_, rfl, _, _, rfl, rfl, _, rfl, iteFd (decide_eq_false (by omega)) ?_⟩
    refine ⟨_, rfl, _, rfl, pi, _, rfl, .inr hpi, _, _, rfl, rfl, _, rfl, iteFd (decide_eq_false (by rw [al]; omega)) ?_⟩
    refine ⟨_, rfl, rfl, _, rfl, iteFd (decide_eq_false (fun z => nomatch z)) ?_⟩
    refine ⟨_, rfl, _, rfl, _, rfl, iteFd rfl ?_⟩
    have idsne : (asInts ids).map V.int ≠ [] := fun e => by
      have e2 := congrArg List.length e
      rw [al] at e2
      exact absurd e2 (by show ids.length ≠ 0; omega)
    refine ⟨_, rfl, _, rfl, by show 2 ≤ sizeLine; decide, fun pa npa => ?_⟩
    have sa := same_upd (o := .tup [V.int (z : Int), .int (x : Int)]) npa
    have ha : SqT K (upd H15 pa (.tup [V.int (z : Int), .int (x : Int)])) pa [V.int (z : Int), .int (x : Int)] := SqT.of upd_same
    replace S := S.same sa
    replace hpi := sqT_same hpi sa
    generalize upd H15 pa (.tup [V.int (z : Int), .int (x : Int)]) = H16 at *
    refine ⟨_, rfl, pa, pi, _, _, rfl, rfl, ha, hpi, List.cons_ne_nil _ _, by rw [al]; show 2 + ids.length ≤ sizeLine; exact Nat.le_trans (show 2 + ids.length ≤ 9 by omega) (by decide), fun e => absurd e idsne, fun _ pb npb => ?_⟩
    have sb := same_upd (o := .tup ([V.int (z : Int), .int (x : Int)] ++ (asInts ids).map V.int)) npb
    have hb : SqT K (upd H16 pb (.tup ([V.int (z : Int), .int (x : Int)] ++ (asInts ids).map V.int))) pb ([V.int (z : Int), .int (x : Int)] ++ (asInts ids).map V.int) := SqT.of upd_same
    replace S := S.same sb
    replace hpi := sqT_same hpi sb
    clear ha sa npa
    generalize upd H16 pb (.tup ([V.int (z : Int), .int (x : Int)] ++ (asInts ids).map V.int)) = H17 at *
    refine ⟨_, rfl, by show 1 ≤ sizeLine; decide, fun pc npc => ?_⟩
    have sc := same_upd (o := .tup [V.int (y : Int)]) npc
    have hc : SqT K (upd H17 pc (.tup [V.int (y : Int)])) pc [V.int (y : Int)] := SqT.of upd_same
    replace S := S.same sc
    replace hpi := sqT_same hpi sc
    replace hb := sqT_same hb sc
    clear sb npb
    generalize upd H17 pc (.tup [V.int (y : Int)]) = H18 at *
    refine ⟨pb, pc, _, _, rfl, rfl, hb, hc, List.cons_ne_nil _ _, by rw [List.length_append, al]; show 2 + ids.length + 1 ≤ sizeLine; exact Nat.le_trans (show 2 + ids.length + 1 ≤ 10 by omega) (by decide), fun e => absurd e (List.cons_ne_nil _ _), fun _ pd npd => ?_⟩
    have epd : ([V.int (z : Int), .int (x : Int)] ++ (asInts ids).map V.int) ++ [V.int (y : Int)] = (asInts ([z, x] ++ ids ++ [y])).map V.int := by
      unfold asInts
      rw [List.map_append, List.map_append, List.map_append, List.map_append]
      rfl
    have sd := same_upd (o := .tup (([V.int (z : Int), .int (x : Int)] ++ (asInts ids).map V.int) ++ [V.int (y : Int)])) npd
    have hd : SqT K (upd H18 pd (.tup (([V.int (z : Int), .int (x : Int)] ++ (asInts ids).map V.int) ++ [V.int (y : Int)]))) pd ((asInts ([z, x] ++ ids ++ [y])).map V.int) := by
      rw [← epd]
      exact SqT.of upd_same
    replace S := S.same sd
    replace hpi := sqT_same hpi sd
    clear hb hc sc npc sd npd
    generalize upd H18 pd (.tup (([V.int (z : Int), .int (x : Int)] ++ (asInts ids).map V.int) ++ [V.int (y : Int)])) = H19 at *
    obtain ⟨⟨dx0, h1⟩, _⟩ := id S.tabN
    refine ⟨_, rfl, _, rfl, _, rfl, t, dx0, _, rfl, h1, rfl, _, rfl, _, rfl, t, dx0, _, rfl, h1, rfl, t, L, _, 2, rfl, S.tabN, wf_pl A9.wf, A9.wf.len, Nat.le_trans A9.few (by decide), fun H20 k20 tab20 => ?_⟩
    have r10 := A9.num (by decide) (n := 2) (by decide) (by decide) (by decide)
    obtain ⟨S_, kt20⟩ := S.tabS k20 tab20
    clear S
    have S := S_
    clear S_
    replace hpi := sqT_kt hpi kt20
    replace hd := sqT_kt hd kt20
    have A10 := A9.res r10
    have X10 := r10.ext
    have l10 := r10.lt
    have e10 := r10.sum _ rfl
    clear k20 tab20 h1 kt20
    generalize (numberT (pickT T8 ids i).1 2).2 = n2 at *
    generalize (numberT (pickT T8 ids i).1 2).1 = T10 at *
    have X810 : Ext T8 T10 := PR.ext.trans X10
    have li10 : i < T10.fs.length := Nat.lt_of_lt_of_le li X810.len
    refine ⟨by show 2 ≤ sizeLine; decide, fun q1 nq1 => ?_⟩
    refine ⟨by show 0 ≤ sizeLine; decide, fun q2 nq2 => ?_⟩
    have s3 := same_upd (o := .tup [V.int (i : Int), .int (n2 : Int)]) nq1
    have s4 := same_upd (o := .tup []) nq2
    replace S := (S.same s3).same s4
    replace hpi := sqT_same (sqT_same hpi s3) s4
    replace hd := sqT_same (sqT_same hd s3) s4
    have r11 := add_res A10.wf (by decide) (Nat.le_trans A10.few (by decide)) A10.inv (by decide) A10.mdi (.inl ⟨rfl, rfl⟩) li10 l10 (by rw [e10]; exact fun _ h => (nomatch h))
    refine ⟨t, q1, q2, L, T10, .add, [i, n2], _, rfl, A10.pre S (SqT.of (s4 _ _ upd_same)) (SqT.of upd_same) rfl trivial (fun u hu => by
      simp only [List.mem_cons, List.not_mem_nil, or_false] at hu
      rcases hu with rfl | rfl
      · exact li10
      · exact l10), Nat.le_trans A10.mdl (by decide), fun H21 k21 tab21 => ?_⟩
    obtain ⟨S_, kt21⟩ := S.tabS k21 tab21
    clear S
    have S := S_
    clear S_
    replace hpi := sqT_kt hpi kt21
    replace hd := sqT_kt hd kt21
    have A11 := A10.res r11
    have X11 := r11.ext
    have l11 := r11.lt
    have e11 := r11.sum _ rfl
    rw [e10, sumOf_ext X810 li] at e11
    clear k21 tab21 kt21 s3 s4 nq1 nq2
    generalize (makeT T10 .add [i, n2]).2 = i2 at *
    generalize (makeT T10 .add [i, n2]).1 = T11 at *
    have X911 := X10.trans X11
    obtain ⟨no2, pok2, pe2⟩ := pk.pad A11 (by decide) (by decide) (by decide) (by decide) X911 l11 e11 lx8 ly8 lz8
    refine ⟨t, pd, L, T11, [z, x] ++ ids ++ [y], i2, rfl, S.tabN, ⟨l11, A11.inv.len⟩, hd, ?_, fun out => absurd out no2, fun _ => ⟨pok2, fun H22 k22 tab22 => ?_⟩⟩
    · rw [List.length_append, List.length_append]
      show 2 + ids.length + 1 ≤ 900
      omega
    rw [pe2] at tab22 ⊢
    obtain ⟨S_, kt22⟩ := S.tabS k22 tab22
    clear S
    have S := S_
    clear S_
    replace hpi := sqT_kt hpi kt22
    clear k22 tab22 kt22 hd epd no2 pok2 pe2
    refine ⟨_, rfl, ?_⟩
    refine ⟨rfl, _, rfl, iteFd (by show (!decide (V.int _ = V.int _)) = false; rw [decide_eq_true rfl]; rfl) ?_⟩
    obtain ⟨⟨dx0, h1⟩, _⟩ := id S.tabN
    refine ⟨_, rfl, t, dx0, _, rfl, h1, rfl, _, rfl, t, dx0, _, rfl, h1, rfl, _, rfl, pi, _, rfl, .inr hpi, _, _, rfl, rfl, t, L, T11, _, rfl, S.tabN, wf_pl A11.wf, A11.wf.len, Nat.le_trans A11.few (by decide), fun H20 k20 tab20 => ?_⟩
    have r12 := A11.num (by decide) (n := (((asInts ids).map V.int).length : Int) - 1) (by omega) (by omega) (by decide)
    obtain ⟨S_, kt20⟩ := S.tabS k20 tab20
    clear S
    have S := S_
    clear S_
    replace hpi := sqT_kt hpi kt20
    have A12 := A11.res r12
    have X12 := r12.ext
    have l12 := r12.lt
    have e12 := r12.sum _ rfl
    clear k20 tab20 h1 kt20
    generalize (numberT T11 ((((asInts ids).map V.int).length : Int) - 1)).2 = n4 at *
    generalize (numberT T11 ((((asInts ids).map V.int).length : Int) - 1)).1 = T12 at *
    rw [al] at e12
    have X812 : Ext T8 T12 := (X810.trans X11).trans X12
    have li12 : i < T12.fs.length := Nat.lt_of_lt_of_le li X812.len
    refine ⟨_, rfl, by show 2 ≤ sizeLine; decide, fun q1 nq1 => ?_⟩
    refine ⟨by show 0 ≤ sizeLine; decide, fun q2 nq2 => ?_⟩
    have s3 := same_upd (o := .tup [V.int (n4 : Int), .int (i : Int)]) nq1
    have s4 := same_upd (o := .tup []) nq2
    replace S := (S.same s3).same s4
    replace hpi := sqT_same (sqT_same hpi s3) s4
    have r13 := add_res A12.wf (by decide) (Nat.le_trans A12.few (by decide)) A12.inv (by decide) A12.mdi (.inr ⟨rfl, rfl⟩) l12 li12 (by rw [e12]; exact fun _ _ _ h => (nomatch h))
    refine ⟨t, q1, q2, L, T12, .sub, [n4, i], _, rfl, A12.pre S (SqT.of (s4 _ _ upd_same)) (SqT.of upd_same) rfl trivial (fun u hu => by
      simp only [List.mem_cons, List.not_mem_nil, or_false] at hu
      rcases hu with rfl | rfl
      · exact l12
      · exact li12), Nat.le_trans A12.mdl (by decide), fun H21 k21 tab21 => ?_⟩
    obtain ⟨S_, kt21⟩ := S.tabS k21 tab21
    clear S
    have S := S_
    clear S_
    replace hpi := sqT_kt hpi kt21
    have A13 := A12.res r13
    have X13 := r13.ext
    have l13 := r13.lt
    have e13 := r13.sum _ rfl
    rw [e12, sumOf_ext X812 li] at e13
    clear k21 tab21 kt21 s3 s4 nq1 nq2
    generalize (makeT T12 .sub [n4, i]).2 = i3 at *
    generalize (makeT T12 .sub [n4, i]).1 = T13 at *
    have X913 := (X911.trans X12).trans X13
    obtain ⟨no3, pok3, pe3⟩ := pk.turn A13 (by decide) (by decide) (by decide) (by decide) X913 l13 e13
    refine ⟨_, rfl, _, rfl, pi, _, rfl, hpi, fun pr npr => ?_⟩
    have s5 := same_upd (o := .tup ((asInts ids).map V.int).reverse) npr
    have hr : SqT K (upd H21 pr (.tup ((asInts ids).map V.int).reverse)) pr ((asInts ids.reverse).map V.int) := by
      have e : ((asInts ids).map V.int).reverse = (asInts ids.reverse).map V.int := by
        unfold asInts
        rw [List.map_reverse, List.map_reverse]
      rw [← e]
      exact SqT.of upd_same
    replace S := S.same s5
    replace hpi := sqT_same hpi s5
    generalize upd H21 pr (.tup ((asInts ids).map V.int).reverse) = H22 at *
    refine ⟨_, rfl, t, pr, L, T13, ids.reverse, i3, rfl, S.tabN, ⟨l13, A13.inv.len⟩, hr, by rw [List.length_reverse]; omega, fun out => absurd out no3, fun _ => ⟨pok3, fun H23 k23 tab23 => ?_⟩⟩
    rw [pe3] at tab23 ⊢
    obtain ⟨S_, kt23⟩ := S.tabS k23 tab23
    clear S
    have S := S_
    clear S_
    replace hpi := sqT_kt hpi kt23
    clear k23 tab23 kt23 hr s5 npr no3 pok3 pe3
    refine ⟨_, rfl, rfl, _, rfl, iteFd (by show (!decide (V.int _ = V.int _)) = false; rw [decide_eq_true rfl]; rfl) ?_⟩
    have X8 : Ext T8 T13 := PR.ext.trans X913
    have h0 := pk.h0
    have h1' := pk.h1
    have hle := (A8.inv.can i li).le
    obtain ⟨lw, elw⟩ : ∃ lw : Nat, T8.lo i = (lw : Int) := ⟨(T8.lo i).toNat, by omega⟩
    obtain ⟨hg, ehg⟩ : ∃ hg : Nat, T8.hi i = (hg : Int) := ⟨(T8.hi i).toNat, by omega⟩
    have G : L13 xl xh yh T8 T13 ids i x y (pickT T8 ids i).2 lw hg :=
      { a := A13.mono (by decide) (by decide) (by decide) (by decide)
        lf := Nat.lt_of_lt_of_le PR.lt X913.len
        lx := Nat.lt_of_lt_of_le lx8 X8.len
        ly := Nat.lt_of_lt_of_le ly8 X8.len
        li := Nat.lt_of_lt_of_le li X8.len
        lox := ⟨by rw [X8.lo (by rw [A8.inv.len]; exact lx8)]; exact lox8.1, by rw [X8.hi (by rw [A8.inv.len]; exact lx8)]; exact lox8.2⟩
        loy := ⟨by rw [X8.lo (by rw [A8.inv.len]; exact ly8)]; exact loy8.1, by rw [X8.hi (by rw [A8.inv.len]; exact ly8)]; exact loy8.2⟩
        bx := bx
        bY := bY
        inn := fun j hj => Nat.lt_of_lt_of_le (inn8 j hj) X8.len
        l7 := hN7.2
        lh := by omega
        iv := fun m m' h => by
          rw [X913.lo (by rw [A9.inv.len]; exact PR.lt), X913.hi (by rw [A9.inv.len]; exact PR.lt)]
          refine PR.iv np8 m m' fun k k1 k2 => ?_
          have hk : k < ids.length := by omega
          have mm := inn8 _ (getD_mem hk)
          have := h k (by omega) (by omega)
          rw [X8.lo (by rw [A8.inv.len]; exact mm), X8.hi (by rw [A8.inv.len]; exact mm)] at this
          exact this
        val := PR.val T13 X913 }
    have q4 := q3 Q q o0 (some (.ref pd)) (some (.int (i3 : Int))) d c t pm pi L xl xh yh T8 T13 ids i x y z (pickT T8 ids i).2 lw hg _ G S hpi
    rw [← elw, ← ehg] at q4
    exact q4
end

section
variable {P : Program} {w : World} {K : PySem.W.Frag} {mg : Str → Option Value} {base : Heap} {aT : Addr}
theorem new_tab {H H2 : Hp} {t dx : Addr} {o1 o2 : HO} (nt : H t = none) (ndx : H dx = none) (k : Keep [t] (upd (upd H dx o1) t o2) H2) : Same H H2 := fun b o e => by
  have bt : b ≠ t := fun z => by rw [z, nt] at e; cases e
  have bd : b ≠ dx := fun z => by rw [z, ndx] at e; cases e
  exact k b o (fun m => bt (List.mem_singleton.mp m)) (by rw [upd_ne bt, upd_ne bd]; exact e)
theorem new_fr {H : Hp} {t dx : Addr} {o1 o2 : HO} {L : Own} (nt : H t = none) (fr : ∀ b ∈ L.l, upd (upd H dx o1) t o2 b = none) : ∀ b ∈ t :: L.l, H b = none := fun b hb => by
  rcases List.mem_cons.mp hb with rfl | hb
  · exact nt
  · have e := fr b hb
    have bt : b ≠ t := fun z => by rw [z, upd_same] at e; cases e
    rw [upd_ne bt] at e
    have bd : b ≠ dx := fun z => by rw [z, upd_same] at e; cases e
    rw [upd_ne bd] at e
    exact e

def spLaw (K : PySem.W.Frag) : Sp := fun vs H Q _ => ∃ (a : Addr) (ns : List Int), vs = [.ref a] ∧ SqL K H a (ns.map V.int) ∧ ns.length ≤ 63 ∧ ∀ H', Q (.bl true) H'
theorem ok_law {f : Addr} {fd : FuncData} (F : Fun K "law" "law" slaw f fd) (T : TxtM mg) (M : TmL P w K mg base aT) (cB : Calls P w K mg base CX0 1 "_law_begin" ["script"] (spBegin K)) (cT : Calls P w K mg base CX0 1 "_law_take" ["d", "many"] spTake) (cS : Calls P w K mg base CX0 2 "_law_signed" ["d", "most"] spSigned) (cI : Calls P w K mg base CX0 1 "_law_int" ["actual"] spInt) (cTP : Calls P w K mg base CX0 6 "_law_told" ["table", "ids", "index"] (spToldP P w K aT)) (cIx : Calls P w K mg base CX0 8 "_law_index" ["d", "table", "x", "y"] (spIndexL P w K aT)) : FnOk P w K mg base CX0 9 f fd ["script"] (spLaw K) := by
  refine F.ok scLw (fun vs H Q E h => ?_) (fun cdv A outer s H vs Q E hr8 h => ?_)
  · obtain ⟨_, _, rfl, _⟩ := h
    rfl
  · obtain ⟨t2, hmid, qmid⟩ := law_mid (cdv := cdv) (outer := outer) (H := H) (E := E) hr8 T M cB cT cS cI cTP cIx
    obtain ⟨fB, dB, GB, kB, bB, gB⟩ := cB.ex
    obtain ⟨fT, dT, GT, kT, bT, gT⟩ := cT.ex
    obtain ⟨fS, dS, GS, kS, bS, gS⟩ := cS.ex
    obtain ⟨fI, dI, GI, kI, bI, gI⟩ := cI.ex
    obtain ⟨fTP, dTP, GTP, kTP, bTP, gTP⟩ := cTP.ex
    obtain ⟨fIx, dIx, GIx, kIx, bIx, gIx⟩ := cIx.ex
    obtain ⟨fsp, dsp, msp, Gsp, bsp⟩ := M.sp
    obtain ⟨fnu, dnu, mnu, Gnu, bnu⟩ := M.nu
    obtain ⟨fva, dva, mva, Gva, bva⟩ := M.va
    obtain ⟨fvb, dvb, mvb, Gvb, bvb⟩ := M.vb
    obtain ⟨fmk, dmk, mmk, Gmk, bmk⟩ := M.mke
    obtain ⟨fIn, dIn, kMk, GIn, bIn⟩ := M.ini
    have gTm := M.gT
    have cT := M.c.c
    have hr1 : Room 1 _ := hr8.mono (by decide)
    have hr2 : Room 2 _ := hr8.mono (by decide)
    have hr3 : Room 3 _ := hr8.mono (by decide)
    have hr5 : Room 5 _ := hr8.mono (by decide)
    have hr6 : Room 6 _ := hr8.mono (by decide)
    have hr7 : Room 7 _ := hr8.mono (by decide)
    obtain ⟨a, ns, rfl, hS, hlen, q⟩ := h
    refine ⟨_, (pss_cons (ps_set (i := 1) scLw.nd rfl (.inr rfl) (pe_call GB hr1 (by rfl) gB kB bB .nil pass0 (pa_cons (pv 0) pa_nil)))
      (pss_cons (ps_set (i := 2) scLw.nd rfl (.inr rfl) (pe_make0 kMk GIn hr2 (by rfl) gTm bIn .nil pass0))
      (pss_cons (ps_set (i := 3) scLw.nd rfl (.inl rfl) (pe_meth (pv 2) cT mvb Gvb hr3 bvb .nil pass0 (pa_cons (pe_tup (pa_cons pe_int pa_nil)) (pa_cons (pe_op op_sub pe_int (pe_call GT hr1 (by rfl) gT kT bT .nil pass0 (pa_cons (pv 1) (pa_cons pe_int pa_nil)))) (pa_cons (pe_op op_add pe_int (pe_call GT hr1 (by rfl) gT kT bT .nil pass0 (pa_cons (pv 1) (pa_cons pe_int pa_nil)))) pa_nil)))))
      (pss_cons (ps_set (i := 4) scLw.nd rfl (.inl rfl) (pe_meth (pv 2) cT mvb Gvb hr3 bvb .nil pass0 (pa_cons (pe_tup (pa_cons pe_int pa_nil)) (pa_cons pe_int (pa_cons (pe_op op_add pe_int (pe_call GT hr1 (by rfl) gT kT bT .nil pass0 (pa_cons (pv 1) (pa_cons pe_int pa_nil)))) pa_nil)))))
      (pss_cons (ps_set (i := 5) scLw.nd rfl (.inl rfl) (pe_meth (pv 2) cT mvb Gvb hr3 bvb .nil pass0 (pa_cons (pe_tup (pa_cons pe_int pa_nil)) (pa_cons (pe_op op_sub pe_int pe_int) (pa_cons pe_int pa_nil)))))
      (pss_cons (ps_set (i := 6) scLw.nd rfl (.inr rfl) (pe_lst (pa_cons (pv 3) (pa_cons (pv 4) (pa_cons (pv 5) (pa_cons (pe_meth (pv 2) cT mnu Gnu hr2 bnu .nil pass0 (pa_cons pe_int pa_nil)) (pa_cons (pe_meth (pv 2) cT mmk Gmk hr7 bmk .nil pass0 (pa_cons pe_str (pa_cons (pe_tup (pa_cons (pv 5) (pa_cons (pv 5) pa_nil))) (pa_cons (pe_tup pa_nil) pa_nil)))) (pa_cons (pe_meth (pv 2) cT mmk Gmk hr7 bmk .nil pass0 (pa_cons pe_str (pa_cons (pe_tup (pa_cons (pv 5) (pa_cons (pe_meth (pv 2) cT mnu Gnu hr2 bnu .nil pass0 (pa_cons pe_int pa_nil)) pa_nil))) (pa_cons (pe_tup pa_nil) pa_nil)))) pa_nil))))))))
      (pss_cons (ps_set (i := 7) scLw.nd rfl (.inl rfl) (pe_callTy call_tuple_of (by rfl) T.tuple (by decide +kernel) (pa_cons (pe_lc (own := [("k", 22)]) (g := (gName 22)) (tt := tYes) (te := (tOp (rIxL K) (tVar 6) (tCall spTake [] E0 (tCons (tVar 1) (tCons (tC (.int 6)) tNil))))) rfl scLw.nd (pi_range1 rfl T.range (pa_cons (pe_op op_add pe_int (pe_call GT hr1 (by rfl) gT kT bT .nil pass0 (pa_cons (pv 1) (pa_cons pe_int pa_nil)))) pa_nil)) (blkOk_by (N := nLw) (sc := defScope slaw) (by decide +kernel)) (fun _ _ _ _ _ => (pg_name (i := 22) scLw.nd rfl (.inl rfl) (hf := Or.inr rfl))) (fun _ _ _ _ _ => pts_nil) (fun _ _ _ _ _ => (pe_ix ix_list (pv 6) (pe_call GT hr1 (by rfl) gT kT bT .nil pass0 (pa_cons (pv 1) (pa_cons pe_int pa_nil))) (fun _ _ => rfl)))) pa_nil)))
      (pss_cons (ps_set (i := 8) scLw.nd rfl (.inl rfl) (pe_call GIx hr8 (by rfl) gIx kIx bIx .nil pass0 (pa_cons (pv 1) (pa_cons (pv 2) (pa_cons (pv 3) (pa_cons (pv 4) pa_nil))))))
      (pss_cons (ps_asg (pe_meth (pv 2) cT msp Gsp hr1 bsp .nil pass0 (pa_cons (pv 8) pa_nil)) (pg_tup rfl (pgs_cons (pg_name (i := 9) scLw.nd rfl (.inl rfl)) (pgs_cons (pg_name (i := 10) scLw.nd rfl (.inl rfl)) pgs_nil))))
      hmid))))))))), ?_⟩
    refine ⟨_, rfl, a, ns, rfl, hS, hlen, fun H1 d c sm1 nd nc dr1 => ?_⟩
    refine fun t dx nt ndx ne => ⟨t, dx, rfl, upd_same, fun H2 L frL kt2 _ hT => ⟨rfl, ?_⟩⟩
    have s2 := new_tab nt ndx kt2
    have f2 := new_fr nt frL
    have S0 := (Sep.nil H).grow sm1 (cDr d c) (fun b hb => by
      rcases List.mem_cons.mp hb with rfl | hb
      · exact nd
      · rw [List.mem_singleton.mp hb]
        exact nc) dr1
    have S := S0.grow s2 (cTab P w K aT t L emptyT) f2 hT
    clear S0 kt2 frL f2 s2 nt ndx ne dr1 sm1 nd nc hT
    obtain ⟨⟨dx0, h1⟩, _⟩ := id S.tabN
    refine ⟨_, rfl, t, dx0, _, rfl, h1, rfl, ?_⟩
    refine ⟨by show 1 ≤ sizeLine; decide, fun p0 np0 => ?_⟩
    have s1 := same_upd (o := .tup [V.int 0]) np0
    have hp : upd H2 p0 (.tup [V.int 0]) p0 = some (.tup [V.int 0]) := upd_same
    replace S := S.same s1
    refine ⟨_, rfl, d, c, 2, rfl, S.drN, by decide, bnd_le (by decide), fun H3 v1 k3 dr3 a0 a1 => ⟨_, _, rfl, rfl, ?_⟩⟩
    obtain ⟨S_, kt3⟩ := S.drS k3 dr3
    clear S
    have S := S_
    clear S_
    refine ⟨_, rfl, d, c, 2, rfl, S.drN, by decide, bnd_le (by decide), fun H4 v2 k4 dr4 b0 b1 => ⟨_, _, rfl, rfl, ?_⟩⟩
    obtain ⟨S_, kt4⟩ := S.drS k4 dr4
    clear S
    have S := S_
    clear S_
    have hp : H4 p0 = some (.tup [V.int 0]) := kt4 p0 (.tup [V.int 0]) trivial (kt3 p0 (.tup [V.int 0]) trivial hp)
    refine ⟨t, p0, L, emptyT, k1 0, 0 - v1, 1 + v2, rfl, S.tabN, key1_of hp, k1_depth 0, by omega, fun e h => (nomatch h), fun g h => (nomatch h), rfl, Nat.zero_le _, Nat.zero_le _, fun H5 k5 tab5 => ?_⟩
    obtain ⟨A1, V1, np1, X1, l1, f1, lo1, hi1, vr1⟩ := var_ltN empty_lt (n := 0) (k := 0) rfl empty_vs (fun h => (nomatch h)) empty_np (lo := 0 - v1) (hi := 1 + v2) (by omega) (by omega) (by omega) (by decide) (by decide) (.inl rfl)
    obtain ⟨S_, _⟩ := S.tabS k5 tab5
    clear S
    have S := S_
    clear S_
    obtain ⟨xl, exl⟩ : ∃ xl : Int, xl = 0 - v1 := ⟨_, rfl⟩
    obtain ⟨xh, exh⟩ : ∃ xh : Int, xh = 1 + v2 := ⟨_, rfl⟩
    rw [← exl, ← exh] at A1 V1 np1 X1 l1 f1 lo1 hi1 vr1 S ⊢
    have bx : -1 ≤ xl ∧ xl ≤ 0 ∧ 1 ≤ xh ∧ xh ≤ 2 := by omega
    clear k5 tab5 k3 dr3 k4 dr4 kt3 kt4 hp s1 np0 a0 a1 b0 b1 exl exh h1
    generalize (varT emptyT (k1 0) xl xh).2 = x at *
    generalize (varT emptyT (k1 0) xl xh).1 = T1 at *
    obtain ⟨⟨dx0, h1⟩, _⟩ := id S.tabN
    refine ⟨_, rfl, t, dx0, _, rfl, h1, rfl, ?_⟩
    refine ⟨by show 1 ≤ sizeLine; decide, fun p0 np0 => ?_⟩
    have s1 := same_upd (o := .tup [V.int 1]) np0
    have hp : upd H5 p0 (.tup [V.int 1]) p0 = some (.tup [V.int 1]) := upd_same
    replace S := S.same s1
    refine ⟨_, rfl, d, c, 2, rfl, S.drN, by decide, bnd_le (by decide), fun H3 v1 k3 dr3 a0 a1 => ⟨_, _, rfl, rfl, ?_⟩⟩
    obtain ⟨S_, kt3⟩ := S.drS k3 dr3
    clear S
    have S := S_
    clear S_
    have hp : H3 p0 = some (.tup [V.int 1]) := kt3 p0 (.tup [V.int 1]) trivial hp
    refine ⟨t, p0, L, T1, k1 1, 0, 1 + v1, rfl, S.tabN, key1_of hp, k1_depth 1, by omega, V1.fresh, wf_pl A1.wf, A1.wf.len, Nat.le_trans A1.few (by decide), Nat.le_trans V1.1 (by decide), fun H4 k4 tab4 => ?_⟩
    obtain ⟨A2, V2, np2, X2, l2, f2, lo2, hi2, vr2⟩ := var_ltN A1 (n := 1) (k := 1) rfl V1 (fun h => by
      rcases vr1 _ h with z | z
      · cases z
      · exact absurd (k1_inj (congrArg keyD z)) (by decide)) np1 (lo := 0) (hi := 1 + v1) (by omega) (by omega) (by omega) (by decide) (by decide) (.inr (.inl rfl))
    obtain ⟨S_, _⟩ := S.tabS k4 tab4
    clear S
    have S := S_
    clear S_
    obtain ⟨yh, eyh⟩ : ∃ yh : Int, yh = 1 + v1 := ⟨_, rfl⟩
    rw [← eyh] at A2 V2 np2 X2 l2 f2 lo2 hi2 vr2 S ⊢
    have bY : 1 ≤ yh ∧ yh ≤ 2 := by omega
    clear k4 tab4 k3 dr3 kt3 hp s1 np0 a0 a1 eyh h1
    generalize (varT T1 (k1 1) 0 yh).2 = y at *
    generalize (varT T1 (k1 1) 0 yh).1 = T2 at *
    obtain ⟨⟨dx0, h1⟩, _⟩ := id S.tabN
    refine ⟨_, rfl, t, dx0, _, rfl, h1, rfl, ?_⟩
    refine ⟨by show 1 ≤ sizeLine; decide, fun p0 np0 => ?_⟩
    have s1 := same_upd (o := .tup [V.int 2]) np0
    have hp : upd H4 p0 (.tup [V.int 2]) p0 = some (.tup [V.int 2]) := upd_same
    replace S := S.same s1
    refine ⟨_, _, rfl, rfl, ?_⟩
    refine ⟨t, p0, L, T2, k1 2, 0 - 40, 40, rfl, S.tabN, key1_of hp, k1_depth 2, by decide, V2.fresh, wf_pl A2.wf, A2.wf.len, Nat.le_trans A2.few (by decide), Nat.le_trans V2.1 (by decide), fun H5 k5 tab5 => ?_⟩
    obtain ⟨A3, V3, np3, X3, l3, f3, lo3, hi3, vr3⟩ := var_ltN A2 (n := 2) (k := 2) rfl V2 (fun h => by
      rcases vr2 _ h with z | z
      · rcases vr1 _ z with z | z
        · cases z
        · exact absurd (k1_inj (congrArg keyD z)) (by decide)
      · exact absurd (k1_inj (congrArg keyD z)) (by decide)) np2 (lo := 0 - 40) (hi := 40) (by decide) (by decide) (by decide) (by decide) (by decide) (.inr (.inr rfl))
    obtain ⟨S_, _⟩ := S.tabS k5 tab5
    clear S
    have S := S_
    clear S_
    clear k5 tab5 hp s1 np0 h1
    generalize (varT T2 (k1 2) (0 - 40) 40).2 = z at *
    generalize (varT T2 (k1 2) (0 - 40) 40).1 = T3 at *
    refine ⟨_, rfl, _, rfl, _, rfl, ?_⟩
    obtain ⟨⟨dx0, h1⟩, _⟩ := id S.tabN
    refine ⟨_, rfl, t, dx0, _, rfl, h1, rfl, t, L, T3, 7, rfl, S.tabN, wf_pl A3.wf, A3.wf.len, Nat.le_trans A3.few (by decide), fun H6 k6 tab6 => ?_⟩
    have r4 := A3.num (by decide) (n := 7) (by decide) (by decide) (by decide)
    obtain ⟨S_, _⟩ := S.tabS k6 tab6
    clear S
    have S := S_
    clear S_
    have A4 := A3.res r4
    have np4 := np3.res r4
    have X4 := r4.ext
    have l4 := r4.lt
    clear k6 tab6 h1
    generalize (numberT T3 7).2 = n7 at *
    generalize (numberT T3 7).1 = T4 at *
    have l34 : z < T4.fs.length := Nat.lt_of_lt_of_le l3 X4.len
    have f34 : T4.fm z = .var (k1 2) := by rw [X4.fm l3]; exact f3
    have lo34 : T4.lo z = -40 := by rw [X4.lo (by rw [A3.inv.len]; exact l3)]; exact lo3
    have hi34 : T4.hi z = 40 := by rw [X4.hi (by rw [A3.inv.len]; exact l3)]; exact hi3
    obtain ⟨⟨dx0, h1⟩, _⟩ := id S.tabN
    refine ⟨_, rfl, t, dx0, _, rfl, h1, rfl, ?_⟩
    refine ⟨_, rfl, _, rfl, by show 2 ≤ sizeLine; decide, fun q1 nq1 => ?_⟩
    refine ⟨by show 0 ≤ sizeLine; decide, fun q2 nq2 => ?_⟩
    have s3 := same_upd (o := .tup [V.int (z : Int), .int (z : Int)]) nq1
    have s4 := same_upd (o := .tup []) nq2
    have S := (S.same s3).same s4
    have ecn : lst (corn (-40) 40 (-40) 40) = -1600 ∧ grt (corn (-40) 40 (-40) 40) = 1600 := by decide
    have r5 := mulu_res (B' := 2000) A4.wf (by decide) (Nat.le_trans A4.few (by decide)) A4.inv (by decide) (by decide) A4.mdi l34 (by rw [f34]; trivial) (by rw [lo34, hi34]; decide) (by rw [lo34, hi34, ecn.1, ecn.2]; decide) (by rw [lo34, hi34, ecn.1]; decide) (by rw [lo34, hi34, ecn.2]; decide)
    refine ⟨t, q1, q2, L, T4, .mul, [z, z], _, rfl, A4.pre S (SqT.of (s4 _ _ upd_same)) (SqT.of upd_same) rfl trivial (fun i hi => by
      simp only [List.mem_cons, List.not_mem_nil, or_false, or_self] at hi
      rw [hi]
      exact l34), Nat.le_trans A4.mdl (by decide), fun H7 k7 tab7 => ?_⟩
    obtain ⟨S_, _⟩ := S.tabS k7 tab7
    clear S
    have S := S_
    clear S_
    have A5 := A4.res r5
    have np5 := np4.res r5
    have X5 := r5.ext
    have l5 := r5.lt
    clear k7 tab7 s3 s4 nq1 nq2 h1 ecn lo34 hi34
    generalize (makeT T4 .mul [z, z]).2 = zz at *
    generalize (makeT T4 .mul [z, z]).1 = T5 at *
    obtain ⟨⟨dx0, h1⟩, _⟩ := id S.tabN
    refine ⟨_, rfl, t, dx0, _, rfl, h1, rfl, _, rfl, _, rfl, t, dx0, _, rfl, h1, rfl, t, L, T5, 3, rfl, S.tabN, wf_pl A5.wf, A5.wf.len, Nat.le_trans A5.few (by decide), fun H8 k8 tab8 => ?_⟩
    have r6 := A5.num (by decide) (n := 3) (by decide) (by decide) (by decide)
    obtain ⟨S_, _⟩ := S.tabS k8 tab8
    clear S
    have S := S_
    clear S_
    have A6 := A5.res r6
    have np6 := np5.res r6
    have X6 := r6.ext
    have l6 := r6.lt
    have e6 := r6.sum _ rfl
    clear k8 tab8 h1
    generalize (numberT T5 3).2 = n3 at *
    generalize (numberT T5 3).1 = T6 at *
    have l36 : z < T6.fs.length := Nat.lt_of_lt_of_le l34 (X5.trans X6).len
    refine ⟨by show 2 ≤ sizeLine; decide, fun q1 nq1 => ?_⟩
    refine ⟨by show 0 ≤ sizeLine; decide, fun q2 nq2 => ?_⟩
    have s3 := same_upd (o := .tup [V.int (z : Int), .int (n3 : Int)]) nq1
    have s4 := same_upd (o := .tup []) nq2
    have S := (S.same s3).same s4
    have r7 := add_res A6.wf (by decide) (Nat.le_trans A6.few (by decide)) A6.inv (by decide) A6.mdi (.inl ⟨rfl, rfl⟩) l36 l6 (by rw [e6]; exact fun _ h => (nomatch h))
    refine ⟨t, q1, q2, L, T6, .add, [z, n3], _, rfl, A6.pre S (SqT.of (s4 _ _ upd_same)) (SqT.of upd_same) rfl trivial (fun i hi => by
      simp only [List.mem_cons, List.not_mem_nil, or_false] at hi
      rcases hi with rfl | rfl
      · exact l36
      · exact l6), Nat.le_trans A6.mdl (by decide), fun H9 k9 tab9 => ?_⟩
    obtain ⟨S_, _⟩ := S.tabS k9 tab9
    clear S
    have S := S_
    clear S_
    have A7 := A6.res r7
    have np7 := np6.res r7
    have X7 := r7.ext
    have l7 := r7.lt
    clear k9 tab9 s3 s4 nq1 nq2 e6
    generalize (makeT T6 .add [z, n3]).2 = z3 at *
    generalize (makeT T6 .add [z, n3]).1 = T7 at *
    have X37 : Ext T3 T7 := ((X4.trans X5).trans X6).trans X7
    have X27 : Ext T2 T7 := X3.trans X37
    have X17 : Ext T1 T7 := X2.trans X27
    have lx : x < T7.fs.length := Nat.lt_of_lt_of_le l1 X17.len
    have ly : y < T7.fs.length := Nat.lt_of_lt_of_le l2 X27.len
    have lz : z < T7.fs.length := Nat.lt_of_lt_of_le l3 X37.len
    have ln : n7 < T7.fs.length := Nat.lt_of_lt_of_le l4 ((X5.trans X6).trans X7).len
    have lzz : zz < T7.fs.length := Nat.lt_of_lt_of_le l5 (X6.trans X7).len
    have fx : T7.fm x = .var (k1 0) := by rw [X17.fm l1]; exact f1
    have fy : T7.fm y = .var (k1 1) := by rw [X27.fm l2]; exact f2
    have lox : T7.lo x = xl ∧ T7.hi x = xh := ⟨by rw [X17.lo (by rw [A1.inv.len]; exact l1)]; exact lo1, by rw [X17.hi (by rw [A1.inv.len]; exact l1)]; exact hi1⟩
    have loy : T7.lo y = 0 ∧ T7.hi y = yh := ⟨by rw [X27.lo (by rw [A2.inv.len]; exact l2)]; exact lo2, by rw [X27.hi (by rw [A2.inv.len]; exact l2)]; exact hi2⟩
    have xy : x ≠ y := fun e => by
      rw [e, fy] at fx
      exact absurd (k1_inj (congrArg keyD (Fm.var.inj fx))) (by decide)
    clear A1 V1 np1 X1 l1 f1 lo1 hi1 vr1 A2 V2 np2 X2 l2 f2 lo2 hi2 vr2 A3 V3 np3 X3 l3 f3 lo3 hi3 vr3 A4 A5 A6 np4 np5 np6 X4 X5 X6 X7 X37 X27 X17 l34 l36 f34 r4 r5 r6 r7 l4 l5 l6
    refine ⟨by show 6 ≤ sizeLine; decide, fun pm npm => ?_⟩
    replace S := Sep.growE S (same_upd npm) (cLst pm ((asInts [x, y, z, n7, zz, z3]).map V.int)) (fun b hb => by rw [List.mem_singleton.mp hb]; exact npm) upd_same
    clear npm
    have Spm : ∀ {cs : List Cell} {H : Hp}, Sep (cTab P w K aT t L T7 :: cDr d c :: cLst pm ((asInts [x, y, z, n7, zz, z3]).map V.int) :: cs) H → H pm = some (.lst ((asInts [x, y, z, n7, zz, z3]).map V.int)) := fun S => S.at_ 2 _ rfl
    refine ⟨_, rfl, d, c, 7, rfl, S.drN, by decide, bnd_le (by decide), fun H10 u k10 dr10 u0 u1 => ⟨_, _, rfl, rfl, ?_⟩⟩
    obtain ⟨S_, _⟩ := S.drS k10 dr10
    clear S
    have S := S_
    clear S_
    obtain ⟨N, hN⟩ : ∃ N : Nat, 1 + u = (N : Int) := ⟨(1 + u).toNat, by omega⟩
    have hN7 : 1 ≤ N ∧ N ≤ 7 := by omega
    clear k10 dr10 u0 u1
    refine ⟨(N : Int), by show [V.int (1 + u)] = _; rw [hN], by omega, by omega, fun D nD => lc_range (lo := 0) (n := N) (fun m H' => ∃ ids : List Nat, ids.length = m ∧ (∀ j ∈ ids, j ∈ [x, y, z, n7, zz, z3]) ∧ Sep [cTab P w K aT t L T7, cDr d c, cLst pm ((asInts [x, y, z, n7, zz, z3]).map V.int), cLst D ((asInts ids).map V.int)] H')
      ⟨[], rfl, fun j h => (nomatch h), Sep.growE S (same_upd nD) (cLst D []) (fun b hb => by rw [List.mem_singleton.mp hb]; exact nD) upd_same⟩ ?_ ?_⟩
    · clear S
      rintro m H' hm ⟨ids, il, im, S⟩
      refine ⟨rfl, ?_⟩
      unfold tYes
      dsimp only
      rw [if_pos rfl]
      refine ⟨_, rfl, _, rfl, d, c, 6, rfl, S.drN, by decide, bnd_le (by decide), fun H11 v k11 dr11 v0 v1 => ?_⟩
      obtain ⟨S_, _⟩ := S.drS k11 dr11
      clear S
      have S := S_
      clear S_
      obtain ⟨n, rfl⟩ : ∃ n : Nat, v = (n : Int) := ⟨v.toNat, by omega⟩
      have hn : n < [x, y, z, n7, zz, z3].length := by show n < 6; omega
      refine ⟨pm, _, n, _, rfl, rfl, SqL.of (Spm S), at_ids hn, ?_⟩
      have hD : H11 D = some (.lst ((asInts ids).map V.int)) := S.at_ 3 _ rfl
      have S' := S.step 3 (c' := cLst D ((asInts (ids ++ [[x, y, z, n7, zz, z3].getD n 0])).map V.int)) rfl rfl (keep_upd (o := .lst ((asInts (ids ++ [[x, y, z, n7, zz, z3].getD n 0])).map V.int))) upd_same
      rw [← asInts_snoc] at S'
      refine ⟨_, hD, ?_, ids ++ [[x, y, z, n7, zz, z3].getD n 0], by rw [List.length_append, il]; rfl, fun j hj => ?_, ?_⟩
      · rw [List.length_map, asInts, List.length_map, il]
        exact Nat.lt_of_lt_of_le hm (Nat.le_trans hN7.2 (by decide))
      · rcases List.mem_append.mp hj with hj | hj
        · exact im j hj
        · rw [List.mem_singleton.mp hj]
          exact getD_mem hn
      · rw [← asInts_snoc]
        exact S'
    · rintro H12 ⟨ids, il, im, S⟩
      have hD : H12 D = some (.lst ((asInts ids).map V.int)) := S.at_ 3 _ rfl
      refine ⟨D, _, rfl, .inl ⟨SqL.of hD, fun pi npi => ?_⟩⟩
      have s13 := same_upd (o := .tup ((asInts ids).map V.int)) npi
      have hpi : SqT K (upd H12 pi (.tup ((asInts ids).map V.int))) pi ((asInts ids).map V.int) := SqT.of upd_same
      replace S : Sep [cTab P w K aT t L T7, cDr d c] (upd H12 pi (.tup ((asInts ids).map V.int))) := Sep.pre (cs := [cTab P w K aT t L T7, cDr d c]) (ds := [cLst pm ((asInts [x, y, z, n7, zz, z3]).map V.int), cLst D ((asInts ids).map V.int)]) (S.same s13)
      generalize upd H12 pi (.tup ((asInts ids).map V.int)) = H13 at *
      have inn : ∀ j ∈ ids, j < T7.fs.length := fun j hj => by
        have := im j hj
        simp only [List.mem_cons, List.not_mem_nil, or_false] at this
        rcases this with rfl | rfl | rfl | rfl | rfl | rfl <;> assumption
      clear Spm hD s13 npi nD hN im
      refine ⟨_, rfl, _, rfl, _, rfl, _, rfl, d, c, t, L, T7, x, y, _, rfl, S, A7.mono (by decide) (by decide) (by decide) (by decide), np7, lx, ly, by rw [fx]; trivial, by rw [fy]; trivial, xy, fun H14 T8 i k14 S8 A8 np8 X8 li => ?_⟩
      have hpi := sqT_kt hpi (S.step2 0 1 (c' := cTab P w K aT t L T8) (d' := cDr d c) rfl rfl rfl rfl k14 S8.tabN S8.drN).2
      replace S := S8
      clear S8 k14
      have lx8 := Nat.lt_of_lt_of_le lx X8.len
      have ly8 := Nat.lt_of_lt_of_le ly X8.len
      have lz8 := Nat.lt_of_lt_of_le lz X8.len
      have inn8 : ∀ j ∈ ids, j < T8.fs.length := fun j hj => Nat.lt_of_lt_of_le (inn j hj) X8.len
      have lox8 : T8.lo x = xl ∧ T8.hi x = xh := ⟨by rw [X8.lo (by rw [A7.inv.len]; exact lx)]; exact lox.1, by rw [X8.hi (by rw [A7.inv.len]; exact lx)]; exact lox.2⟩
      have loy8 : T8.lo y = 0 ∧ T8.hi y = yh := ⟨by rw [X8.lo (by rw [A7.inv.len]; exact ly)]; exact loy.1, by rw [X8.hi (by rw [A7.inv.len]; exact ly)]; exact loy.2⟩
      clear lox loy inn lx ly lz A7 np7 fx fy xy ln lzz l7 X8
      obtain ⟨⟨dx0, h1⟩, _⟩ := id S.tabN
      refine ⟨_, rfl, t, dx0, _, rfl, h1, rfl, _, rfl, t, L, T8, i, rfl, S.tabN, by rw [A8.inv.len]; exact li, fun p2 hp2 => ⟨p2, _, rfl, hp2, rfl, _, _, rfl, _, _, rfl, rfl, ?_⟩⟩
      clear hp2
      replace A8 : LT (Rho xl xh yh) 1800 2048000 30 12 T8 := A8.toR fun ρ h => ⟨⟨⟨trivial, h.1⟩, h.2.1⟩, h.2.2⟩
      exact qmid Q q _ d c t pm pi L xl xh yh T8 ids i x y z _ ⟨A8, np8, li, lx8, ly8, lz8, inn8, lox8, loy8, bx, bY, by omega⟩ S hpi
end
/-! ### what the top has written, the head -/
theorem all_mk {l : PySem.W.OpenLaw} {w : World} {K : PySem.W.Frag} {h : Heap} {mg : Str → Option Value} {fa f1 f2 f3 f4 f5 f6 f7 f8 f9 f10 f11 f12 f13 f14 f15 f16 f17 f18 f19 f20 f21 f22 f23 f24 f25 f26 f27 f28 f29 f30 f31 f32 f33 f34 f35 f36 f37 f38 f39 f40 f41 f42 f43 f44 f45 f46 f47 f48 f49 f50 f51 f52 f53 f54 cK cM cQ z1 cT : Addr} (X : K.In h) (G : h.Ns mainGlobals mg) (hfa : mg "law" = some (.ref fa))
    {od1 an1 od2 an2 od3 an3 od4 an4 od5 an5 od6 an6 od7 an7 od8 an8 od9 an9 od10 an10 od11 an11 od12 an12 od13 an13 od14 an14 od15 an15 od16 an16 od17 an17 od18 an18 od19 an19 od20 an20 od21 an21 od22 an22 od23 an23 od24 an24 od25 an25 od26 an26 od27 an27 od28 an28 od29 an29 od30 an30 od31 an31 od32 an32 od33 an33 od34 an34 od35 an35 od36 an36 od37 an37 od38 an38 od39 an39 od40 an40 od41 an41 od42 an42 od43 an43 od44 an44 od45 an45 od46 an46 od47 an47 od48 an48 od49 an49 od50 an50 od51 an51 od52 an52 od53 an53 od54 an54 : Option Addr} {sl1 sl2 sl3 sl4 sl5 sl6 sl7 sl8 sl9 sl10 sl11 sl12 sl13 sl14 sl15 sl16 sl17 sl18 sl19 sl20 sl21 sl22 sl23 sl24 sl25 sl26 sl27 sl28 sl29 sl30 sl31 sl32 sl33 sl34 sl35 sl36 sl37 sl38 sl39 sl40 sl41 sl42 sl43 sl44 sl45 sl46 sl47 sl48 sl49 sl50 sl51 sl52 sl53 sl54 : Array (Option Value)} {oc1 kV1 dc1 pm1 cd1 ct1 oc2 kV2 dc2 pm2 cd2 ct2 oc3 kV3 dc3 pm3 cd3 ct3 oc4 kV4 dc4 pm4 cd4 ct4 oc5 kV5 dc5 pm5 cd5 ct5 oc6 kV6 dc6 pm6 cd6 ct6 oc7 kV7 dc7 pm7 cd7 ct7 oc8 kV8 dc8 pm8 cd8 ct8 oc9 kV9 dc9 pm9 cd9 ct9 oc10 kV10 dc10 pm10 cd10 ct10 oc11 kV11 dc11 pm11 cd11 ct11 oc12 kV12 dc12 pm12 cd12 ct12 oc13 kV13 dc13 pm13 cd13 ct13 oc14 kV14 dc14 pm14 cd14 ct14 oc15 kV15 dc15 pm15 cd15 ct15 oc16 kV16 dc16 pm16 cd16 ct16 oc17 kV17 dc17 pm17 cd17 ct17 oc18 kV18 dc18 pm18 cd18 ct18 oc19 kV19 dc19 pm19 cd19 ct19 oc20 kV20 dc20 pm20 cd20 ct20 oc21 kV21 dc21 pm21 cd21 ct21 oc22 kV22 dc22 pm22 cd22 ct22 oc23 kV23 dc23 pm23 cd23 ct23 oc24 kV24 dc24 pm24 cd24 ct24 oc25 kV25 dc25 pm25 cd25 ct25 oc26 kV26 dc26 pm26 cd26 ct26 oc27 kV27 dc27 pm27 cd27 ct27 oc28 kV28 dc28 pm28 cd28 ct28 oc29 kV29 dc29 pm29 cd29 ct29 oc30 kV30 dc30 pm30 cd30 ct30 oc31 kV31 dc31 pm31 cd31 ct31 oc32 kV32 dc32 pm32 cd32 ct32 oc33 kV33 dc33 pm33 cd33 ct33 oc34 kV34 dc34 pm34 cd34 ct34 oc35 kV35 dc35 pm35 cd35 ct35 oc36 kV36 dc36 pm36 cd36 ct36 oc37 kV37 dc37 pm37 cd37 ct37 oc38 kV38 dc38 pm38 cd38 ct38 oc39 kV39 dc39 pm39 cd39 ct39 oc40 kV40 dc40 pm40 cd40 ct40 oc41 kV41 dc41 pm41 cd41 ct41 oc42 kV42 dc42 pm42 cd42 ct42 oc43 kV43 dc43 pm43 cd43 ct43 oc44 kV44 dc44 pm44 cd44 ct44 oc45 kV45 dc45 pm45 cd45 ct45 oc46 kV46 dc46 pm46 cd46 ct46 oc47 kV47 dc47 pm47 cd47 ct47 oc48 kV48 dc48 pm48 cd48 ct48 oc49 kV49 dc49 pm49 cd49 ct49 oc50 kV50 dc50 pm50 cd50 ct50 oc51 kV51 dc51 pm51 cd51 ct51 oc52 kV52 dc52 pm52 cd52 ct52 oc53 kV53 dc53 pm53 cd53 ct53 oc54 kV54 dc54 pm54 cd54 ct54 : Value}
    {escM : Array DictEntry} {ncM : Nat} {escQ : Array DictEntry} {ncQ : Nat} {tkV : Tok}
    (a1 : PySem.W.findIn K (.ref cK) "__init__" = some (some (.ref f1))) (i1 : PySem.W.isFn K (.ref f1) = true) (l1 : K.lookup f1 = some ⟨oc1, od1, .func (PySem.W.fnOf "__init__" "Terms.__init__" (defArgs sMinit) (defBody sMinit) (defScope sMinit) .none kV1 dc1 pm1 an1 cd1 ct1), sl1⟩) (c1 : PySem.W.codeIn K cd1 "Terms.__init__" = true) (k1 : PySem.W.keepIn K (.ref f1) = true)
    (a2 : PySem.W.findIn K (.ref cK) "number" = some (some (.ref f2))) (i2 : PySem.W.isFn K (.ref f2) = true) (l2 : K.lookup f2 = some ⟨oc2, od2, .func (PySem.W.fnOf "number" "Terms.number" (defArgs sMnumber) (defBody sMnumber) (defScope sMnumber) .none kV2 dc2 pm2 an2 cd2 ct2), sl2⟩) (c2 : PySem.W.codeIn K cd2 "Terms.number" = true) (k2 : PySem.W.keepIn K (.ref f2) = true)
    (a3 : PySem.W.findIn K (.ref cK) "variable" = some (some (.ref f3))) (i3 : PySem.W.isFn K (.ref f3) = true) (l3 : K.lookup f3 = some ⟨oc3, od3, .func (PySem.W.fnOf "variable" "Terms.variable" (defArgs sMvariable) (defBody sMvariable) (defScope sMvariable) .none kV3 dc3 pm3 an3 cd3 ct3), sl3⟩) (c3 : PySem.W.codeIn K cd3 "Terms.variable" = true) (k3 : PySem.W.keepIn K (.ref f3) = true)
    (a4 : PySem.W.findIn K (.ref cK) "make" = some (some (.ref f4))) (i4 : PySem.W.isFn K (.ref f4) = true) (l4 : K.lookup f4 = some ⟨oc4, od4, .func (PySem.W.fnOf "make" "Terms.make" (defArgs sMmake) (defBody sMmake) (defScope sMmake) .none kV4 dc4 pm4 an4 cd4 ct4), sl4⟩) (c4 : PySem.W.codeIn K cd4 "Terms.make" = true) (k4 : PySem.W.keepIn K (.ref f4) = true)
    (a5 : PySem.W.findIn K (.ref cK) "pick" = some (some (.ref f5))) (i5 : PySem.W.isFn K (.ref f5) = true) (l5 : K.lookup f5 = some ⟨oc5, od5, .func (PySem.W.fnOf "pick" "Terms.pick" (defArgs sMpick) (defBody sMpick) (defScope sMpick) .none kV5 dc5 pm5 an5 cd5 ct5), sl5⟩) (c5 : PySem.W.codeIn K cd5 "Terms.pick" = true) (k5 : PySem.W.keepIn K (.ref f5) = true)
    (a6 : PySem.W.findIn K (.ref cK) "row" = some (some (.ref f6))) (i6 : PySem.W.isFn K (.ref f6) = true) (l6 : K.lookup f6 = some ⟨oc6, od6, .func (PySem.W.fnOf "row" "Terms.row" (defArgs sMrow) (defBody sMrow) (defScope sMrow) .none kV6 dc6 pm6 an6 cd6 ct6), sl6⟩) (c6 : PySem.W.codeIn K cd6 "Terms.row" = true) (k6 : PySem.W.keepIn K (.ref f6) = true)
    (a7 : PySem.W.findIn K (.ref cK) "span" = some (some (.ref f7))) (i7 : PySem.W.isFn K (.ref f7) = true) (l7 : K.lookup f7 = some ⟨oc7, od7, .func (PySem.W.fnOf "span" "Terms.span" (defArgs sMspan) (defBody sMspan) (defScope sMspan) .none kV7 dc7 pm7 an7 cd7 ct7), sl7⟩) (c7 : PySem.W.codeIn K cd7 "Terms.span" = true) (k7 : PySem.W.keepIn K (.ref f7) = true)
    (a8 : PySem.W.findIn K (.ref cK) "value" = some (some (.ref f8))) (i8 : PySem.W.isFn K (.ref f8) = true) (l8 : K.lookup f8 = some ⟨oc8, od8, .func (PySem.W.fnOf "value" "Terms.value" (defArgs sMvalue) (defBody sMvalue) (defScope sMvalue) .none kV8 dc8 pm8 an8 cd8 ct8), sl8⟩) (c8 : PySem.W.codeIn K cd8 "Terms.value" = true) (k8 : PySem.W.keepIn K (.ref f8) = true)
    (a9 : PySem.W.findIn K (.ref cK) "form" = some (some (.ref f9))) (i9 : PySem.W.isFn K (.ref f9) = true) (l9 : K.lookup f9 = some ⟨oc9, od9, .func (PySem.W.fnOf "form" "Terms.form" (defArgs sMform) (defBody sMform) (defScope sMform) .none kV9 dc9 pm9 an9 cd9 ct9), sl9⟩) (c9 : PySem.W.codeIn K cd9 "Terms.form" = true) (k9 : PySem.W.keepIn K (.ref f9) = true)
    (a10 : PySem.W.findIn K (.ref cK) "_place" = some (some (.ref f10))) (i10 : PySem.W.isFn K (.ref f10) = true) (l10 : K.lookup f10 = some ⟨oc10, od10, .func (PySem.W.fnOf "_place" "Terms._place" (defArgs sMplace) (defBody sMplace) (defScope sMplace) .none kV10 dc10 pm10 an10 cd10 ct10), sl10⟩) (c10 : PySem.W.codeIn K cd10 "Terms._place" = true) (k10 : PySem.W.keepIn K (.ref f10) = true)
    (a11 : PySem.W.findIn K (.ref cK) "_needed" = some (some (.ref f11))) (i11 : PySem.W.isFn K (.ref f11) = true) (l11 : K.lookup f11 = some ⟨oc11, od11, .func (PySem.W.fnOf "_needed" "Terms._needed" (defArgs sMneeded) (defBody sMneeded) (defScope sMneeded) .none kV11 dc11 pm11 an11 cd11 ct11), sl11⟩) (c11 : PySem.W.codeIn K cd11 "Terms._needed" = true) (k11 : PySem.W.keepIn K (.ref f11) = true)
    (a12 : PySem.W.nsIn K mainGlobals "limit" = some (some (.ref f12))) (l12 : K.lookup f12 = some ⟨oc12, od12, .func (PySem.W.fnOf "limit" "limit" (defArgs sLimit) (defBody sLimit) (defScope sLimit) .none kV12 dc12 pm12 an12 cd12 ct12), sl12⟩) (c12 : PySem.W.codeIn K cd12 "limit" = true) (k12 : PySem.W.keepIn K (.ref f12) = true)
    (a13 : PySem.W.nsIn K mainGlobals "_add" = some (some (.ref f13))) (l13 : K.lookup f13 = some ⟨oc13, od13, .func (PySem.W.fnOf "_add" "_add" (defArgs sAdd) (defBody sAdd) (defScope sAdd) .none kV13 dc13 pm13 an13 cd13 ct13), sl13⟩) (c13 : PySem.W.codeIn K cd13 "_add" = true) (k13 : PySem.W.keepIn K (.ref f13) = true)
    (a14 : PySem.W.nsIn K mainGlobals "_sub" = some (some (.ref f14))) (l14 : K.lookup f14 = some ⟨oc14, od14, .func (PySem.W.fnOf "_sub" "_sub" (defArgs sSub) (defBody sSub) (defScope sSub) .none kV14 dc14 pm14 an14 cd14 ct14), sl14⟩) (c14 : PySem.W.codeIn K cd14 "_sub" = true) (k14 : PySem.W.keepIn K (.ref f14) = true)
    (a15 : PySem.W.nsIn K mainGlobals "_mul" = some (some (.ref f15))) (l15 : K.lookup f15 = some ⟨oc15, od15, .func (PySem.W.fnOf "_mul" "_mul" (defArgs sMul) (defBody sMul) (defScope sMul) .none kV15 dc15 pm15 an15 cd15 ct15), sl15⟩) (c15 : PySem.W.codeIn K cd15 "_mul" = true) (k15 : PySem.W.keepIn K (.ref f15) = true)
    (a16 : PySem.W.nsIn K mainGlobals "_max" = some (some (.ref f16))) (l16 : K.lookup f16 = some ⟨oc16, od16, .func (PySem.W.fnOf "_max" "_max" (defArgs sMax) (defBody sMax) (defScope sMax) .none kV16 dc16 pm16 an16 cd16 ct16), sl16⟩) (c16 : PySem.W.codeIn K cd16 "_max" = true) (k16 : PySem.W.keepIn K (.ref f16) = true)
    (a17 : PySem.W.nsIn K mainGlobals "_min" = some (some (.ref f17))) (l17 : K.lookup f17 = some ⟨oc17, od17, .func (PySem.W.fnOf "_min" "_min" (defArgs sMin) (defBody sMin) (defScope sMin) .none kV17 dc17 pm17 an17 cd17 ct17), sl17⟩) (c17 : PySem.W.codeIn K cd17 "_min" = true) (k17 : PySem.W.keepIn K (.ref f17) = true)
    (a18 : PySem.W.nsIn K mainGlobals "_less" = some (some (.ref f18))) (l18 : K.lookup f18 = some ⟨oc18, od18, .func (PySem.W.fnOf "_less" "_less" (defArgs sLess) (defBody sLess) (defScope sLess) .none kV18 dc18 pm18 an18 cd18 ct18), sl18⟩) (c18 : PySem.W.codeIn K cd18 "_less" = true) (k18 : PySem.W.keepIn K (.ref f18) = true)
    (a19 : PySem.W.nsIn K mainGlobals "_equal" = some (some (.ref f19))) (l19 : K.lookup f19 = some ⟨oc19, od19, .func (PySem.W.fnOf "_equal" "_equal" (defArgs sEqual) (defBody sEqual) (defScope sEqual) .none kV19 dc19 pm19 an19 cd19 ct19), sl19⟩) (c19 : PySem.W.codeIn K cd19 "_equal" = true) (k19 : PySem.W.keepIn K (.ref f19) = true)
    (a20 : PySem.W.nsIn K mainGlobals "_neg" = some (some (.ref f20))) (l20 : K.lookup f20 = some ⟨oc20, od20, .func (PySem.W.fnOf "_neg" "_neg" (defArgs sNeg) (defBody sNeg) (defScope sNeg) .none kV20 dc20 pm20 an20 cd20 ct20), sl20⟩) (c20 : PySem.W.codeIn K cd20 "_neg" = true) (k20 : PySem.W.keepIn K (.ref f20) = true)
    (a21 : PySem.W.nsIn K mainGlobals "_clamp" = some (some (.ref f21))) (l21 : K.lookup f21 = some ⟨oc21, od21, .func (PySem.W.fnOf "_clamp" "_clamp" (defArgs sClamp) (defBody sClamp) (defScope sClamp) .none kV21 dc21 pm21 an21 cd21 ct21), sl21⟩) (c21 : PySem.W.codeIn K cd21 "_clamp" = true) (k21 : PySem.W.keepIn K (.ref f21) = true)
    (a22 : PySem.W.nsIn K mainGlobals "_shift" = some (some (.ref f22))) (l22 : K.lookup f22 = some ⟨oc22, od22, .func (PySem.W.fnOf "_shift" "_shift" (defArgs sShift) (defBody sShift) (defScope sShift) .none kV22 dc22 pm22 an22 cd22 ct22), sl22⟩) (c22 : PySem.W.codeIn K cd22 "_shift" = true) (k22 : PySem.W.keepIn K (.ref f22) = true)
    (a23 : PySem.W.nsIn K mainGlobals "_where" = some (some (.ref f23))) (l23 : K.lookup f23 = some ⟨oc23, od23, .func (PySem.W.fnOf "_where" "_where" (defArgs sWhere) (defBody sWhere) (defScope sWhere) .none kV23 dc23 pm23 an23 cd23 ct23), sl23⟩) (c23 : PySem.W.codeIn K cd23 "_where" = true) (k23 : PySem.W.keepIn K (.ref f23) = true)
    (a24 : PySem.W.nsIn K mainGlobals "pointwise" = some (some (.ref f24))) (l24 : K.lookup f24 = some ⟨oc24, od24, .func (PySem.W.fnOf "pointwise" "pointwise" (defArgs sPw) (defBody sPw) (defScope sPw) .none kV24 dc24 pm24 an24 cd24 ct24), sl24⟩) (c24 : PySem.W.codeIn K cd24 "pointwise" = true) (k24 : PySem.W.keepIn K (.ref f24) = true)
    (a25 : PySem.W.nsIn K mainGlobals "corners" = some (some (.ref f25))) (l25 : K.lookup f25 = some ⟨oc25, od25, .func (PySem.W.fnOf "corners" "corners" (defArgs scorners) (defBody scorners) (defScope scorners) .none kV25 dc25 pm25 an25 cd25 ct25), sl25⟩) (c25 : PySem.W.codeIn K cd25 "corners" = true) (k25 : PySem.W.keepIn K (.ref f25) = true)
    (a26 : PySem.W.nsIn K mainGlobals "parts_of" = some (some (.ref f26))) (l26 : K.lookup f26 = some ⟨oc26, od26, .func (PySem.W.fnOf "parts_of" "parts_of" (defArgs sparts_of) (defBody sparts_of) (defScope sparts_of) .none kV26 dc26 pm26 an26 cd26 ct26), sl26⟩) (c26 : PySem.W.codeIn K cd26 "parts_of" = true) (k26 : PySem.W.keepIn K (.ref f26) = true)
    (a27 : PySem.W.nsIn K mainGlobals "value_of" = some (some (.ref f27))) (l27 : K.lookup f27 = some ⟨oc27, od27, .func (PySem.W.fnOf "value_of" "value_of" (defArgs svalue_of) (defBody svalue_of) (defScope svalue_of) .none kV27 dc27 pm27 an27 cd27 ct27), sl27⟩) (c27 : PySem.W.codeIn K cd27 "value_of" = true) (k27 : PySem.W.keepIn K (.ref f27) = true)
    (a28 : PySem.W.nsIn K mainGlobals "sum_of" = some (some (.ref f28))) (l28 : K.lookup f28 = some ⟨oc28, od28, .func (PySem.W.fnOf "sum_of" "sum_of" (defArgs ssum_of) (defBody ssum_of) (defScope ssum_of) .none kV28 dc28 pm28 an28 cd28 ct28), sl28⟩) (c28 : PySem.W.codeIn K cd28 "sum_of" = true) (k28 : PySem.W.keepIn K (.ref f28) = true)
    (a29 : PySem.W.nsIn K mainGlobals "form_of_sum" = some (some (.ref f29))) (l29 : K.lookup f29 = some ⟨oc29, od29, .func (PySem.W.fnOf "form_of_sum" "form_of_sum" (defArgs sform_of_sum) (defBody sform_of_sum) (defScope sform_of_sum) .none kV29 dc29 pm29 an29 cd29 ct29), sl29⟩) (c29 : PySem.W.codeIn K cd29 "form_of_sum" = true) (k29 : PySem.W.keepIn K (.ref f29) = true)
    (a30 : PySem.W.nsIn K mainGlobals "row_of" = some (some (.ref f30))) (l30 : K.lookup f30 = some ⟨oc30, od30, .func (PySem.W.fnOf "row_of" "row_of" (defArgs srow_of) (defBody srow_of) (defScope srow_of) .none kV30 dc30 pm30 an30 cd30 ct30), sl30⟩) (c30 : PySem.W.codeIn K cd30 "row_of" = true) (k30 : PySem.W.keepIn K (.ref f30) = true)
    (a31 : PySem.W.nsIn K mainGlobals "made_form" = some (some (.ref f31))) (l31 : K.lookup f31 = some ⟨oc31, od31, .func (PySem.W.fnOf "made_form" "made_form" (defArgs smade_form) (defBody smade_form) (defScope smade_form) .none kV31 dc31 pm31 an31 cd31 ct31), sl31⟩) (c31 : PySem.W.codeIn K cd31 "made_form" = true) (k31 : PySem.W.keepIn K (.ref f31) = true)
    (a32 : PySem.W.nsIn K mainGlobals "_known" = some (some (.ref f32))) (l32 : K.lookup f32 = some ⟨oc32, od32, .func (PySem.W.fnOf "_known" "_known" (defArgs s_known) (defBody s_known) (defScope s_known) .none kV32 dc32 pm32 an32 cd32 ct32), sl32⟩) (c32 : PySem.W.codeIn K cd32 "_known" = true) (k32 : PySem.W.keepIn K (.ref f32) = true)
    (a33 : PySem.W.nsIn K mainGlobals "_settled" = some (some (.ref f33))) (l33 : K.lookup f33 = some ⟨oc33, od33, .func (PySem.W.fnOf "_settled" "_settled" (defArgs s_settled) (defBody s_settled) (defScope s_settled) .none kV33 dc33 pm33 an33 cd33 ct33), sl33⟩) (c33 : PySem.W.codeIn K cd33 "_settled" = true) (k33 : PySem.W.keepIn K (.ref f33) = true)
    (a34 : PySem.W.nsIn K mainGlobals "_plus" = some (some (.ref f34))) (l34 : K.lookup f34 = some ⟨oc34, od34, .func (PySem.W.fnOf "_plus" "_plus" (defArgs s_plus) (defBody s_plus) (defScope s_plus) .none kV34 dc34 pm34 an34 cd34 ct34), sl34⟩) (c34 : PySem.W.codeIn K cd34 "_plus" = true) (k34 : PySem.W.keepIn K (.ref f34) = true)
    (a35 : PySem.W.nsIn K mainGlobals "_cancelled" = some (some (.ref f35))) (l35 : K.lookup f35 = some ⟨oc35, od35, .func (PySem.W.fnOf "_cancelled" "_cancelled" (defArgs s_cancelled) (defBody s_cancelled) (defScope s_cancelled) .none kV35 dc35 pm35 an35 cd35 ct35), sl35⟩) (c35 : PySem.W.codeIn K cd35 "_cancelled" = true) (k35 : PySem.W.keepIn K (.ref f35) = true)
    (a36 : PySem.W.nsIn K mainGlobals "_times" = some (some (.ref f36))) (l36 : K.lookup f36 = some ⟨oc36, od36, .func (PySem.W.fnOf "_times" "_times" (defArgs s_times) (defBody s_times) (defScope s_times) .none kV36 dc36 pm36 an36 cd36 ct36), sl36⟩) (c36 : PySem.W.codeIn K cd36 "_times" = true) (k36 : PySem.W.keepIn K (.ref f36) = true)
    (a37 : PySem.W.nsIn K mainGlobals "_add_form" = some (some (.ref f37))) (l37 : K.lookup f37 = some ⟨oc37, od37, .func (PySem.W.fnOf "_add_form" "_add_form" (defArgs s_add_form) (defBody s_add_form) (defScope s_add_form) .none kV37 dc37 pm37 an37 cd37 ct37), sl37⟩) (c37 : PySem.W.codeIn K cd37 "_add_form" = true) (k37 : PySem.W.keepIn K (.ref f37) = true)
    (a38 : PySem.W.nsIn K mainGlobals "_sub_form" = some (some (.ref f38))) (l38 : K.lookup f38 = some ⟨oc38, od38, .func (PySem.W.fnOf "_sub_form" "_sub_form" (defArgs s_sub_form) (defBody s_sub_form) (defScope s_sub_form) .none kV38 dc38 pm38 an38 cd38 ct38), sl38⟩) (c38 : PySem.W.codeIn K cd38 "_sub_form" = true) (k38 : PySem.W.keepIn K (.ref f38) = true)
    (a39 : PySem.W.nsIn K mainGlobals "_neg_form" = some (some (.ref f39))) (l39 : K.lookup f39 = some ⟨oc39, od39, .func (PySem.W.fnOf "_neg_form" "_neg_form" (defArgs s_neg_form) (defBody s_neg_form) (defScope s_neg_form) .none kV39 dc39 pm39 an39 cd39 ct39), sl39⟩) (c39 : PySem.W.codeIn K cd39 "_neg_form" = true) (k39 : PySem.W.keepIn K (.ref f39) = true)
    (a40 : PySem.W.nsIn K mainGlobals "_mul_form" = some (some (.ref f40))) (l40 : K.lookup f40 = some ⟨oc40, od40, .func (PySem.W.fnOf "_mul_form" "_mul_form" (defArgs s_mul_form) (defBody s_mul_form) (defScope s_mul_form) .none kV40 dc40 pm40 an40 cd40 ct40), sl40⟩) (c40 : PySem.W.codeIn K cd40 "_mul_form" = true) (k40 : PySem.W.keepIn K (.ref f40) = true)
    (a41 : PySem.W.nsIn K mainGlobals "_extreme_form" = some (some (.ref f41))) (l41 : K.lookup f41 = some ⟨oc41, od41, .func (PySem.W.fnOf "_extreme_form" "_extreme_form" (defArgs s_extreme_form) (defBody s_extreme_form) (defScope s_extreme_form) .none kV41 dc41 pm41 an41 cd41 ct41), sl41⟩) (c41 : PySem.W.codeIn K cd41 "_extreme_form" = true) (k41 : PySem.W.keepIn K (.ref f41) = true)
    (a42 : PySem.W.nsIn K mainGlobals "_less_form" = some (some (.ref f42))) (l42 : K.lookup f42 = some ⟨oc42, od42, .func (PySem.W.fnOf "_less_form" "_less_form" (defArgs s_less_form) (defBody s_less_form) (defScope s_less_form) .none kV42 dc42 pm42 an42 cd42 ct42), sl42⟩) (c42 : PySem.W.codeIn K cd42 "_less_form" = true) (k42 : PySem.W.keepIn K (.ref f42) = true)
    (a43 : PySem.W.nsIn K mainGlobals "_equal_form" = some (some (.ref f43))) (l43 : K.lookup f43 = some ⟨oc43, od43, .func (PySem.W.fnOf "_equal_form" "_equal_form" (defArgs s_equal_form) (defBody s_equal_form) (defScope s_equal_form) .none kV43 dc43 pm43 an43 cd43 ct43), sl43⟩) (c43 : PySem.W.codeIn K cd43 "_equal_form" = true) (k43 : PySem.W.keepIn K (.ref f43) = true)
    (a44 : PySem.W.nsIn K mainGlobals "_clamp_form" = some (some (.ref f44))) (l44 : K.lookup f44 = some ⟨oc44, od44, .func (PySem.W.fnOf "_clamp_form" "_clamp_form" (defArgs s_clamp_form) (defBody s_clamp_form) (defScope s_clamp_form) .none kV44 dc44 pm44 an44 cd44 ct44), sl44⟩) (c44 : PySem.W.codeIn K cd44 "_clamp_form" = true) (k44 : PySem.W.keepIn K (.ref f44) = true)
    (a45 : PySem.W.nsIn K mainGlobals "_shift_form" = some (some (.ref f45))) (l45 : K.lookup f45 = some ⟨oc45, od45, .func (PySem.W.fnOf "_shift_form" "_shift_form" (defArgs s_shift_form) (defBody s_shift_form) (defScope s_shift_form) .none kV45 dc45 pm45 an45 cd45 ct45), sl45⟩) (c45 : PySem.W.codeIn K cd45 "_shift_form" = true) (k45 : PySem.W.keepIn K (.ref f45) = true)
    (a46 : PySem.W.nsIn K mainGlobals "_where_form" = some (some (.ref f46))) (l46 : K.lookup f46 = some ⟨oc46, od46, .func (PySem.W.fnOf "_where_form" "_where_form" (defArgs s_where_form) (defBody s_where_form) (defScope s_where_form) .none kV46 dc46 pm46 an46 cd46 ct46), sl46⟩) (c46 : PySem.W.codeIn K cd46 "_where_form" = true) (k46 : PySem.W.keepIn K (.ref f46) = true)
    (a47 : PySem.W.nsIn K mainGlobals "is_too_wide" = some (some (.ref f47))) (l47 : K.lookup f47 = some ⟨oc47, od47, .func (PySem.W.fnOf "is_too_wide" "is_too_wide" (defArgs sis_too_wide) (defBody sis_too_wide) (defScope sis_too_wide) .none kV47 dc47 pm47 an47 cd47 ct47), sl47⟩) (c47 : PySem.W.codeIn K cd47 "is_too_wide" = true) (k47 : PySem.W.keepIn K (.ref f47) = true)
    (a48 : PySem.W.nsIn K mainGlobals "_law_begin" = some (some (.ref f48))) (l48 : K.lookup f48 = some ⟨oc48, od48, .func (PySem.W.fnOf "_law_begin" "_law_begin" (defArgs sBegin) (defBody sBegin) (defScope sBegin) .none kV48 dc48 pm48 an48 cd48 ct48), sl48⟩) (c48 : PySem.W.codeIn K cd48 "_law_begin" = true) (k48 : PySem.W.keepIn K (.ref f48) = true)
    (a49 : PySem.W.nsIn K mainGlobals "_law_take" = some (some (.ref f49))) (l49 : K.lookup f49 = some ⟨oc49, od49, .func (PySem.W.fnOf "_law_take" "_law_take" (defArgs sTake) (defBody sTake) (defScope sTake) .none kV49 dc49 pm49 an49 cd49 ct49), sl49⟩) (c49 : PySem.W.codeIn K cd49 "_law_take" = true) (k49 : PySem.W.keepIn K (.ref f49) = true)
    (a50 : PySem.W.nsIn K mainGlobals "_law_signed" = some (some (.ref f50))) (l50 : K.lookup f50 = some ⟨oc50, od50, .func (PySem.W.fnOf "_law_signed" "_law_signed" (defArgs sSigned) (defBody sSigned) (defScope sSigned) .none kV50 dc50 pm50 an50 cd50 ct50), sl50⟩) (c50 : PySem.W.codeIn K cd50 "_law_signed" = true) (k50 : PySem.W.keepIn K (.ref f50) = true)
    (a51 : PySem.W.nsIn K mainGlobals "_law_int" = some (some (.ref f51))) (l51 : K.lookup f51 = some ⟨oc51, od51, .func (PySem.W.fnOf "_law_int" "_law_int" (defArgs sInt) (defBody sInt) (defScope sInt) .none kV51 dc51 pm51 an51 cd51 ct51), sl51⟩) (c51 : PySem.W.codeIn K cd51 "_law_int" = true) (k51 : PySem.W.keepIn K (.ref f51) = true)
    (a52 : PySem.W.nsIn K mainGlobals "_law_told" = some (some (.ref f52))) (l52 : K.lookup f52 = some ⟨oc52, od52, .func (PySem.W.fnOf "_law_told" "_law_told" (defArgs s_law_told) (defBody s_law_told) (defScope s_law_told) .none kV52 dc52 pm52 an52 cd52 ct52), sl52⟩) (c52 : PySem.W.codeIn K cd52 "_law_told" = true) (k52 : PySem.W.keepIn K (.ref f52) = true)
    (a53 : PySem.W.nsIn K mainGlobals "_law_index" = some (some (.ref f53))) (l53 : K.lookup f53 = some ⟨oc53, od53, .func (PySem.W.fnOf "_law_index" "_law_index" (defArgs s_law_index) (defBody s_law_index) (defScope s_law_index) .none kV53 dc53 pm53 an53 cd53 ct53), sl53⟩) (c53 : PySem.W.codeIn K cd53 "_law_index" = true) (k53 : PySem.W.keepIn K (.ref f53) = true)
    (a54 : PySem.W.nsIn K mainGlobals "law" = some (some (.ref f54))) (l54 : K.lookup f54 = some ⟨oc54, od54, .func (PySem.W.fnOf "law" "law" (defArgs slaw) (defBody slaw) (defScope slaw) .none kV54 dc54 pm54 an54 cd54 ct54), sl54⟩) (c54 : PySem.W.codeIn K cd54 "law" = true) (k54 : PySem.W.keepIn K (.ref f54) = true)
    (acK : PySem.W.nsIn K mainGlobals "Terms" = some (some (.ref cK)))
    (pgK : PySem.W.plainGet K cK Str.empty = true)
    (hdK : PySem.W.hasDictIn K cK = true)
    (poK : PySem.W.plainOver K cK = true)
    (saK : PySem.W.findIn K (.ref cK) "__setattr__" = some (some (.builtin "object.__setattr__")))
    (mkK : PySem.W.makesIn K cK = true)
    (kcK : PySem.W.keepIn K (.ref cK) = true)
    (no_forms : PySem.W.findIn K (.ref cK) "_forms" = some none)
    (no_spans : PySem.W.findIn K (.ref cK) "_spans" = some none)
    (no_places : PySem.W.findIn K (.ref cK) "_places" = some none)
    (no_made : PySem.W.findIn K (.ref cK) "_made" = some none)
    (no_variables : PySem.W.findIn K (.ref cK) "_variables" = some none)
    (acM : PySem.W.nsIn K mainGlobals "MAKERS_kinds" = some (some (.ref cM)))
    (lcM : K.lookup cM = some ⟨.type "dict", none, .dict escM ncM, #[]⟩)
    (qcM : PySem.W.KeysLit w.params escM.toList)
    (QcM_add : PySem.W.nsIn K cM "add" = some (some (.ref f13)))
    (QcM_sub : PySem.W.nsIn K cM "sub" = some (some (.ref f14)))
    (QcM_mul : PySem.W.nsIn K cM "mul" = some (some (.ref f15)))
    (QcM_max : PySem.W.nsIn K cM "max" = some (some (.ref f16)))
    (QcM_min : PySem.W.nsIn K cM "min" = some (some (.ref f17)))
    (QcM_less : PySem.W.nsIn K cM "less" = some (some (.ref f18)))
    (QcM_equal : PySem.W.nsIn K cM "equal" = some (some (.ref f19)))
    (QcM_neg : PySem.W.nsIn K cM "neg" = some (some (.ref f20)))
    (QcM_clamp : PySem.W.nsIn K cM "clamp" = some (some (.ref f21)))
    (QcM_shift : PySem.W.nsIn K cM "shift" = some (some (.ref f22)))
    (QcM_where : PySem.W.nsIn K cM "where" = some (some (.ref f23)))
    (acQ : PySem.W.nsIn K mainGlobals "MAKERS_term_forms" = some (some (.ref cQ)))
    (lcQ : K.lookup cQ = some ⟨.type "dict", none, .dict escQ ncQ, #[]⟩)
    (qcQ : PySem.W.KeysLit w.params escQ.toList)
    (QcQ_add : PySem.W.nsIn K cQ "add" = some (some (.ref f37)))
    (QcQ_sub : PySem.W.nsIn K cQ "sub" = some (some (.ref f38)))
    (QcQ_mul : PySem.W.nsIn K cQ "mul" = some (some (.ref f40)))
    (QcQ_max : PySem.W.nsIn K cQ "max" = some (some (.ref f41)))
    (QcQ_min : PySem.W.nsIn K cQ "min" = some (some (.ref f41)))
    (QcQ_less : PySem.W.nsIn K cQ "less" = some (some (.ref f42)))
    (QcQ_equal : PySem.W.nsIn K cQ "equal" = some (some (.ref f43)))
    (QcQ_neg : PySem.W.nsIn K cQ "neg" = some (some (.ref f39)))
    (QcQ_clamp : PySem.W.nsIn K cQ "clamp" = some (some (.ref f44)))
    (QcQ_shift : PySem.W.nsIn K cQ "shift" = some (some (.ref f45)))
    (QcQ_where : PySem.W.nsIn K cQ "where" = some (some (.ref f46)))
    (eVL : PySem.W.nsIn K mainGlobals "VALUE_LIMIT" = some (some (.int 20000 tkV)))
    (aEz1 : PySem.W.nsIn K mainGlobals "FormError" = some (some (.ref z1)))
    (kEz1 : PySem.W.keepIn K (.ref z1) = true)
    (bEz1 : PySem.W.subIn K (.ref z1) (.type "BaseException") = some true)
    (tEz1 : PySem.W.typeIn K (.ref z1) = some (.type "type"))
    (hEz1 : PySem.W.hasDictIn K z1 = true)
    (aEcT : PySem.W.nsIn K mainGlobals "TensorError" = some (some (.ref cT)))
    (kEcT : PySem.W.keepIn K (.ref cT) = true)
    (bEcT : PySem.W.subIn K (.ref cT) (.type "BaseException") = some true)
    (tEcT : PySem.W.typeIn K (.ref cT) = some (.type "type"))
    (hEcT : PySem.W.hasDictIn K cT = true)
    (xz1 : PySem.W.excIn K z1 valErr "ValueError.__new__" = true)
    (sTz1 : PySem.W.subIn K (.ref z1) (.ref cT) = some true)
    (i1z1 : PySem.W.findIn K (.ref z1) "__getattribute__" = some (some (.builtin "BaseException.__getattribute__")))
    (i2z1 : PySem.W.findIn K (.ref z1) "__getattr__" = some none)
    (i3z1 : PySem.W.findIn K (.ref z1) "__class__" = some (some (.builtin "object.__class__")))
    (i6z1 : PySem.W.mroIn K z1 (.type "object") = some true)
    (sz1z1 : PySem.W.subIn K (.ref z1) (.ref z1) = some true)
    (xxi4 : PySem.W.specialIn K (.builtin "object.__class__") "__get__" = some (some (.builtin "getset_descriptor.__get__")))
    (xxi5 : PySem.W.takesIn K (.builtin "object.__class__") = some true)
    (eGc : PySem.W.nsIn K mainGlobals "gcd" = some (some (.builtin "math.gcd")))
    (z_abs : PySem.W.nsIn K mainGlobals "abs" = some none)
    (z_all : PySem.W.nsIn K mainGlobals "all" = some none)
    (z_bool : PySem.W.nsIn K mainGlobals "bool" = some none)
    (z_int : PySem.W.nsIn K mainGlobals "int" = some none)
    (z_isinstance : PySem.W.nsIn K mainGlobals "isinstance" = some none)
    (z_len : PySem.W.nsIn K mainGlobals "len" = some none)
    (z_list : PySem.W.nsIn K mainGlobals "list" = some none)
    (z_max : PySem.W.nsIn K mainGlobals "max" = some none)
    (z_min : PySem.W.nsIn K mainGlobals "min" = some none)
    (z_range : PySem.W.nsIn K mainGlobals "range" = some none)
    (z_set : PySem.W.nsIn K mainGlobals "set" = some none)
    (z_sorted : PySem.W.nsIn K mainGlobals "sorted" = some none)
    (z_sum : PySem.W.nsIn K mainGlobals "sum" = some none)
    (z_tuple : PySem.W.nsIn K mainGlobals "tuple" = some none)
    : ∃ fd : FuncData, (∀ (s : Shared) (v : Value), BindsTo s fd ⟨[v], []⟩ [("script", v)]) ∧ ∀ base : Heap, K.In base → base.Ns mainGlobals mg → FnOk l.prog w K mg base CX0 9 fa fd ["script"] (spLaw K) := by
  have e := hfa.symm.trans (PySem.W.mg_of X G a54)
  cases e
  have F1 := fun_mk (st := sMinit) l1 c1 k1
  have b1 := F1.binds (ps := ["self"]) fun _ _ _ _ _ _ us hl => match us, hl with | [_], _ => rfl
  have F2 := fun_mk (st := sMnumber) l2 c2 k2
  have b2 := F2.binds (ps := ["self", "n"]) fun _ _ _ _ _ _ us hl => match us, hl with | [_, _], _ => rfl
  have F3 := fun_mk (st := sMvariable) l3 c3 k3
  have b3 := F3.binds (ps := ["self", "key", "low", "high"]) fun _ _ _ _ _ _ us hl => match us, hl with | [_, _, _, _], _ => rfl
  have F4 := fun_mk (st := sMmake) l4 c4 k4
  have b4 := F4.binds (ps := ["self", "kind", "ids", "info"]) fun _ _ _ _ _ _ us hl => match us, hl with | [_, _, _, _], _ => rfl
  have F5 := fun_mk (st := sMpick) l5 c5 k5
  have b5 := F5.binds (ps := ["self", "ids", "index"]) fun _ _ _ _ _ _ us hl => match us, hl with | [_, _, _], _ => rfl
  have F6 := fun_mk (st := sMrow) l6 c6 k6
  have b6 := F6.binds (ps := ["self", "index"]) fun _ _ _ _ _ _ us hl => match us, hl with | [_, _], _ => rfl
  have F7 := fun_mk (st := sMspan) l7 c7 k7
  have b7 := F7.binds (ps := ["self", "id_of_term"]) fun _ _ _ _ _ _ us hl => match us, hl with | [_, _], _ => rfl
  have F8 := fun_mk (st := sMvalue) l8 c8 k8
  have b8 := F8.binds (ps := ["self", "id_of_term", "values"]) fun _ _ _ _ _ _ us hl => match us, hl with | [_, _, _], _ => rfl
  have F9 := fun_mk (st := sMform) l9 c9 k9
  have b9 := F9.binds (ps := ["self", "id_of_term"]) fun _ _ _ _ _ _ us hl => match us, hl with | [_, _], _ => rfl
  have F10 := fun_mk (st := sMplace) l10 c10 k10
  have b10 := F10.binds (ps := ["self", "form", "low", "high"]) fun _ _ _ _ _ _ us hl => match us, hl with | [_, _, _, _], _ => rfl
  have F11 := fun_mk (st := sMneeded) l11 c11 k11
  have b11 := F11.binds (ps := ["self", "id_of_term"]) fun _ _ _ _ _ _ us hl => match us, hl with | [_, _], _ => rfl
  have F12 := fun_mk (st := sLimit) l12 c12 k12
  have m12 := PySem.W.mg_of X G a12
  have b12 := F12.binds (ps := ["n", "low", "high"]) fun _ _ _ _ _ _ us hl => match us, hl with | [_, _, _], _ => rfl
  have F13 := fun_mk (st := sAdd) l13 c13 k13
  have m13 := PySem.W.mg_of X G a13
  have b13 := F13.binds (ps := ["values", "info"]) fun _ _ _ _ _ _ us hl => match us, hl with | [_, _], _ => rfl
  have F14 := fun_mk (st := sSub) l14 c14 k14
  have m14 := PySem.W.mg_of X G a14
  have b14 := F14.binds (ps := ["values", "info"]) fun _ _ _ _ _ _ us hl => match us, hl with | [_, _], _ => rfl
  have F15 := fun_mk (st := sMul) l15 c15 k15
  have m15 := PySem.W.mg_of X G a15
  have b15 := F15.binds (ps := ["values", "info"]) fun _ _ _ _ _ _ us hl => match us, hl with | [_, _], _ => rfl
  have F16 := fun_mk (st := sMax) l16 c16 k16
  have m16 := PySem.W.mg_of X G a16
  have b16 := F16.binds (ps := ["values", "info"]) fun _ _ _ _ _ _ us hl => match us, hl with | [_, _], _ => rfl
  have F17 := fun_mk (st := sMin) l17 c17 k17
  have m17 := PySem.W.mg_of X G a17
  have b17 := F17.binds (ps := ["values", "info"]) fun _ _ _ _ _ _ us hl => match us, hl with | [_, _], _ => rfl
  have F18 := fun_mk (st := sLess) l18 c18 k18
  have m18 := PySem.W.mg_of X G a18
  have b18 := F18.binds (ps := ["values", "info"]) fun _ _ _ _ _ _ us hl => match us, hl with | [_, _], _ => rfl
  have F19 := fun_mk (st := sEqual) l19 c19 k19
  have m19 := PySem.W.mg_of X G a19
  have b19 := F19.binds (ps := ["values", "info"]) fun _ _ _ _ _ _ us hl => match us, hl with | [_, _], _ => rfl
  have F20 := fun_mk (st := sNeg) l20 c20 k20
  have m20 := PySem.W.mg_of X G a20
  have b20 := F20.binds (ps := ["values", "info"]) fun _ _ _ _ _ _ us hl => match us, hl with | [_, _], _ => rfl
  have F21 := fun_mk (st := sClamp) l21 c21 k21
  have m21 := PySem.W.mg_of X G a21
  have b21 := F21.binds (ps := ["values", "info"]) fun _ _ _ _ _ _ us hl => match us, hl with | [_, _], _ => rfl
  have F22 := fun_mk (st := sShift) l22 c22 k22
  have m22 := PySem.W.mg_of X G a22
  have b22 := F22.binds (ps := ["values", "info"]) fun _ _ _ _ _ _ us hl => match us, hl with | [_, _], _ => rfl
  have F23 := fun_mk (st := sWhere) l23 c23 k23
  have m23 := PySem.W.mg_of X G a23
  have b23 := F23.binds (ps := ["values", "info"]) fun _ _ _ _ _ _ us hl => match us, hl with | [_, _], _ => rfl
  have F24 := fun_mk (st := sPw) l24 c24 k24
  have m24 := PySem.W.mg_of X G a24
  have b24 := F24.binds (ps := ["kind", "values", "info"]) fun _ _ _ _ _ _ us hl => match us, hl with | [_, _, _], _ => rfl
  have F25 := fun_mk (st := scorners) l25 c25 k25
  have m25 := PySem.W.mg_of X G a25
  have b25 := F25.binds (ps := ["one", "other"]) fun _ _ _ _ _ _ us hl => match us, hl with | [_, _], _ => rfl
  have F26 := fun_mk (st := sparts_of) l26 c26 k26
  have m26 := PySem.W.mg_of X G a26
  have b26 := F26.binds (ps := ["form"]) fun _ _ _ _ _ _ us hl => match us, hl with | [_], _ => rfl
  have F27 := fun_mk (st := svalue_of) l27 c27 k27
  have m27 := PySem.W.mg_of X G a27
  have b27 := F27.binds (ps := ["form", "found", "values"]) fun _ _ _ _ _ _ us hl => match us, hl with | [_, _, _], _ => rfl
  have F28 := fun_mk (st := ssum_of) l28 c28 k28
  have m28 := PySem.W.mg_of X G a28
  have b28 := F28.binds (ps := ["table", "term"]) fun _ _ _ _ _ _ us hl => match us, hl with | [_, _], _ => rfl
  have F29 := fun_mk (st := sform_of_sum) l29 c29 k29
  have m29 := PySem.W.mg_of X G a29
  have b29 := F29.binds (ps := ["table", "number", "pairs"]) fun _ _ _ _ _ _ us hl => match us, hl with | [_, _, _], _ => rfl
  have F30 := fun_mk (st := srow_of) l30 c30 k30
  have m30 := PySem.W.mg_of X G a30
  have b30 := F30.binds (ps := ["table", "index"]) fun _ _ _ _ _ _ us hl => match us, hl with | [_, _], _ => rfl
  have F31 := fun_mk (st := smade_form) l31 c31 k31
  have m31 := PySem.W.mg_of X G a31
  have b31 := F31.binds (ps := ["table", "kind", "ids", "info"]) fun _ _ _ _ _ _ us hl => match us, hl with | [_, _, _, _], _ => rfl
  have F32 := fun_mk (st := s_known) l32 c32 k32
  have m32 := PySem.W.mg_of X G a32
  have b32 := F32.binds (ps := ["table", "term"]) fun _ _ _ _ _ _ us hl => match us, hl with | [_, _], _ => rfl
  have F33 := fun_mk (st := s_settled) l33 c33 k33
  have m33 := PySem.W.mg_of X G a33
  have b33 := F33.binds (ps := ["n"]) fun _ _ _ _ _ _ us hl => match us, hl with | [_], _ => rfl
  have F34 := fun_mk (st := s_plus) l34 c34 k34
  have m34 := PySem.W.mg_of X G a34
  have b34 := F34.binds (ps := ["table", "one", "other", "sign"]) fun _ _ _ _ _ _ us hl => match us, hl with | [_, _, _, _], _ => rfl
  have F35 := fun_mk (st := s_cancelled) l35 c35 k35
  have m35 := PySem.W.mg_of X G a35
  have b35 := F35.binds (ps := ["table", "number", "pairs"]) fun _ _ _ _ _ _ us hl => match us, hl with | [_, _, _], _ => rfl
  have F36 := fun_mk (st := s_times) l36 c36 k36
  have m36 := PySem.W.mg_of X G a36
  have b36 := F36.binds (ps := ["table", "term", "by"]) fun _ _ _ _ _ _ us hl => match us, hl with | [_, _, _], _ => rfl
  have F37 := fun_mk (st := s_add_form) l37 c37 k37
  have m37 := PySem.W.mg_of X G a37
  have b37 := F37.binds (ps := ["table", "kind", "ids", "info"]) fun _ _ _ _ _ _ us hl => match us, hl with | [_, _, _, _], _ => rfl
  have F38 := fun_mk (st := s_sub_form) l38 c38 k38
  have m38 := PySem.W.mg_of X G a38
  have b38 := F38.binds (ps := ["table", "kind", "ids", "info"]) fun _ _ _ _ _ _ us hl => match us, hl with | [_, _, _, _], _ => rfl
  have F39 := fun_mk (st := s_neg_form) l39 c39 k39
  have m39 := PySem.W.mg_of X G a39
  have b39 := F39.binds (ps := ["table", "kind", "ids", "info"]) fun _ _ _ _ _ _ us hl => match us, hl with | [_, _, _, _], _ => rfl
  have F40 := fun_mk (st := s_mul_form) l40 c40 k40
  have m40 := PySem.W.mg_of X G a40
  have b40 := F40.binds (ps := ["table", "kind", "ids", "info"]) fun _ _ _ _ _ _ us hl => match us, hl with | [_, _, _, _], _ => rfl
  have F41 := fun_mk (st := s_extreme_form) l41 c41 k41
  have m41 := PySem.W.mg_of X G a41
  have b41 := F41.binds (ps := ["table", "kind", "ids", "info"]) fun _ _ _ _ _ _ us hl => match us, hl with | [_, _, _, _], _ => rfl
  have F42 := fun_mk (st := s_less_form) l42 c42 k42
  have m42 := PySem.W.mg_of X G a42
  have b42 := F42.binds (ps := ["table", "kind", "ids", "info"]) fun _ _ _ _ _ _ us hl => match us, hl with | [_, _, _, _], _ => rfl
  have F43 := fun_mk (st := s_equal_form) l43 c43 k43
  have m43 := PySem.W.mg_of X G a43
  have b43 := F43.binds (ps := ["table", "kind", "ids", "info"]) fun _ _ _ _ _ _ us hl => match us, hl with | [_, _, _, _], _ => rfl
  have F44 := fun_mk (st := s_clamp_form) l44 c44 k44
  have m44 := PySem.W.mg_of X G a44
  have b44 := F44.binds (ps := ["table", "kind", "ids", "info"]) fun _ _ _ _ _ _ us hl => match us, hl with | [_, _, _, _], _ => rfl
  have F45 := fun_mk (st := s_shift_form) l45 c45 k45
  have m45 := PySem.W.mg_of X G a45
  have b45 := F45.binds (ps := ["table", "kind", "ids", "info"]) fun _ _ _ _ _ _ us hl => match us, hl with | [_, _, _, _], _ => rfl
  have F46 := fun_mk (st := s_where_form) l46 c46 k46
  have m46 := PySem.W.mg_of X G a46
  have b46 := F46.binds (ps := ["table", "kind", "ids", "info"]) fun _ _ _ _ _ _ us hl => match us, hl with | [_, _, _, _], _ => rfl
  have F47 := fun_mk (st := sis_too_wide) l47 c47 k47
  have m47 := PySem.W.mg_of X G a47
  have b47 := F47.binds (ps := ["n"]) fun _ _ _ _ _ _ us hl => match us, hl with | [_], _ => rfl
  have F48 := fun_mk (st := sBegin) l48 c48 k48
  have m48 := PySem.W.mg_of X G a48
  have b48 := F48.binds (ps := ["script"]) fun _ _ _ _ _ _ us hl => match us, hl with | [_], _ => rfl
  have F49 := fun_mk (st := sTake) l49 c49 k49
  have m49 := PySem.W.mg_of X G a49
  have b49 := F49.binds (ps := ["d", "many"]) fun _ _ _ _ _ _ us hl => match us, hl with | [_, _], _ => rfl
  have F50 := fun_mk (st := sSigned) l50 c50 k50
  have m50 := PySem.W.mg_of X G a50
  have b50 := F50.binds (ps := ["d", "most"]) fun _ _ _ _ _ _ us hl => match us, hl with | [_, _], _ => rfl
  have F51 := fun_mk (st := sInt) l51 c51 k51
  have m51 := PySem.W.mg_of X G a51
  have b51 := F51.binds (ps := ["actual"]) fun _ _ _ _ _ _ us hl => match us, hl with | [_], _ => rfl
  have F52 := fun_mk (st := s_law_told) l52 c52 k52
  have m52 := PySem.W.mg_of X G a52
  have b52 := F52.binds (ps := ["table", "ids", "index"]) fun _ _ _ _ _ _ us hl => match us, hl with | [_, _, _], _ => rfl
  have F53 := fun_mk (st := s_law_index) l53 c53 k53
  have m53 := PySem.W.mg_of X G a53
  have b53 := F53.binds (ps := ["d", "table", "x", "y"]) fun _ _ _ _ _ _ us hl => match us, hl with | [_, _, _, _], _ => rfl
  have F54 := fun_mk (st := slaw) l54 c54 k54
  have m54 := PySem.W.mg_of X G a54
  have n_abs := PySem.W.mg_none_of X G z_abs
  have n_all := PySem.W.mg_none_of X G z_all
  have n_bool := PySem.W.mg_none_of X G z_bool
  have n_int := PySem.W.mg_none_of X G z_int
  have n_isinstance := PySem.W.mg_none_of X G z_isinstance
  have n_len := PySem.W.mg_none_of X G z_len
  have n_list := PySem.W.mg_none_of X G z_list
  have n_max := PySem.W.mg_none_of X G z_max
  have n_min := PySem.W.mg_none_of X G z_min
  have n_range := PySem.W.mg_none_of X G z_range
  have n_set := PySem.W.mg_none_of X G z_set
  have n_sorted := PySem.W.mg_none_of X G z_sorted
  have n_sum := PySem.W.mg_none_of X G z_sum
  have n_tuple := PySem.W.mg_none_of X G z_tuple
  have TD : TxtD mg := ⟨n_int, n_abs, n_len, n_list⟩
  have T : TxtM mg := ⟨n_len, n_tuple, n_sorted, n_set, n_min, n_max, n_sum, n_all, n_abs, n_range⟩
  have R1 : ErrR K mg "FormError" z1 := ⟨PySem.W.mg_of X G aEz1, xz1, kEz1, bEz1, tEz1⟩
  have ET : TxtE K mg "FormError" z1 cT := ⟨⟨PySem.W.mg_of X G aEcT, bEcT, hEcT, tEcT⟩, PySem.W.mg_of X G aEz1, n_isinstance, sTz1, ⟨i1z1, i2z1, bEz1, hEz1, i3z1, xxi4, xxi5, i6z1⟩, kit_rr sz1z1 sz1z1 hEz1 tEz1⟩
  have C : TmC K cK := ⟨⟨pgK, hdK, poK, saK⟩, no_forms, no_spans, no_places, no_made, no_variables⟩
  refine ⟨PySem.W.fnOf "law" "law" (defArgs slaw) (defBody slaw) (defScope slaw) .none kV54 dc54 pm54 an54 cd54 ct54, fun s v => .of_eq rfl, fun base _ _ => ?_⟩
  have gform := ok_form (P := l.prog) (w := w) (K := K) (mg := mg) (base := base) F9 C
  have gspan := ok_span (P := l.prog) (w := w) (K := K) (mg := mg) (base := base) F7 C
  have gplace := ok_place (P := l.prog) (w := w) (K := K) (mg := mg) (base := base) F10 C T
  have M1 : Tm1 l.prog w K mg base cK := ⟨C, ⟨_, _, ⟨a9, i9, k9⟩, gform, b9⟩, ⟨_, _, ⟨a7, i7, k7⟩, gspan, b7⟩, ⟨_, _, ⟨a10, i10, k10⟩, gplace, b10⟩⟩
  have gnumber := ok_number (P := l.prog) (w := w) (K := K) (mg := mg) (base := base) F2 M1
  have M2 : Tm2 l.prog w K mg base cK := { toTm1 := M1, nu := ⟨_, _, ⟨a2, i2, k2⟩, gnumber, b2⟩ }
  have ginit := ok_init (P := l.prog) (w := w) (K := K) (mg := mg) (base := base) F1 C
  have gvar := ok_var (P := l.prog) (w := w) (K := K) (mg := mg) (base := base) F3 M2
  have glimit := ok_limit (P := l.prog) (w := w) (K := K) (mg := mg) (base := base) F12
  have gadd := ok_add (P := l.prog) (w := w) (K := K) (mg := mg) (base := base) F13
  have gsub := ok_sub (P := l.prog) (w := w) (K := K) (mg := mg) (base := base) F14
  have gmul := ok_mul (P := l.prog) (w := w) (K := K) (mg := mg) (base := base) F15
  have gmax := ok_max (P := l.prog) (w := w) (K := K) (mg := mg) (base := base) F16 n_max
  have gmin := ok_min (P := l.prog) (w := w) (K := K) (mg := mg) (base := base) F17 n_min
  have gless := ok_less (P := l.prog) (w := w) (K := K) (mg := mg) (base := base) F18
  have gequal := ok_equal (P := l.prog) (w := w) (K := K) (mg := mg) (base := base) F19
  have gneg := ok_neg (P := l.prog) (w := w) (K := K) (mg := mg) (base := base) F20
  have gclamp := ok_clamp (P := l.prog) (w := w) (K := K) (mg := mg) (base := base) F21 F12 b12 m12
  have gshift := ok_shift (P := l.prog) (w := w) (K := K) (mg := mg) (base := base) F22
  have gwhere := ok_where (P := l.prog) (w := w) (K := K) (mg := mg) (base := base) F23
  have PT : PtT l.prog w K mg base cM := { add := ⟨_, _, gadd.mono (by decide), k13, b13, escM, ncM, _, lcM, qcM, QcM_add, rfl⟩, sub := ⟨_, _, gsub.mono (by decide), k14, b14, escM, ncM, _, lcM, qcM, QcM_sub, rfl⟩, mul := ⟨_, _, gmul.mono (by decide), k15, b15, escM, ncM, _, lcM, qcM, QcM_mul, rfl⟩, max := ⟨_, _, gmax.mono (by decide), k16, b16, escM, ncM, _, lcM, qcM, QcM_max, rfl⟩, min := ⟨_, _, gmin.mono (by decide), k17, b17, escM, ncM, _, lcM, qcM, QcM_min, rfl⟩, less := ⟨_, _, gless.mono (by decide), k18, b18, escM, ncM, _, lcM, qcM, QcM_less, rfl⟩, equal := ⟨_, _, gequal.mono (by decide), k19, b19, escM, ncM, _, lcM, qcM, QcM_equal, rfl⟩, neg := ⟨_, _, gneg.mono (by decide), k20, b20, escM, ncM, _, lcM, qcM, QcM_neg, rfl⟩, clamp := ⟨_, _, gclamp.mono (by decide), k21, b21, escM, ncM, _, lcM, qcM, QcM_clamp, rfl⟩, shift := ⟨_, _, gshift.mono (by decide), k22, b22, escM, ncM, _, lcM, qcM, QcM_shift, rfl⟩, «where» := ⟨_, _, gwhere.mono (by decide), k23, b23, escM, ncM, _, lcM, qcM, QcM_where, rfl⟩ }
  have gpwK := ok_pwK (P := l.prog) (w := w) (K := K) (mg := mg) (base := base) F24 (PySem.W.mg_of X G acM) PT
  have gcorners := ok_corners (P := l.prog) (w := w) (K := K) (mg := mg) (base := base) F25 n_min n_max
  have gparts := ok_parts (P := l.prog) (w := w) (K := K) (mg := mg) (base := base) F26 T
  have gneeded := ok_needed (P := l.prog) (w := w) (K := K) (mg := mg) (base := base) F11 C T ⟨_, _, gparts, k26, b26, m26⟩
  have gvalof := ok_valof (P := l.prog) (w := w) (K := K) (mg := mg) (base := base) F27 T ⟨_, _, gpwK, k24, b24, m24⟩
  have gvalue := ok_value (P := l.prog) (w := w) (K := K) (mg := mg) (base := base) F8 C ⟨_, _, ⟨a11, i11, k11⟩, gneeded, b11⟩ ⟨_, _, gvalof, k27, b27, m27⟩
  have gsumof := ok_sumof (P := l.prog) (w := w) (K := K) (mg := mg) (base := base) F28 M2
  have gfos := ok_fos (P := l.prog) (w := w) (K := K) (mg := mg) (base := base) F29 M2 T
  have gknown := ok_known (P := l.prog) (w := w) (K := K) (mg := mg) (base := base) F32 M2
  have gsettled := ok_settled (P := l.prog) (w := w) (K := K) (mg := mg) (base := base) F33
  have gcanc := ok_canc (P := l.prog) (w := w) (K := K) (mg := mg) (base := base) F35 M2 T ⟨_, _, gcorners, k25, b25, m25⟩ ⟨_, _, gfos, k29, b29, m29⟩
  have gtimes := ok_times (P := l.prog) (w := w) (K := K) (mg := mg) (base := base) F36 M2 T ⟨_, _, gcorners, k25, b25, m25⟩ ⟨_, _, gfos, k29, b29, m29⟩ ⟨_, _, gsumof, k28, b28, m28⟩
  have gplus := ok_plus (P := l.prog) (w := w) (K := K) (mg := mg) (base := base) F34 M2 T ⟨_, _, gsumof, k28, b28, m28⟩ ⟨_, _, gcorners, k25, b25, m25⟩ ⟨_, _, gfos, k29, b29, m29⟩ ⟨_, _, gcanc, k35, b35, m35⟩
  have gmad := ok_mad (P := l.prog) (w := w) (K := K) (mg := mg) (base := base) F37 M2 ⟨_, _, gplus, k34, b34, m34⟩
  have gmsb := ok_msb (P := l.prog) (w := w) (K := K) (mg := mg) (base := base) F38 M2 ⟨_, _, gplus, k34, b34, m34⟩
  have gmmu := ok_mmu (P := l.prog) (w := w) (K := K) (mg := mg) (base := base) F40 M2 T ⟨_, _, gtimes, k36, b36, m36⟩ ⟨_, _, gcorners, k25, b25, m25⟩
  have gmex := ok_mex (P := l.prog) (w := w) (K := K) (mg := mg) (base := base) F41 M2 T ⟨_, _, gknown, k32, b32, m32⟩ ⟨_, _, gpwK, k24, b24, m24⟩
  have gmle := ok_mle (P := l.prog) (w := w) (K := K) (mg := mg) (base := base) F42 M2 ⟨_, _, gsettled, k33, b33, m33⟩
  have gmeq := ok_meq (P := l.prog) (w := w) (K := K) (mg := mg) (base := base) F43 M2 T ⟨_, _, gsettled, k33, b33, m33⟩
  have gmng := ok_mng (P := l.prog) (w := w) (K := K) (mg := mg) (base := base) F39 M2 ⟨_, _, gtimes, k36, b36, m36⟩
  have gmcl := ok_mcl (P := l.prog) (w := w) (K := K) (mg := mg) (base := base) F44 M2 ⟨_, _, gknown, k32, b32, m32⟩ ⟨_, _, glimit, k12, b12, m12⟩
  have gmsh := ok_msh (P := l.prog) (w := w) (K := K) (mg := mg) (base := base) F45 M2 ⟨_, _, gpwK, k24, b24, m24⟩
  have gmwh := ok_mwh (P := l.prog) (w := w) (K := K) (mg := mg) (base := base) F46 M2 T ⟨_, _, gknown, k32, b32, m32⟩
  have TF : TfT l.prog w K mg base cK cQ := { «add» := ⟨_, _, gmad.mono (by decide), k37, b37, escQ, ncQ, _, lcQ, qcQ, QcQ_add, rfl⟩, «sub» := ⟨_, _, gmsb.mono (by decide), k38, b38, escQ, ncQ, _, lcQ, qcQ, QcQ_sub, rfl⟩, «mul» := ⟨_, _, gmmu.mono (by decide), k40, b40, escQ, ncQ, _, lcQ, qcQ, QcQ_mul, rfl⟩, «max» := ⟨_, _, gmex.mono (by decide), k41, b41, escQ, ncQ, _, lcQ, qcQ, QcQ_max, rfl⟩, «min» := ⟨_, _, gmex.mono (by decide), k41, b41, escQ, ncQ, _, lcQ, qcQ, QcQ_min, rfl⟩, «less» := ⟨_, _, gmle.mono (by decide), k42, b42, escQ, ncQ, _, lcQ, qcQ, QcQ_less, rfl⟩, «equal» := ⟨_, _, gmeq.mono (by decide), k43, b43, escQ, ncQ, _, lcQ, qcQ, QcQ_equal, rfl⟩, «neg» := ⟨_, _, gmng.mono (by decide), k39, b39, escQ, ncQ, _, lcQ, qcQ, QcQ_neg, rfl⟩, «clamp» := ⟨_, _, gmcl.mono (by decide), k44, b44, escQ, ncQ, _, lcQ, qcQ, QcQ_clamp, rfl⟩, «shift» := ⟨_, _, gmsh.mono (by decide), k45, b45, escQ, ncQ, _, lcQ, qcQ, QcQ_shift, rfl⟩, «where» := ⟨_, _, gmwh.mono (by decide), k46, b46, escQ, ncQ, _, lcQ, qcQ, QcQ_where, rfl⟩ }
  have gmade := ok_made (P := l.prog) (w := w) (K := K) (mg := mg) (base := base) F31 (PySem.W.mg_of X G acQ) TF
  have gtw := ok_tw (P := l.prog) (w := w) (K := K) (mg := mg) (base := base) F47 T ⟨_, PySem.W.mg_of X G eVL, _, rfl⟩
  have gmkT := ok_mkT (P := l.prog) (w := w) (K := K) (mg := mg) (base := base) F4 M2 ⟨_, _, gmade, k31, b31, m31⟩ ⟨_, _, gtw, k47, b47, m47⟩
  have growof := ok_rowof (P := l.prog) (w := w) (K := K) (mg := mg) (base := base) F30 M2 T (PySem.W.mg_of X G eGc) ⟨_, _, gsumof, k28, b28, m28⟩
  have grow := ok_row (P := l.prog) (w := w) (K := K) (mg := mg) (base := base) F6 M2 ⟨_, _, growof, k30, b30, m30⟩ ⟨_, _, gfos, k29, b29, m29⟩
  have gpick := ok_pick (P := l.prog) (w := w) (K := K) (mg := mg) (base := base) F5 M2 T R1 ⟨_, _, ⟨a6, i6, k6⟩, grow, b6⟩
  have gbegin := ok_begin (P := l.prog) (w := w) (K := K) (mg := mg) (base := base) F48 TD
  have gtake := ok_take (P := l.prog) (w := w) (K := K) (mg := mg) (base := base) F49 TD
  have gsigned := ok_signed (P := l.prog) (w := w) (K := K) (mg := mg) (base := base) F50 gtake k49 b49 m49
  have gint := ok_int (P := l.prog) (w := w) (K := K) (mg := mg) (base := base) F51 n_isinstance n_int n_bool
  have gtoldP := ok_toldP (P := l.prog) (w := w) (K := K) (mg := mg) (base := base) F52 ET C ⟨_, _, ⟨a5, i5, k5⟩, gpick, b5⟩
  have TL : TmL l.prog w K mg base cK := { toTm2 := M2, va := ⟨_, _, ⟨a8, i8, k8⟩, gvalue, b8⟩, vb := ⟨_, _, ⟨a3, i3, k3⟩, gvar, b3⟩, mke := ⟨_, _, ⟨a4, i4, k4⟩, gmkT, b4⟩, ini := ⟨_, _, ⟨mkK, a1, i1, kcK⟩, ginit, b1⟩, gT := PySem.W.mg_of X G acK }
  have gindex := ok_index (P := l.prog) (w := w) (K := K) (mg := mg) (base := base) F53 TL ⟨_, _, gtake, k49, b49, m49⟩ ⟨_, _, gsigned, k50, b50, m50⟩
  exact ok_law (P := l.prog) (w := w) (K := K) (mg := mg) (base := base) F54 T TL ⟨_, _, gbegin, k48, b48, m48⟩ ⟨_, _, gtake, k49, b49, m49⟩ ⟨_, _, gsigned, k50, b50, m50⟩ ⟨_, _, gint, k51, b51, m51⟩ ⟨_, _, gtoldP, k52, b52, m52⟩ ⟨_, _, gindex, k53, b53, m53⟩

end My
open PySem PySem.W PyProof.Rows
set_option maxRecDepth 100000 in
set_option maxHeartbeats 0 in
theorem PySem.Challenge.cw_tensorcompiler_k30_picked_terms_holds : PySem.Challenge.rw_tensorcompiler_k30_picked_terms.Holds := by
  w_on; o_law; k_head; (case hw => w_witness2)
  k_fill
  refine L2.walk_of (l := PySem.Challenge.rw_tensorcompiler_k30_picked_terms) (n := 63) (k := 9) (x := "script") (CX := fun _ => L2.CX0) (sp := fun w => My.spLaw _) rfl (by decide) rfl ⟨rfl, by decide, by decide⟩ (fun w h Y => PySem.W.kIn_of Y) ?F (fun _ _ a ns hl _ hS => ⟨a, ns, rfl, hS, hl, fun _ => rfl⟩) (fun _ _ _ _ _ h => h)
  case F =>
    intro w mg fa h KX G hmg
    refine' My.all_mk KX G hmg ?a1 ?i1 ?l1 ?c1 ?k1 ?a2 ?i2 ?l2 ?c2 ?k2 ?a3 ?i3 ?l3 ?c3 ?k3 ?a4 ?i4 ?l4 ?c4 ?k4 ?a5 ?i5 ?l5 ?c5 ?k5 ?a6 ?i6 ?l6 ?c6 ?k6 ?a7 ?i7 ?l7 ?c7 ?k7 ?a8 ?i8 ?l8 ?c8 ?k8 ?a9 ?i9 ?l9 ?c9 ?k9 ?a10 ?i10 ?l10 ?c10 ?k10 ?a11 ?i11 ?l11 ?c11 ?k11 ?a12 ?l12 ?c12 ?k12 ?a13 ?l13 ?c13 ?k13 ?a14 ?l14 ?c14 ?k14 ?a15 ?l15 ?c15 ?k15 ?a16 ?l16 ?c16 ?k16 ?a17 ?l17 ?c17 ?k17 ?a18 ?l18 ?c18 ?k18 ?a19 ?l19 ?c19 ?k19 ?a20 ?l20 ?c20 ?k20 ?a21 ?l21 ?c21 ?k21 ?a22 ?l22 ?c22 ?k22 ?a23 ?l23 ?c23 ?k23 ?a24 ?l24 ?c24 ?k24 ?a25 ?l25 ?c25 ?k25 ?a26 ?l26 ?c26 ?k26 ?a27 ?l27 ?c27 ?k27 ?a28 ?l28 ?c28 ?k28 ?a29 ?l29 ?c29 ?k29 ?a30 ?l30 ?c30 ?k30 ?a31 ?l31 ?c31 ?k31 ?a32 ?l32 ?c32 ?k32 ?a33 ?l33 ?c33 ?k33 ?a34 ?l34 ?c34 ?k34 ?a35 ?l35 ?c35 ?k35 ?a36 ?l36 ?c36 ?k36 ?a37 ?l37 ?c37 ?k37 ?a38 ?l38 ?c38 ?k38 ?a39 ?l39 ?c39 ?k39 ?a40 ?l40 ?c40 ?k40 ?a41 ?l41 ?c41 ?k41 ?a42 ?l42 ?c42 ?k42 ?a43 ?l43 ?c43 ?k43 ?a44 ?l44 ?c44 ?k44 ?a45 ?l45 ?c45 ?k45 ?a46 ?l46 ?c46 ?k46 ?a47 ?l47 ?c47 ?k47 ?a48 ?l48 ?c48 ?k48 ?a49 ?l49 ?c49 ?k49 ?a50 ?l50 ?c50 ?k50 ?a51 ?l51 ?c51 ?k51 ?a52 ?l52 ?c52 ?k52 ?a53 ?l53 ?c53 ?k53 ?a54 ?l54 ?c54 ?k54 ?acK ?pgK ?hdK ?poK ?saK ?mkK ?kcK ?no_forms ?no_spans ?no_places ?no_made ?no_variables ?acM ?lcM ?qcM ?QcM_add ?QcM_sub ?QcM_mul ?QcM_max ?QcM_min ?QcM_less ?QcM_equal ?QcM_neg ?QcM_clamp ?QcM_shift ?QcM_where ?acQ ?lcQ ?qcQ ?QcQ_add ?QcQ_sub ?QcQ_mul ?QcQ_max ?QcQ_min ?QcQ_less ?QcQ_equal ?QcQ_neg ?QcQ_clamp ?QcQ_shift ?QcQ_where ?eVL ?aEz1 ?kEz1 ?bEz1 ?tEz1 ?hEz1 ?aEcT ?kEcT ?bEcT ?tEcT ?hEcT ?xz1 ?sTz1 ?i1z1 ?i2z1 ?i3z1 ?i6z1 ?sz1z1 ?xxi4 ?xxi5 ?eGc ?z_abs ?z_all ?z_bool ?z_int ?z_isinstance ?z_len ?z_list ?z_max ?z_min ?z_range ?z_set ?z_sorted ?z_sum ?z_tuple
    (case acK => k_is); (case a1 => k_is); (case i1 => k_is); (case l1 => k_is); (case c1 => k_is); (case k1 => k_is); (case a2 => k_is); (case i2 => k_is); (case l2 => k_is); (case c2 => k_is); (case k2 => k_is); (case a3 => k_is); (case i3 => k_is); (case l3 => k_is); (case c3 => k_is); (case k3 => k_is); (case a4 => k_is); (case i4 => k_is); (case l4 => k_is); (case c4 => k_is); (case k4 => k_is); (case a5 => k_is); (case i5 => k_is); (case l5 => k_is); (case c5 => k_is); (case k5 => k_is); (case a6 => k_is); (case i6 => k_is); (case l6 => k_is); (case c6 => k_is); (case k6 => k_is); (case a7 => k_is); (case i7 => k_is); (case l7 => k_is); (case c7 => k_is); (case k7 => k_is); (case a8 => k_is); (case i8 => k_is); (case l8 => k_is); (case c8 => k_is); (case k8 => k_is); (case a9 => k_is); (case i9 => k_is); (case l9 => k_is); (case c9 => k_is); (case k9 => k_is); (case a10 => k_is); (case i10 => k_is); (case l10 => k_is); (case c10 => k_is); (case k10 => k_is); (case a11 => k_is); (case i11 => k_is); (case l11 => k_is); (case c11 => k_is); (case k11 => k_is); (case a12 => k_is); (case l12 => k_is); (case c12 => k_is); (case k12 => k_is); (case a13 => k_is); (case l13 => k_is); (case c13 => k_is); (case k13 => k_is); (case a14 => k_is); (case l14 => k_is); (case c14 => k_is); (case k14 => k_is); (case a15 => k_is); (case l15 => k_is); (case c15 => k_is); (case k15 => k_is); (case a16 => k_is); (case l16 => k_is); (case c16 => k_is); (case k16 => k_is); (case a17 => k_is); (case l17 => k_is); (case c17 => k_is); (case k17 => k_is); (case a18 => k_is); (case l18 => k_is); (case c18 => k_is); (case k18 => k_is); (case a19 => k_is); (case l19 => k_is); (case c19 => k_is); (case k19 => k_is); (case a20 => k_is); (case l20 => k_is); (case c20 => k_is); (case k20 => k_is); (case a21 => k_is); (case l21 => k_is); (case c21 => k_is); (case k21 => k_is); (case a22 => k_is); (case l22 => k_is); (case c22 => k_is); (case k22 => k_is); (case a23 => k_is); (case l23 => k_is); (case c23 => k_is); (case k23 => k_is); (case a24 => k_is); (case l24 => k_is); (case c24 => k_is); (case k24 => k_is); (case a25 => k_is); (case l25 => k_is); (case c25 => k_is); (case k25 => k_is); (case a26 => k_is); (case l26 => k_is); (case c26 => k_is); (case k26 => k_is); (case a27 => k_is); (case l27 => k_is); (case c27 => k_is); (case k27 => k_is); (case a28 => k_is); (case l28 => k_is); (case c28 => k_is); (case k28 => k_is); (case a29 => k_is); (case l29 => k_is); (case c29 => k_is); (case k29 => k_is); (case a30 => k_is); (case l30 => k_is); (case c30 => k_is); (case k30 => k_is); (case a31 => k_is); (case l31 => k_is); (case c31 => k_is); (case k31 => k_is); (case a32 => k_is); (case l32 => k_is); (case c32 => k_is); (case k32 => k_is); (case a33 => k_is); (case l33 => k_is); (case c33 => k_is); (case k33 => k_is); (case a34 => k_is); (case l34 => k_is); (case c34 => k_is); (case k34 => k_is); (case a35 => k_is); (case l35 => k_is); (case c35 => k_is); (case k35 => k_is); (case a36 => k_is); (case l36 => k_is); (case c36 => k_is); (case k36 => k_is); (case a37 => k_is); (case l37 => k_is); (case c37 => k_is); (case k37 => k_is); (case a38 => k_is); (case l38 => k_is); (case c38 => k_is); (case k38 => k_is); (case a39 => k_is); (case l39 => k_is); (case c39 => k_is); (case k39 => k_is); (case a40 => k_is); (case l40 => k_is); (case c40 => k_is); (case k40 => k_is); (case a41 => k_is); (case l41 => k_is); (case c41 => k_is); (case k41 => k_is); (case a42 => k_is); (case l42 => k_is); (case c42 => k_is); (case k42 => k_is); (case a43 => k_is); (case l43 => k_is); (case c43 => k_is); (case k43 => k_is); (case a44 => k_is); (case l44 => k_is); (case c44 => k_is); (case k44 => k_is); (case a45 => k_is); (case l45 => k_is); (case c45 => k_is); (case k45 => k_is); (case a46 => k_is); (case l46 => k_is); (case c46 => k_is); (case k46 => k_is); (case a47 => k_is); (case l47 => k_is); (case c47 => k_is); (case k47 => k_is); (case a48 => k_is); (case l48 => k_is); (case c48 => k_is); (case k48 => k_is); (case a49 => k_is); (case l49 => k_is); (case c49 => k_is); (case k49 => k_is); (case a50 => k_is); (case l50 => k_is); (case c50 => k_is); (case k50 => k_is); (case a51 => k_is); (case l51 => k_is); (case c51 => k_is); (case k51 => k_is); (case a52 => k_is); (case l52 => k_is); (case c52 => k_is); (case k52 => k_is); (case a53 => k_is); (case l53 => k_is); (case c53 => k_is); (case k53 => k_is); (case a54 => k_is); (case l54 => k_is); (case c54 => k_is); (case k54 => k_is); (case pgK => k_is); (case hdK => k_is); (case poK => k_is); (case saK => k_is); (case mkK => k_is); (case kcK => k_is); (case no_forms => k_is); (case no_spans => k_is); (case no_places => k_is); (case no_made => k_is); (case no_variables => k_is); (case acM => k_is); (case lcM => k_is); (case qcM => repeat (first | exact True.intro | refine ⟨⟨_, _, rfl, rfl⟩, ?_⟩)); (case QcM_add => k_is); (case QcM_sub => k_is); (case QcM_mul => k_is); (case QcM_max => k_is); (case QcM_min => k_is); (case QcM_less => k_is); (case QcM_equal => k_is); (case QcM_neg => k_is); (case QcM_clamp => k_is); (case QcM_shift => k_is); (case QcM_where => k_is); (case acQ => k_is); (case lcQ => k_is); (case qcQ => repeat (first | exact True.intro | refine ⟨⟨_, _, rfl, rfl⟩, ?_⟩)); (case QcQ_add => k_is); (case QcQ_sub => k_is); (case QcQ_mul => k_is); (case QcQ_max => k_is); (case QcQ_min => k_is); (case QcQ_less => k_is); (case QcQ_equal => k_is); (case QcQ_neg => k_is); (case QcQ_clamp => k_is); (case QcQ_shift => k_is); (case QcQ_where => k_is); (case eVL => k_is); (case aEz1 => k_is); (case kEz1 => k_is); (case bEz1 => k_is); (case tEz1 => k_is); (case hEz1 => k_is); (case aEcT => k_is); (case kEcT => k_is); (case bEcT => k_is); (case tEcT => k_is); (case hEcT => k_is); (case xz1 => k_exc); (case sTz1 => k_is); (case i1z1 => k_is); (case i2z1 => k_is); (case i3z1 => k_is); (case i6z1 => k_is); (case sz1z1 => first | rfl | k_is); (case xxi4 => k_is); (case xxi5 => k_is); (case eGc => k_is); (case z_abs => k_is); (case z_all => k_is); (case z_bool => k_is); (case z_int => k_is); (case z_isinstance => k_is); (case z_len => k_is); (case z_list => k_is); (case z_max => k_is); (case z_min => k_is); (case z_range => k_is); (case z_set => k_is); (case z_sorted => k_is); (case z_sum => k_is); (case z_tuple => k_is)
