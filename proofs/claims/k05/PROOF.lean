import PyProof.Rows.All
import Wide.All
import OpenK.AllK
import Wide.FinOn
import HandS.ForMost
import HandS.Wide
import HandS.Evl
import HandS.Zip
import HandS.Rev
import HandS.Conv
import HandS.IsInst
import HandS.Walk
import PySem.Challenge.RW_tensorcompiler_k05_row_major_order
set_option Elab.async false
set_option linter.all false
set_option maxRecDepth 100000
set_option maxHeartbeats 4000000
namespace My
open PySem L2
/-! ### the text -/
def topS (i : Nat) : Stmt := PySem.Challenge.pw_tensorcompiler_k05_row_major_order.main.body.getD i (.Pass ⟨0, 0, 0, 0⟩)
abbrev sOffset : Stmt := topS 1
abbrev sIndexes : Stmt := topS 2
abbrev sBegin : Stmt := topS 4
abbrev sTake : Stmt := topS 5
abbrev sInt : Stmt := topS 6
abbrev sCount : Stmt := topS 7
abbrev sLaw : Stmt := topS 8
/-! ### the mathematics of positions -/
def prod : List Int → Int
  | [] => 1
  | s :: ss => s * prod ss
def offF : Int → List Int → List Int → Int
  | acc, s :: ss, n :: ns => offF (acc * s + n) ss ns
  | acc, _, _ => acc
/-- the indexes and what is left over, the last axis first -/
def idxG : List Int → Int → List Int × Int
  | [], r => ([], r)
  | s :: ss, r => ((idxG ss r).2 % s :: (idxG ss r).1, (idxG ss r).2 / s)
def val : List Int → List Int → Int
  | _ :: ss, n :: ns => n * prod ss + val ss ns
  | _, _ => 0
inductive In : List Int → List Int → Prop
  | nil : In [] []
  | cons {s n : Int} {ss ns : List Int} (h0 : 0 ≤ n) (h1 : n < s) (t : In ss ns) : In (s :: ss) (n :: ns)
theorem prod_pos : ∀ {ss : List Int}, (∀ s ∈ ss, 1 ≤ s) → 1 ≤ prod ss
  | [], _ => by decide
  | s :: ss, h => by
    have h1 := h s List.mem_cons_self
    have h2 := prod_pos (ss := ss) (fun x hx => h x (List.mem_cons_of_mem _ hx))
    show 1 ≤ s * prod ss
    have := Int.mul_le_mul h1 h2 (by decide) (by omega)
    omega
theorem idx_len : ∀ (ss : List Int) (r : Int), (idxG ss r).1.length = ss.length
  | [], _ => rfl
  | s :: ss, r => by show (idxG ss r).1.length + 1 = ss.length + 1; rw [idx_len ss r]
theorem idx_in : ∀ {ss : List Int} (r : Int), (∀ s ∈ ss, 1 ≤ s) → In ss (idxG ss r).1
  | [], _, _ => .nil
  | s :: ss, r, h => by
    have h1 := h s List.mem_cons_self
    exact .cons (Int.emod_nonneg _ (by omega)) (Int.emod_lt_of_pos _ (by omega)) (idx_in r fun x hx => h x (List.mem_cons_of_mem _ hx))
theorem idx_val : ∀ {ss : List Int} (r : Int), (idxG ss r).2 * prod ss + val ss (idxG ss r).1 = r
  | [], r => by show r * 1 + 0 = r; omega
  | s :: ss, r => by
    have ih := idx_val (ss := ss) r
    show (idxG ss r).2 / s * (s * prod ss) + ((idxG ss r).2 % s * prod ss + val ss (idxG ss r).1) = r
    generalize (idxG ss r).2 = q at *
    generalize val ss (idxG ss r).1 = v at *
    have e : q / s * (s * prod ss) + q % s * prod ss = q * prod ss := by
      rw [← Int.mul_assoc, ← Int.add_mul]
      congr 1
      have := Int.emod_add_mul_ediv q s
      rw [Int.mul_comm s (q / s)] at this
      omega
    omega
theorem val_lt : ∀ {ss ns : List Int}, In ss ns → 0 ≤ val ss ns ∧ val ss ns < prod ss
  | _, _, .nil => by decide
  | _, _, .cons (s := s) (n := n) (ss := ss) (ns := ns) h0 h1 t => by
    have ih := val_lt t
    show 0 ≤ n * prod ss + val ss ns ∧ n * prod ss + val ss ns < s * prod ss
    have hp : 0 ≤ prod ss := by omega
    have a : 0 ≤ n * prod ss := Int.mul_nonneg h0 hp
    have b : (n + 1) * prod ss ≤ s * prod ss := Int.mul_le_mul_of_nonneg_right (by omega) hp
    rw [Int.add_mul, Int.one_mul] at b
    omega
theorem off_val : ∀ {ss ns : List Int} (acc : Int), In ss ns → offF acc ss ns = acc * prod ss + val ss ns
  | _, _, acc, .nil => by show acc = acc * 1 + 0; omega
  | _, _, acc, .cons (s := s) (n := n) (ss := ss) (ns := ns) h0 h1 t => by
    show offF (acc * s + n) ss ns = acc * (s * prod ss) + (n * prod ss + val ss ns)
    rw [off_val (acc * s + n) t, Int.add_mul, Int.mul_assoc]
    omega
theorem lex_val : ∀ {ss xs ys : List Int}, In ss xs → In ss ys → val ss xs < val ss ys → HT.lexLt xs ys = true
  | _, _, _, .nil, .nil, h => by exact absurd h (by decide)
  | _, _, _, .cons (s := s) (n := n) (ss := ss) (ns := ns) h0 h1 t, .cons (n := m) (ns := ms) k0 k1 u, h => by
    have h' : n * prod ss + val ss ns < m * prod ss + val ss ms := h
    have a := val_lt t
    have b := val_lt u
    have hp : 0 ≤ prod ss := by omega
    show (if n = m then HT.lexLt ns ms else decide (n < m)) = true
    by_cases e : n = m
    · subst e
      rw [if_pos rfl]
      exact lex_val t u (by omega)
    · rw [if_neg e]
      refine decide_eq_true ?_
      by_cases g : n < m
      · exact g
      · have c : (m + 1) * prod ss ≤ n * prod ss := Int.mul_le_mul_of_nonneg_right (by omega) hp
        rw [Int.add_mul, Int.one_mul] at c
        omega
theorem idx_at {ss : List Int} {r : Int} (h : ∀ s ∈ ss, 1 ≤ s) (h0 : 0 ≤ r) (h1 : r < prod ss) : val ss (idxG ss r).1 = r := by
  have e := idx_val (ss := ss) r
  have v := val_lt (idx_in r h)
  generalize (idxG ss r).2 = q at *
  generalize val ss (idxG ss r).1 = z at *
  have q0 : q = 0 := by
    by_cases g : 1 ≤ q
    · have : 1 * prod ss ≤ q * prod ss := Int.mul_le_mul_of_nonneg_right g (by omega)
      omega
    · by_cases g2 : q ≤ -1
      · have : q * prod ss ≤ (-1) * prod ss := Int.mul_le_mul_of_nonneg_right g2 (by omega)
        omega
      · omega
  subst q0
  omega
theorem idx_off {ss : List Int} {r : Int} (h : ∀ s ∈ ss, 1 ≤ s) (h0 : 0 ≤ r) (h1 : r < prod ss) : offF 0 ss (idxG ss r).1 = r := by
  rw [off_val 0 (idx_in r h), idx_at h h0 h1]
  omega
theorem idx_lex {ss : List Int} {r t : Int} (h : ∀ s ∈ ss, 1 ≤ s) (h0 : 0 ≤ r) (h1 : r < t) (h2 : t < prod ss) : HT.lexLt (idxG ss r).1 (idxG ss t).1 = true :=
  lex_val (idx_in r h) (idx_in t h) (by rw [idx_at h h0 (by omega), idx_at h (by omega) h2]; exact h1)
theorem In.get : ∀ {ss ns : List Int}, In ss ns → ∀ {k : Nat} {s n : Int}, ss[k]? = some s → ns[k]? = some n → 0 ≤ n ∧ n < s
  | _, _, .nil, k, s, n, h, _ => by simp at h
  | _, _, .cons h0 h1 t, 0, s, n, a, b => by
    simp only [List.getElem?_cons_zero, Option.some.injEq] at a b
    subst a b
    exact ⟨h0, h1⟩
  | _, _, .cons h0 h1 t, k + 1, s, n, a, b => t.get (k := k) (by simpa using a) (by simpa using b)
theorem offF_all {acc : Int} : ∀ {ss : List Int}, offF acc ss [] = acc := fun {ss} => by cases ss <;> rfl
/-! ### shapes: tuples (or lists) of pairs of a letter and a size -/
abbrev Sh := List (Str × Int)
def sizes (sh : Sh) : List Int := sh.map (·.2)
/-- the axes stand at the places ts -/
def Axes (H : Hp) (ts : List Addr) (sh : Sh) : Prop := ts.length = sh.length ∧ ∀ (i : Nat) (t : Addr) (p : Str × Int), ts[i]? = some t → sh[i]? = some p → H t = some (.tup [.str p.1, .int p.2])
theorem Axes.same {H H' : Hp} {ts : List Addr} {sh : Sh} (h : Axes H ts sh) (s : Same H H') : Axes H' ts sh := ⟨h.1, fun i t p a b => s _ _ (h.2 i t p a b)⟩
theorem Axes.keep {H H' : Hp} {ts : List Addr} {sh : Sh} (h : Axes H ts sh) (s : ∀ b xs, H b = some (.tup xs) → H' b = some (.tup xs)) : Axes H' ts sh := ⟨h.1, fun i t p a b => s _ _ (h.2 i t p a b)⟩
theorem Axes.nil {H : Hp} : Axes H [] [] := ⟨rfl, fun _ _ _ h _ => by simp at h⟩
theorem Axes.snoc {H : Hp} {ts : List Addr} {sh : Sh} {t : Addr} {p : Str × Int} (h : Axes H ts sh) (ht : H t = some (.tup [.str p.1, .int p.2])) : Axes H (ts ++ [t]) (sh ++ [p]) := by
  refine ⟨by simp [h.1], fun i u q a b => ?_⟩
  by_cases hi : i < ts.length
  · rw [List.getElem?_append_left hi] at a
    rw [List.getElem?_append_left (by rw [← h.1]; exact hi)] at b
    exact h.2 i u q a b
  · rw [List.getElem?_append_right (by omega)] at a
    rw [List.getElem?_append_right (by rw [← h.1]; omega)] at b
    rw [h.1] at a
    cases z : i - sh.length with
    | zero =>
      rw [z] at a b
      simp only [List.getElem?_cons_zero, Option.some.injEq] at a b
      subst a b
      exact ht
    | succ j =>
      rw [z] at a
      simp at a
/-- the i-th axis -/
theorem Axes.at {H : Hp} {ts : List Addr} {sh : Sh} (h : Axes H ts sh) {i : Nat} {x : V} (hx : (ts.map V.ref)[i]? = some x) : ∃ (t : Addr) (p : Str × Int), x = .ref t ∧ ts[i]? = some t ∧ sh[i]? = some p ∧ H t = some (.tup [.str p.1, .int p.2]) := by
  rw [List.getElem?_map] at hx
  cases e : ts[i]? with
  | none => rw [e] at hx; cases hx
  | some t =>
    rw [e] at hx
    have hi : i < sh.length := by
      have := (List.getElem?_eq_some_iff.mp e).1
      rw [← h.1]; exact this
    exact ⟨t, sh[i], (Option.some.inj hx).symm, rfl, List.getElem?_eq_getElem hi, h.2 i t _ e (List.getElem?_eq_getElem hi)⟩
/-- a tuple that is a shape -/
def ShT (K : PySem.W.Frag) (H : Hp) (a : Addr) (sh : Sh) : Prop := ∃ ts : List Addr, H a = some (.tup (ts.map V.ref)) ∧ Axes H ts sh
theorem ShT.same {K : PySem.W.Frag} {H H' : Hp} {a : Addr} {sh : Sh} (h : ShT K H a sh) (s : Same H H') : ShT K H' a sh := by
  obtain ⟨ts, h1, h2⟩ := h
  exact ⟨ts, s _ _ h1, h2.same s⟩
def Fine (sh : Sh) : Prop := ∀ p ∈ sh, 1 ≤ p.2 ∧ p.2 ≤ 16
theorem Fine.sizes {sh : Sh} (h : Fine sh) : ∀ s ∈ sizes sh, 1 ≤ s := by
  intro s hs
  obtain ⟨p, hp, rfl⟩ := List.mem_map.mp hs
  exact (h p hp).1
theorem same_upd {H : Hp} {p : Addr} {o : HO} (h : H p = none) : Same H (upd H p o) := fun b x e => by
  rw [upd_ne (ne_of_none e h)]
  exact e
theorem map_int_at {ns : List Int} {i : Nat} {x : V} (h : (ns.map V.int)[i]? = some x) : ∃ n, x = .int n ∧ ns[i]? = some n := by
  rw [List.getElem?_map] at h
  cases e : ns[i]? with
  | none => rw [e] at h; cases h
  | some n => rw [e] at h; exact ⟨n, (Option.some.inj h).symm, rfl⟩
theorem drop_at {α : Type} {l : List α} {i : Nat} {x : α} (h : l[i]? = some x) : l.drop i = x :: l.drop (i + 1) := by
  obtain ⟨hi, e⟩ := List.getElem?_eq_some_iff.mp h
  rw [List.drop_eq_getElem_cons hi, e]
/-! ### drawing -/
/-- all but one place stands as it was -/
def But (d : Addr) (H H' : Hp) : Prop := ∀ b, b ≠ d → H' b = H b
theorem But.refl (d : Addr) (H : Hp) : But d H H := fun _ _ => rfl
theorem But.trans {d : Addr} {H H1 H2 : Hp} (a : But d H H1) (b : But d H1 H2) : But d H H2 := fun c h => (b c h).trans (a c h)
theorem But.upd {d : Addr} {H : Hp} {o : HO} : But d H (upd H d o) := fun _ h => upd_ne h
/-- the drawing state -/
def DrAt (H : Hp) (d c : Addr) : Prop := ∃ (ns : List Int) (i : Nat) (r s : Int), c ≠ d ∧ H d = some (.lst [.ref c, .int i, .int r, .int s]) ∧ H c = some (.lst (ns.map V.int)) ∧ i ≤ ns.length ∧ 0 ≤ r ∧ 0 ≤ s ∧ s < 2147483647
theorem DrAt.same {H H' : Hp} {d c : Addr} (h : DrAt H d c) (s : Same H H') : DrAt H' d c := by
  obtain ⟨ns, i, r, sd, n, h1, h2, h3⟩ := h
  exact ⟨ns, i, r, sd, n, s _ _ h1, s _ _ h2, h3⟩
theorem DrAt.lst {H : Hp} {d c : Addr} (h : DrAt H d c) : ∃ xs, H d = some (.lst xs) := by
  obtain ⟨ns, i, r, sd, n, h1, _⟩ := h
  exact ⟨_, h1⟩
theorem DrAt.lstc {H : Hp} {d c : Addr} (h : DrAt H d c) : ∃ xs, H c = some (.lst xs) := by
  obtain ⟨ns, i, r, sd, n, _, h1, _⟩ := h
  exact ⟨_, h1⟩
/-- another list may be changed -/
theorem DrAt.upd {H : Hp} {d c p : Addr} (h : DrAt H d c) (o : HO) (nd : p ≠ d) (nc : p ≠ c) : DrAt (upd H p o) d c := by
  obtain ⟨ns, i, r, sd, n, h1, h2, h3⟩ := h
  exact ⟨ns, i, r, sd, n, by rw [upd_ne nd.symm]; exact h1, by rw [upd_ne nc.symm]; exact h2, h3⟩
/-- what is no list is kept by a draw -/
theorem But.tup {d c b : Addr} {H H' : Hp} {xs : List V} (k : But d H H') (h : DrAt H d c) (hb : H b = some (.tup xs)) : H' b = some (.tup xs) := by
  obtain ⟨ys, hd⟩ := h.lst
  rw [k b (ne_of hb hd (fun z => nomatch z))]
  exact hb
def Bnd (m : Int) : Prop := m < 2 ^ 400
structure TxtD (mg : Str → Option Value) : Prop where
  int : mg "int" = none
  abs : mg "abs" = none
  len : mg "len" = none
  list : mg "list" = none
section
variable {P : Program} {w : World} {K : PySem.W.Frag} {mg : Str → Option Value} {base : Heap}
def spBegin (K : PySem.W.Frag) : Sp := fun vs H Q _ => ∃ (a : Addr) (ns : List Int), vs = [.ref a] ∧ SqL K H a (ns.map V.int) ∧ ns.length ≤ 63 ∧
  ∀ H' d c, Same H H' → H d = none → H c = none → DrAt H' d c → Q (.ref d) H'
theorem scB : FnScope ["script", "seed", "cell"] ["script"] (defScope sBegin) := ⟨rfl, rfl, rfl, by decide +kernel, rfl, by decide +kernel, by decide +kernel⟩
theorem ok_begin {f : Addr} {fd : FuncData} (F : Fun K "_law_begin" "_law_begin" sBegin f fd) (T : TxtD mg) : FnOk P w K mg base CX0 1 f fd ["script"] (spBegin K) := by
  refine F.ok scB (fun vs H Q E h => ?_) (fun cdv A outer s H vs Q E hr h => ?_)
  · obtain ⟨a, ns, rfl, _⟩ := h
    rfl
  · obtain ⟨a, ns, rfl, hS, hlen, q⟩ := h
    refine ⟨_, pss_cons (ps_set (i := 1) scB.nd rfl (.inl rfl) pe_int)
      (pss_cons (ps_for PassesOwn.never rfl (pi_list (pv 0)) (pg_name (i := 2) scB.nd rfl (.inl rfl))
        (pss_one (ps_set (i := 1) scB.nd rfl (.inl rfl)
          (pe_op op_mod (pe_op op_add (pe_op op_add (pe_op op_mul (pv 1) pe_int) (pe_op op_mod (pe_callTy call_int1 (by rfl) T.int (by decide +kernel) (pa_cons (pv 2) pa_nil)) pe_int)) pe_int) pe_int))))
      (pss_one (ps_ret (pe_lst (pa_cons (pe_callTy call_list_of (by rfl) T.list (by decide +kernel) (pa_cons (pv 0) pa_nil)) (pa_cons pe_int (pa_cons pe_int (pa_cons (pv 1) pa_nil)))))))), ?_⟩
    refine ⟨_, rfl, a, rfl, ⟨_, hS⟩, for_list (K := K) (a := a) (xs := ns.map V.int) (fun i σ H' => ∃ (z : Int) (v : Option V), σ = [some (.ref a), some (.int z), v] ∧ H' = H ∧ 0 ≤ z ∧ z < 2147483647)
      ⟨1, none, rfl, rfl, by decide, by decide⟩ (fun i σ H' _ ⟨_, _, _, e, _⟩ => by rw [e]; exact hS) ?_ ?_⟩
    · rintro i x σ H' hi ⟨z, v, rfl, rfl, h0, h1⟩
      obtain ⟨u, rfl⟩ : ∃ u, x = V.int u := by
        rw [List.getElem?_map] at hi
        cases e : ns[i]? with
        | none => rw [e] at hi; cases hi
        | some u => rw [e] at hi; exact ⟨u, (Option.some.inj hi).symm⟩
      refine ⟨_, rfl, _, _, rfl, rfl, .inl ⟨by omega, by omega⟩, _, rfl, .inl ⟨_, rfl, _, _, rfl, rfl, (by show (0 : Int) < 2147483629; decide), _, _, rfl, rfl, _, _, rfl, rfl, _, _, rfl, rfl, (by show (0 : Int) < 2147483647; decide), ?_⟩⟩
      exact ⟨_, _, rfl, rfl, Int.emod_nonneg _ (by decide), Int.emod_lt_of_pos _ (by decide)⟩
    · rintro σ H' ⟨z, v, rfl, rfl, h0, h1⟩
      refine ⟨_, rfl, a, _, rfl, .inl hS, fun c nc => ⟨_, rfl, by show 4 ≤ sizeLine; decide, fun d nd => ?_⟩⟩
      have ndc : d ≠ c := fun e => by
        rw [e, upd_same] at nd
        cases nd
      have nd0 : H' d = none := by
        rw [upd_ne ndc] at nd
        exact nd
      refine q _ d c (fun b o e => ?_) nd0 nc ⟨ns, 0, 0, z, ndc.symm, upd_same, ?_, Nat.zero_le _, by decide, h0, h1⟩
      · rw [upd_ne (ne_of_none e nd0), upd_ne (ne_of_none e nc)]
        exact e
      · rw [upd_ne ndc.symm, upd_same]
def spTake : Sp := fun vs H Q _ => ∃ (d c : Addr) (m : Int), vs = [.ref d, .int m] ∧ DrAt H d c ∧ 0 < m ∧ Bnd m ∧
  ∀ H' v, But d H H' → DrAt H' d c → 0 ≤ v → v < m → Q (.int v) H'
theorem scT : FnScope ["d", "many", "small", "digit"] ["d", "many"] (defScope sTake) := ⟨rfl, rfl, rfl, by decide +kernel, rfl, by decide +kernel, by decide +kernel⟩
theorem at0 {a b c e : V} : atI [a, b, c, e] (0 : Int) = some a := rfl
theorem at1 {a b c e : V} : atI [a, b, c, e] (1 : Int) = some b := rfl
theorem at2 {a b c e : V} : atI [a, b, c, e] (2 : Int) = some c := rfl
theorem at3 {a b c e : V} : atI [a, b, c, e] (3 : Int) = some e := rfl
theorem bnd_nat {m : Int} (h0 : 0 < m) (h : Bnd m) : m.natAbs < 2 ^ 400 := by
  have e : ((2 ^ 400 : Nat) : Int) = 2 ^ 400 := by decide +kernel
  unfold Bnd at h
  generalize (2 ^ 400 : Nat) = B at *
  omega
theorem bndW {r m : Int} (h0 : 0 < m) (h : Bnd m) : CDivW r m := wide_div (b := 400) h0 (bnd_nat h0 h) (by decide) (by decide)
theorem ok_take {f : Addr} {fd : FuncData} (F : Fun K "_law_take" "_law_take" sTake f fd) (T : TxtD mg) : FnOk P w K mg base CX0 1 f fd ["d", "many"] spTake := by
  refine F.ok scT (fun vs H Q E h => ?_) (fun cdv A outer s H vs Q E hr h => ?_)
  · obtain ⟨d, c, m, rfl, _⟩ := h
    rfl
  · obtain ⟨d, c, m, rfl, ⟨ns, i, r, sd, ncd, hd, hc, hi, hr0, hs0, hs1⟩, hm, hb, q⟩ := h
    refine ⟨_, Evl.pss_cut (ps_if (PW.pt (pw_and (pt_cmpR op_eq (pe_ix ix_list (pv 0) pe_int (fun _ _ => rfl)) pe_int (nomark _))
        (pw_and1 (pt_cmpR op_lt (pe_ix ix_list (pv 0) pe_int (fun _ _ => rfl)) (pe_callB call_len_seq (by rfl) T.len PySem.boot_len (pa_cons (pe_ix ix_list (pv 0) pe_int (fun _ _ => rfl)) pa_nil)) (nomark _)))))
        (pss_cons (ps_asg (pe_callB call_abs (by rfl) T.abs (by decide +kernel) (pa_cons (pe_callTy call_int1 (by rfl) T.int (by decide +kernel) (pa_cons (pe_ix ix_list (pe_ix ix_list (pv 0) pe_int (fun _ _ => rfl)) (pe_ix ix_list (pv 0) pe_int (fun _ _ => rfl)) (fun _ _ => rfl)) pa_nil)) pa_nil)) (pg_sub (pv 0) pe_int set_list))
        (pss_cons (ps_asg (pe_op op_add (pe_ix ix_list (pv 0) pe_int (fun _ _ => rfl)) pe_int) (pg_sub (pv 0) pe_int set_list))
        (pss_one (ps_if (pt_cmpR op_lt (pe_ix ix_list (pv 0) pe_int (fun _ _ => rfl)) (pe_op op_pow pe_int pe_int) (nomark _))
          (pss_cons (ps_set (i := 2) scT.nd rfl (.inl rfl) (pe_callTy call_int1 (by rfl) T.int (by decide +kernel) (pa_cons (pe_ix ix_list (pv 0) pe_int (fun _ _ => rfl)) pa_nil)))
          (pss_cons (ps_asg pe_int (pg_sub (pv 0) pe_int set_list))
          (pss_one (ps_ret (pe_op op_mod (pv 2) (pv 1))))))
          pss_nil))))
        pss_nil)
      (pss_cons (ps_if (pt_cmpR op_gt (pe_ix ix_list (pv 0) pe_int (fun _ _ => rfl)) pe_int (nomark _))
        (pss_cons (ps_set (i := 3) scT.nd rfl (.inl rfl) (pe_op op_mod (pe_callTy call_int1 (by rfl) T.int (by decide +kernel) (pa_cons (pe_ix ix_list (pv 0) pe_int (fun _ _ => rfl)) pa_nil)) (pv 1)))
        (pss_cons (ps_asg (pe_op op_fdivW (pe_callTy call_int1 (by rfl) T.int (by decide +kernel) (pa_cons (pe_ix ix_list (pv 0) pe_int (fun _ _ => rfl)) pa_nil)) (pv 1)) (pg_sub (pv 0) pe_int set_list))
        (pss_one (ps_ret (pv 3)))))
        pss_nil)
      (pss_cons (ps_asg (pe_op op_mod (pe_callTy call_int1 (by rfl) T.int (by decide +kernel) (pa_cons (pe_op op_add (pe_op op_mul (pe_ix ix_list (pv 0) pe_int (fun _ _ => rfl)) pe_int) pe_int) pa_nil)) pe_int) (pg_sub (pv 0) pe_int set_list))
      (pss_one (ps_ret (pe_op op_mod (pe_callTy call_int1 (by rfl) T.int (by decide +kernel) (pa_cons (pe_op op_fdiv (pe_ix ix_list (pv 0) pe_int (fun _ _ => rfl)) pe_int) pa_nil)) (pv 1)))))), ?_⟩
    refine ⟨fun σ' H' => ∃ (i r sd : Int) (x2 : Option V) (i' : Nat), σ' = [some (.ref d), some (.int m), x2, none] ∧ H' = upd H d (.lst [.ref c, .int i, .int r, .int sd]) ∧ i = i' ∧ i' ≤ ns.length ∧ 0 ≤ r ∧ 0 ≤ sd ∧ sd < 2147483647, ?_, ?_⟩
    · have same : H = upd H d (.lst [.ref c, .int i, .int r, .int sd]) := by
        funext b
        by_cases e : b = d
        · rw [e, upd_same, hd]
        · rw [upd_ne e]
      refine ⟨_, rfl, d, _, 2, _, rfl, rfl, SqL.of hd, at2, rfl, _, rfl, ite2 (fun e => ?_) (fun e => ?_)⟩
      · refine ⟨_, rfl, d, _, 1, _, rfl, rfl, SqL.of hd, at1, _, rfl, d, _, 0, _, rfl, rfl, SqL.of hd, at0, c, _, rfl, .inl (SqL.of hc), _, _, rfl, rfl, _, rfl, ite2 (fun e2 => ?_) (fun e2 => ?_)⟩
        · have hlt : i < ns.length := by
            have := of_decide_eq_true e2
            rw [List.length_map] at this
            omega
          have hx : (ns.map V.int)[i]? = some (.int ns[i]) := by
            rw [List.getElem?_map, List.getElem?_eq_getElem hlt]
            rfl
          generalize ns[i] = x at hx
          have hcd : ∀ o, (upd H d o) c = some (.lst (ns.map V.int)) := fun o => by rw [upd_ne ncd]; exact hc
          have habs : 0 ≤ (if x < 0 then -x else x) := by split <;> omega
          -- d[2] = abs(int(d[0][d[1]]))
          refine ⟨_, rfl, d, _, 0, _, rfl, rfl, SqL.of hd, at0, _, rfl, d, _, 1, _, rfl, rfl, SqL.of hd, at1, c, _, _, _, rfl, rfl, SqL.of hc, atI_nat hx, .inl ⟨x, rfl, x, rfl, _, rfl, d, _, 2, 2, rfl, rfl, hd, rfl, ?_⟩⟩
          generalize (if x < 0 then -x else x) = y at habs
          -- d[1] = d[1] + 1
          refine ⟨_, rfl, d, _, 1, _, rfl, rfl, SqL.of upd_same, at1, _, _, rfl, rfl, _, rfl, d, _, 1, 1, rfl, rfl, upd_same, rfl, ?_⟩
          rw [upd_upd]
          -- if d[2] < 10 ** 18
          refine ⟨_, rfl, d, _, 2, _, rfl, rfl, SqL.of upd_same, at2, 10, 18, rfl, rfl, ⟨by decide, by decide, by decide⟩, _, _, rfl, rfl, _, rfl, ite2 (fun e3 => ?_) (fun e3 => ?_)⟩
          · refine ⟨_, rfl, d, _, 2, _, rfl, rfl, SqL.of upd_same, at2, .inl ⟨_, rfl, _, rfl, d, _, 2, 2, rfl, rfl, upd_same, rfl, ?_⟩⟩
            rw [upd_upd]
            refine ⟨_, rfl, _, rfl, _, _, rfl, rfl, hm, ?_⟩
            exact q _ _ But.upd ⟨ns, i + 1, 0, sd, ncd, upd_same, hcd _, hlt, by decide, hs0, hs1⟩ (Int.emod_nonneg _ (by omega)) (Int.emod_lt_of_pos _ hm)
          · exact ⟨_, _, _, _, i + 1, rfl, rfl, rfl, hlt, habs, hs0, hs1⟩
        · exact ⟨_, _, _, _, i, rfl, same, rfl, hi, hr0, hs0, hs1⟩
      · exact iteF ⟨_, _, _, _, i, rfl, same, rfl, hi, hr0, hs0, hs1⟩
    · clear hd hi hr0 hs0 hs1
      rintro σ' H' ⟨i, r, sd, x2, i', rfl, rfl, rfl, hi, hr0, hs0, hs1⟩
      have hcd : ∀ o, (upd H d o) c = some (.lst (ns.map V.int)) := fun o => by rw [upd_ne ncd]; exact hc
      refine ⟨_, rfl, d, _, 2, _, rfl, rfl, SqL.of upd_same, at2, _, _, rfl, rfl, _, rfl, ite2 (fun e => ?_) (fun e => ?_)⟩
      · refine ⟨_, rfl, d, _, 2, _, rfl, rfl, SqL.of upd_same, at2, .inl ⟨_, rfl, _, rfl, _, _, rfl, rfl, hm, ?_⟩⟩
        refine ⟨_, rfl, d, _, 2, _, rfl, rfl, SqL.of upd_same, at2, .inl ⟨_, rfl, _, rfl, _, _, rfl, rfl, bndW hm hb, _, rfl, d, _, 2, 2, rfl, rfl, upd_same, rfl, ?_⟩⟩
        rw [upd_upd]
        refine ⟨_, rfl, ?_⟩
        exact q _ _ But.upd ⟨ns, i', _, sd, ncd, upd_same, hcd _, hi, Int.ediv_nonneg hr0 (by omega), hs0, hs1⟩ (Int.emod_nonneg _ (by omega)) (Int.emod_lt_of_pos _ hm)
      · refine ⟨_, rfl, d, _, 3, _, rfl, rfl, SqL.of upd_same, at3, _, _, rfl, rfl, .inl ⟨by omega, by omega⟩, _, _, rfl, rfl, .inl ⟨_, rfl, _, _, rfl, rfl, (by show (0 : Int) < 2147483647; decide), _, rfl, d, _, 3, 3, rfl, rfl, upd_same, rfl, ?_⟩⟩
        rw [upd_upd]
        refine ⟨_, rfl, d, _, 3, _, rfl, rfl, SqL.of upd_same, at3, _, _, rfl, rfl, ⟨by decide, by decide⟩, .inl ⟨_, rfl, _, rfl, _, _, rfl, rfl, hm, ?_⟩⟩
        exact q _ _ But.upd ⟨ns, i', r, _, ncd, upd_same, hcd _, hi, hr0, Int.emod_nonneg _ (by decide), Int.emod_lt_of_pos _ (by decide)⟩ (Int.emod_nonneg _ (by omega)) (Int.emod_lt_of_pos _ hm)

/-! ### the program's own defs -/
def spOffset (K : PySem.W.Frag) : Sp := fun vs H Q _ => ∃ (a b : Addr) (sh : Sh) (ns : List Int), vs = [.ref a, .ref b] ∧ ShT K H a sh ∧ H b = some (.tup (ns.map V.int)) ∧ Fine sh ∧ ns.length = sh.length ∧
  ∀ H', Same H H' → Q (.int (offF 0 (sizes sh) ns)) H'
theorem scO : FnScope ["shape", "at", "position", "_", "size", "index"] ["shape", "at"] (defScope sOffset) := ⟨rfl, rfl, rfl, by decide +kernel, rfl, by decide +kernel, by decide +kernel⟩
theorem ok_offset {f : Addr} {fd : FuncData} (F : Fun K "offset" "offset" sOffset f fd) (mz : mg "zip" = none) : FnOk P w K mg base CX0 1 f fd ["shape", "at"] (spOffset K) := by
  refine F.ok scO (fun vs H Q E h => ?_) (fun cdv A outer s H vs Q E hr h => ?_)
  · obtain ⟨a, b, sh, ns, rfl, _⟩ := h
    rfl
  · obtain ⟨a, b, sh, ns, rfl, ⟨ts, ha, hx⟩, hb, hf, hl, q⟩ := h
    refine ⟨_, pss_cons (ps_set (i := 2) scO.nd rfl (.inl rfl) pe_int)
      (pss_cons (ps_for PassesOwn.never rfl (RZ.pi_zipA (by rfl) mz (pa_cons (pv 0) (pa_cons (pv 1) pa_nil)))
        (pg_tup rfl (pgs_cons (pg_tup rfl (pgs_cons (pg_name (i := 3) scO.nd rfl (.inl rfl)) (pgs_cons (pg_name (i := 4) scO.nd rfl (.inl rfl)) pgs_nil))) (pgs_cons (pg_name (i := 5) scO.nd rfl (.inl rfl)) pgs_nil)))
        (pss_one (ps_set (i := 2) scO.nd rfl (.inl rfl) (pe_op op_add (pe_op op_mul (pv 2) (pv 4)) (pv 5)))))
      (pss_one (ps_ret (pv 2)))), ?_⟩
    refine ⟨_, rfl, _, rfl, a, b, ts.map V.ref, ns.map V.int, rfl, .inr ⟨.inl (.inl ha), .inl (.inl hb), RZ.for_zipT (K := K) (a := a) (b := b) (xs := ts.map V.ref) (ys := ns.map V.int) (by rw [List.length_map, List.length_map, hx.1, hl])
      (fun i σ H' => ∃ (z : Int) (v3 v4 v5 : Option V), σ = [some (.ref a), some (.ref b), some (.int z), v3, v4, v5] ∧ Same H H' ∧ offF z ((sizes sh).drop i) (ns.drop i) = offF 0 (sizes sh) ns) ⟨0, none, none, none, rfl, Same.refl H, rfl⟩ ?_ ?_ ?_⟩⟩
    · rintro i σ H' ⟨z, v3, v4, v5, _, sm, _⟩
      exact ⟨.inl (.inl (sm _ _ ha)), .inl (.inl (sm _ _ hb))⟩
    · rintro i x y T σ H' h1 h2 ⟨z, v3, v4, v5, rfl, sm, e⟩ nT
      obtain ⟨t, p, rfl, g1, g2, g3⟩ := hx.at h1
      obtain ⟨n, rfl, g4⟩ := map_int_at h2
      have hp := hf p (List.mem_of_getElem? g2)
      have s2 : Same H' (upd H' T (.tup [.ref t, .int n])) := same_upd nT
      have g5 : (sizes sh)[i]? = some p.2 := by rw [sizes, List.getElem?_map, g2]; rfl
      rw [drop_at g5, drop_at g4] at e
      refine ⟨T, _, rfl, .inl (.inl upd_same), rfl, _, _, rfl, ⟨t, _, rfl, .inl (.inl (s2 _ _ (sm _ _ g3))), rfl, _, _, rfl, _, _, rfl, rfl, _, _, rfl, rfl, ?_⟩⟩
      refine ⟨_, rfl, _, rfl, _, _, rfl, rfl, .inr ⟨by omega, by omega⟩, _, rfl, _, _, rfl, rfl, ?_⟩
      exact ⟨_, _, _, _, rfl, sm.trans s2, e⟩
    · rintro σ H' ⟨z, v3, v4, v5, rfl, sm, e⟩
      rw [show (List.map V.ref ts).length = ns.length by rw [List.length_map, hx.1, hl], List.drop_length, offF_all] at e
      refine ⟨_, rfl, ?_⟩
      rw [e]
      exact q _ sm
def spIndexes (K : PySem.W.Frag) : Sp := fun vs H Q _ => ∃ (a : Addr) (sh : Sh) (r : Int), vs = [.ref a, .int r] ∧ ShT K H a sh ∧ Fine sh ∧ sh.length ≤ 1000 ∧
  ∀ H' p, Same H H' → H p = none → H' p = some (.tup ((idxG (sizes sh) r).1.map V.int)) → Q (.ref p) H'
theorem scI : FnScope ["shape", "position", "found", "rest", "_", "size"] ["shape", "position"] (defScope sIndexes) := ⟨rfl, rfl, rfl, by decide +kernel, rfl, by decide +kernel, by decide +kernel⟩
theorem ok_indexes {f : Addr} {fd : FuncData} (F : Fun K "indexes" "indexes" sIndexes f fd) (mr : mg "reversed" = none) (mt : mg "tuple" = none) : FnOk P w K mg base CX0 1 f fd ["shape", "position"] (spIndexes K) := by
  refine F.ok scI (fun vs H Q E h => ?_) (fun cdv A outer s H vs Q E hr h => ?_)
  · obtain ⟨a, sh, r, rfl, _⟩ := h
    rfl
  · obtain ⟨a, sh, r, rfl, ⟨ts, ha, hx⟩, hf, hsl, q⟩ := h
    refine ⟨_, pss_cons (ps_set (i := 2) scI.nd rfl (.inl rfl) (pe_lst pa_nil))
      (pss_cons (ps_set (i := 3) scI.nd rfl (.inl rfl) (pv 1))
      (pss_cons (ps_for PassesOwn.never rfl (RT.pi_revA (by rfl) mr (pv 0))
        (pg_tup rfl (pgs_cons (pg_name (i := 4) scI.nd rfl (.inl rfl)) (pgs_cons (pg_name (i := 5) scI.nd rfl (.inl rfl)) pgs_nil)))
        (pss_cons (ps_expr (pe_bm PySem.F.plainAttrs_list PySem.F.slot_list_append PySem.F.type_list_append mt_append (pv 2) (pa_cons (pe_op op_mod (pv 3) (pv 5)) pa_nil)))
        (pss_one (ps_set (i := 3) scI.nd rfl (.inl rfl) (pe_op op_fdiv (pv 3) (pv 5))))))
      (pss_one (ps_ret (RT.pe_tupRev rfl (by rfl) mt (by rfl) mr (pv 2)))))), ?_⟩
    refine ⟨Nat.zero_le _, fun l nl => ?_⟩
    have s1 : Same H (upd H l (.lst [])) := same_upd nl
    have hlen : (ts.map V.ref).length = sh.length := by rw [List.length_map, hx.1]
    refine ⟨_, rfl, _, rfl, a, ts.map V.ref, rfl, .inr ⟨.inl (.inl (s1 _ _ ha)), RT.for_ItvT (K := K) (a := a) (xs := ts.map V.ref)
      (fun i σ H' => ∃ (z : Int) (ns : List Int) (v4 v5 : Option V), σ = [some (.ref a), some (.int r), some (.ref l), some (.int z), v4, v5] ∧ Same H H' ∧ H' l = some (.lst (ns.map V.int)) ∧
        i ≤ sh.length ∧ idxG ((sizes sh).drop (sh.length - i)) r = (ns.reverse, z)) ⟨r, [], none, none, rfl, s1, upd_same, Nat.zero_le _, ?_⟩ ?_ ?_ ?_⟩⟩
    · rw [Nat.sub_zero, show sh.length = (sizes sh).length by rw [sizes, List.length_map], List.drop_length]
      rfl
    · rintro i σ H' ⟨z, ns, v4, v5, _, sm, _⟩
      exact .inl (.inl (sm _ _ ha))
    · rintro i x σ H' hi hxx ⟨z, ns, v4, v5, rfl, sm, el, hle, e⟩
      obtain ⟨t, p, rfl, g1, g2, g3⟩ := hx.at hxx
      rw [hlen] at hi g1 g2
      have hp := hf p (List.mem_of_getElem? g2)
      have g5 : (sizes sh)[sh.length - 1 - i]? = some p.2 := by rw [sizes, List.getElem?_map, g2]; rfl
      have nlt : l ≠ a := (ne_of_none ha nl).symm
      have hnl : ns.length ≤ sh.length := by
        have := idx_len ((sizes sh).drop (sh.length - i)) r
        rw [e, List.length_reverse, List.length_drop, sizes, List.length_map] at this
        omega
      refine ⟨t, _, rfl, .inl (.inl (sm _ _ g3)), rfl, _, _, rfl, _, _, rfl, rfl, ?_⟩
      refine ⟨_, rfl, .inl ⟨rfl, _, SqL.of el⟩, _, rfl, _, rfl, _, _, rfl, rfl, (by show (0 : Int) < p.2; omega), l, _, _, rfl, rfl, el, ?_, ?_⟩
      · rw [List.length_map]
        exact small1000 (by omega)
      refine ⟨_, rfl, _, rfl, _, _, rfl, rfl, ⟨by omega, by omega⟩, ?_⟩
      refine ⟨_, ns ++ [z % p.2], _, _, rfl, fun b o h => ?_, ?_, hi, ?_⟩
      · rw [upd_ne (ne_of_none h nl)]
        exact sm _ _ h
      · rw [upd_same, List.map_append]
        rfl
      · rw [show sh.length - (i + 1) = sh.length - 1 - i by omega, drop_at g5, show sh.length - 1 - i + 1 = sh.length - i by omega]
        show ((idxG ((sizes sh).drop (sh.length - i)) r).2 % p.2 :: (idxG ((sizes sh).drop (sh.length - i)) r).1, (idxG ((sizes sh).drop (sh.length - i)) r).2 / p.2) = _
        rw [e, List.reverse_append]
        rfl
    · rintro σ H' ⟨z, ns, v4, v5, rfl, sm, el, hle, e⟩
      rw [hlen, Nat.sub_self, List.drop_zero] at e
      refine ⟨_, rfl, l, _, rfl, SqL.of el, fun p np => ?_⟩
      refine q _ p (sm.trans (same_upd np)) (sm.free np) ?_
      rw [upd_same, e, List.map_reverse]
def spInt : Sp := fun vs H Q _ => ∃ (i : Int), vs = [.int i] ∧ Q (.bl true) H
theorem scN : FnScope ["actual"] ["actual"] (defScope sInt) := ⟨rfl, rfl, rfl, by decide +kernel, rfl, by decide +kernel, by decide +kernel⟩
theorem ok_int {f : Addr} {fd : FuncData} (F : Fun K "_law_int" "_law_int" sInt f fd) (mi : mg "isinstance" = none) (mn : mg "int" = none) (mb : mg "bool" = none) : FnOk P w K mg base CX0 1 f fd ["actual"] spInt := by
  refine F.ok scN (fun vs H Q E h => ?_) (fun cdv A outer s H vs Q E hr h => ?_)
  · obtain ⟨i, rfl, _⟩ := h
    rfl
  · obtain ⟨i, rfl, q⟩ := h
    refine ⟨_, pss_one (ps_ret (pe_and (pe_callB call_isi (by rfl) mi (by decide +kernel) (pa_cons (pv 0) (pa_cons (pe_bltn (v := .ty "int") (by rfl) mn (by decide +kernel) rfl) pa_nil)))
      (pe_one (pe_not (pe_callB call_isi (by rfl) mi (by decide +kernel) (pa_cons (pv 0) (pa_cons (pe_bltn (v := .ty "bool") (by rfl) mb (by decide +kernel) rfl) pa_nil))))))), ?_⟩
    refine ⟨_, rfl, _, _, _, _, true, rfl, ClsV.ty "int", TyX.base (TyOf.int i), kit_ty (by decide +kernel), _, rfl, iteT ?_⟩
    exact ⟨_, rfl, _, _, _, _, false, rfl, ClsV.ty "bool", TyX.base (TyOf.int i), kit_ty (by decide +kernel), _, rfl, q⟩
theorem scC : FnScope ["shape", "count", "axis"] ["shape"] (defScope sCount) := ⟨rfl, rfl, rfl, by decide +kernel, rfl, by decide +kernel, by decide +kernel⟩
theorem prod_snoc : ∀ {ss : List Int} {s : Int}, prod (ss ++ [s]) = prod ss * s
  | [], s => by show s * 1 = 1 * s; omega
  | a :: ss, s => by
    show a * prod (ss ++ [s]) = a * prod ss * s
    rw [prod_snoc, Int.mul_assoc]
theorem take_snoc {α : Type} {l : List α} {i : Nat} {x : α} (h : l[i]? = some x) : l.take (i + 1) = l.take i ++ [x] := by
  rw [List.take_add_one, h]
  rfl
/-- of a list -/
def spCountL (K : PySem.W.Frag) : Sp := fun vs H Q _ => ∃ (a : Addr) (ts : List Addr) (sh : Sh), vs = [.ref a] ∧ H a = some (.lst (ts.map V.ref)) ∧ Axes H ts sh ∧ Fine sh ∧ Q (.int (prod (sizes sh))) H
theorem ok_countL {f : Addr} {fd : FuncData} (F : Fun K "_law_count" "_law_count" sCount f fd) : FnOk P w K mg base CX0 1 f fd ["shape"] (spCountL K) := by
  refine F.ok scC (fun vs H Q E h => ?_) (fun cdv A outer s H vs Q E hr h => ?_)
  · obtain ⟨a, ts, sh, rfl, _⟩ := h
    rfl
  · obtain ⟨a, ts, sh, rfl, ha, hx, hf, q⟩ := h
    refine ⟨_, pss_cons (ps_set (i := 1) scC.nd rfl (.inl rfl) pe_int)
      (pss_cons (ps_for PassesOwn.never rfl (pi_list (pv 0)) (pg_name (i := 2) scC.nd rfl (.inl rfl))
        (pss_one (ps_set (i := 1) scC.nd rfl (.inl rfl) (pe_op op_mul (pv 1) (pe_ix ix_tup (pv 2) pe_int (fun _ _ => rfl))))))
      (pss_one (ps_ret (pv 1)))), ?_⟩
    refine ⟨_, rfl, a, rfl, ⟨_, SqL.of ha⟩, for_list (K := K) (a := a) (xs := ts.map V.ref) (fun i σ H' => ∃ (v : Option V), σ = [some (.ref a), some (.int (prod ((sizes sh).take i))), v] ∧ H' = H)
      ⟨none, rfl, rfl⟩ (fun i σ H' _ ⟨_, _, e⟩ => by rw [e]; exact SqL.of ha) ?_ ?_⟩
    · rintro i x σ H' hi ⟨v, rfl, rfl⟩
      obtain ⟨t, p, rfl, g1, g2, g3⟩ := hx.at hi
      have hp := hf p (List.mem_of_getElem? g2)
      have g5 : (sizes sh)[i]? = some p.2 := by rw [sizes, List.getElem?_map, g2]; rfl
      refine ⟨_, rfl, _, rfl, t, _, 1, _, rfl, rfl, SqT.of g3, rfl, _, _, rfl, rfl, .inr ⟨by omega, by omega⟩, ?_⟩
      refine ⟨some (.ref t), ?_, rfl⟩
      rw [take_snoc g5, prod_snoc]
      rfl
    · rintro σ H' ⟨v, rfl, rfl⟩
      refine ⟨_, rfl, ?_⟩
      rw [show (ts.map V.ref).length = (sizes sh).length by rw [List.length_map, hx.1, sizes, List.length_map], List.take_length]
      exact q
/-- of a tuple -/
def spCountT (K : PySem.W.Frag) : Sp := fun vs H Q _ => ∃ (a : Addr) (sh : Sh), vs = [.ref a] ∧ ShT K H a sh ∧ Fine sh ∧ Q (.int (prod (sizes sh))) H
theorem ok_countT {f : Addr} {fd : FuncData} (F : Fun K "_law_count" "_law_count" sCount f fd) : FnOk P w K mg base CX0 1 f fd ["shape"] (spCountT K) := by
  refine F.ok scC (fun vs H Q E h => ?_) (fun cdv A outer s H vs Q E hr h => ?_)
  · obtain ⟨a, sh, rfl, _⟩ := h
    rfl
  · obtain ⟨a, sh, rfl, ⟨ts, ha, hx⟩, hf, q⟩ := h
    refine ⟨_, pss_cons (ps_set (i := 1) scC.nd rfl (.inl rfl) pe_int)
      (pss_cons (ps_for PassesOwn.never rfl (pi_tup (pv 0)) (pg_name (i := 2) scC.nd rfl (.inl rfl))
        (pss_one (ps_set (i := 1) scC.nd rfl (.inl rfl) (pe_op op_mul (pv 1) (pe_ix ix_tup (pv 2) pe_int (fun _ _ => rfl))))))
      (pss_one (ps_ret (pv 1)))), ?_⟩
    refine ⟨_, rfl, a, rfl, ⟨_, SqT.of ha⟩, for_tup (K := K) (a := a) (xs := ts.map V.ref) (fun i σ H' => ∃ (v : Option V), σ = [some (.ref a), some (.int (prod ((sizes sh).take i))), v] ∧ H' = H)
      ⟨none, rfl, rfl⟩ (fun i σ H' _ ⟨_, _, e⟩ => by rw [e]; exact SqT.of ha) ?_ ?_⟩
    · rintro i x σ H' hi ⟨v, rfl, rfl⟩
      obtain ⟨t, p, rfl, g1, g2, g3⟩ := hx.at hi
      have hp := hf p (List.mem_of_getElem? g2)
      have g5 : (sizes sh)[i]? = some p.2 := by rw [sizes, List.getElem?_map, g2]; rfl
      refine ⟨_, rfl, _, rfl, t, _, 1, _, rfl, rfl, SqT.of g3, rfl, _, _, rfl, rfl, .inr ⟨by omega, by omega⟩, ?_⟩
      refine ⟨some (.ref t), ?_, rfl⟩
      rw [take_snoc g5, prod_snoc]
      rfl
    · rintro σ H' ⟨v, rfl, rfl⟩
      refine ⟨_, rfl, ?_⟩
      rw [show (ts.map V.ref).length = (sizes sh).length by rw [List.length_map, hx.1, sizes, List.length_map], List.take_length]
      exact q

/-! ### the law -/
structure Txt (mg : Str → Option Value) extends TxtD mg where
  tuple : mg "tuple" = none
  range : mg "range" = none
  isi : mg "isinstance" = none
def spLaw (K : PySem.W.Frag) : Sp := fun vs H Q _ => ∃ (a : Addr) (ns : List Int), vs = [.ref a] ∧ SqL K H a (ns.map V.int) ∧ ns.length ≤ 63 ∧ ∀ H', Q (.bl true) H'
theorem scL : FnScope ["script", "d", "shape", "letter", "size", "last", "position", "at", "k", "back"] ["script"] (defScope sLaw) := ⟨rfl, rfl, rfl, by decide +kernel, rfl, by decide +kernel, by decide +kernel⟩
theorem bnd16 : Bnd 16 := by unfold Bnd; decide +kernel
theorem bnd3 : Bnd 3 := by unfold Bnd; decide +kernel
theorem bnd4 : Bnd 4 := by unfold Bnd; decide +kernel
theorem ok_law {f fO fI fB fT fN fC : Addr} {fd fdO fdI fdB fdT fdN fdC : FuncData} (F : Fun K "law" "law" sLaw f fd) (T : Txt mg)
    (FO : Fun K "offset" "offset" sOffset fO fdO) (bO : Binds K fdO ["shape", "at"] []) (gO : mg "offset" = some (.ref fO))
    (FI : Fun K "indexes" "indexes" sIndexes fI fdI) (bI : Binds K fdI ["shape", "position"] []) (gI : mg "indexes" = some (.ref fI))
    (FB : Fun K "_law_begin" "_law_begin" sBegin fB fdB) (bB : Binds K fdB ["script"] []) (gB : mg "_law_begin" = some (.ref fB))
    (FT : Fun K "_law_take" "_law_take" sTake fT fdT) (bT : Binds K fdT ["d", "many"] []) (gT : mg "_law_take" = some (.ref fT))
    (FN : Fun K "_law_int" "_law_int" sInt fN fdN) (bN : Binds K fdN ["actual"] []) (gN : mg "_law_int" = some (.ref fN))
    (FC : Fun K "_law_count" "_law_count" sCount fC fdC) (bC : Binds K fdC ["shape"] []) (gC : mg "_law_count" = some (.ref fC))
    (mz : mg "zip" = none) (mr : mg "reversed" = none) (mb : mg "bool" = none) : FnOk P w K mg base CX0 2 f fd ["script"] (spLaw K) := by
  have GO : FnOk P w K mg base CX0 1 fO fdO ["shape", "at"] (spOffset K) := ok_offset FO mz
  have GI : FnOk P w K mg base CX0 1 fI fdI ["shape", "position"] (spIndexes K) := ok_indexes FI mr T.tuple
  have GB : FnOk P w K mg base CX0 1 fB fdB ["script"] (spBegin K) := ok_begin FB T.toTxtD
  have GT : FnOk P w K mg base CX0 1 fT fdT ["d", "many"] spTake := ok_take FT T.toTxtD
  have GN : FnOk P w K mg base CX0 1 fN fdN ["actual"] spInt := ok_int FN T.isi T.int mb
  have GL : FnOk P w K mg base CX0 1 fC fdC ["shape"] (spCountL K) := ok_countL FC
  have GC : FnOk P w K mg base CX0 1 fC fdC ["shape"] (spCountT K) := ok_countT FC
  refine F.ok scL (fun vs H Q E h => ?_) (fun cdv A outer s H vs Q E hr h => ?_)
  · obtain ⟨a, ns, rfl, _⟩ := h
    rfl
  · obtain ⟨a, ns, rfl, hS, hlen, q⟩ := h
    refine ⟨_, pss_cons (ps_set (i := 1) scL.nd rfl (.inl rfl) (pe_call GB hr (by rfl) gB FB.kp bB .nil pass0 (pa_cons (pv 0) pa_nil)))
      (pss_cons (ps_set (i := 2) scL.nd rfl (.inl rfl) (pe_lst pa_nil))
      (pss_cons (ps_for PassesOwn.never rfl (pi_str pe_str) (pg_name (i := 3) scL.nd rfl (.inl rfl))
        (Evl.pss_cut (ps_set (i := 4) scL.nd rfl (.inl rfl) (pe_ifExp (pt_cmpR op_eq (pe_call GT hr (by rfl) gT FT.kp bT .nil pass0 (pa_cons (pv 1) (pa_cons pe_int pa_nil))) pe_int (nomark _))
            (pe_op op_add pe_int (pe_call GT hr (by rfl) gT FT.kp bT .nil pass0 (pa_cons (pv 1) (pa_cons pe_int pa_nil))))
            (pe_op op_add pe_int (pe_call GT hr (by rfl) gT FT.kp bT .nil pass0 (pa_cons (pv 1) (pa_cons pe_int pa_nil))))))
        (pss_one (ps_if (PW.pt (pw_and (pt_cmpR op_gt (pe_call GT hr (by rfl) gT FT.kp bT .nil pass0 (pa_cons (pv 1) (pa_cons pe_int pa_nil))) pe_int (nomark _))
            (pw_and1 (pt_cmpR op_le (pe_op op_mul (pe_call GL hr (by rfl) gC FC.kp bC .nil pass0 (pa_cons (pv 2) pa_nil)) (pv 4)) pe_int (nomark _)))))
          (pss_one (ps_expr (pe_bm PySem.F.plainAttrs_list PySem.F.slot_list_append PySem.F.type_list_append mt_append (pv 2) (pa_cons (pe_tup (pa_cons (pv 3) (pa_cons (pv 4) pa_nil))) pa_nil))))
          pss_nil))))
      (pss_cons (ps_set (i := 2) scL.nd rfl (.inl rfl) (pe_callTy call_tuple_of (by rfl) T.tuple (by decide +kernel) (pa_cons (pv 2) pa_nil)))
      (pss_cons (ps_set (i := 5) scL.nd rfl (.inl rfl) pe_non)
      (pss_cons (ps_for PassesOwn.never rfl (pi_range1 rfl T.range (pa_cons (pe_call GC hr (by rfl) gC FC.kp bC .nil pass0 (pa_cons (pv 2) pa_nil)) pa_nil)) (pg_name (i := 6) scL.nd rfl (.inl rfl))
        (pss_cons (ps_set (i := 7) scL.nd rfl (.inl rfl) (pe_call GI hr (by rfl) gI FI.kp bI .nil pass0 (pa_cons (pv 2) (pa_cons (pv 6) pa_nil))))
        (pss_cons (ps_if (PW.pt (pw_or (pt_not (pt_val (pe_callB call_isi (by rfl) T.isi (by decide +kernel) (pa_cons (pv 7) (pa_cons (pe_bltn (v := .ty "tuple") (by rfl) T.tuple (by decide +kernel) rfl) pa_nil)))))
            (pw_or1 (pt_cmpR op_ne (pe_callB call_len_seq (by rfl) T.len PySem.boot_len (pa_cons (pv 7) pa_nil)) (pe_callB call_len_seq (by rfl) T.len PySem.boot_len (pa_cons (pv 2) pa_nil)) (nomark _)))))
          (pss_one (ps_ret pe_bl)) pss_nil)
        (pss_cons (ps_for PassesOwn.never rfl (pi_range1 rfl T.range (pa_cons (pe_callB call_len_seq (by rfl) T.len PySem.boot_len (pa_cons (pv 2) pa_nil)) pa_nil)) (pg_name (i := 8) scL.nd rfl (.inl rfl))
          (pss_one (ps_if (PW.pt (pw_or (pt_not (pt_val (pe_call GN hr (by rfl) gN FN.kp bN .nil pass0 (pa_cons (pe_ix ix_tup (pv 7) (pv 8) (fun _ _ => rfl)) pa_nil))))
              (pw_or (pt_cmpR op_lt (pe_ix ix_tup (pv 7) (pv 8) (fun _ _ => rfl)) pe_int (nomark _))
              (pw_or1 (pt_cmpR op_ge (pe_ix ix_tup (pv 7) (pv 8) (fun _ _ => rfl)) (pe_ix ix_tup (pe_ix ix_tup (pv 2) (pv 8) (fun _ _ => rfl)) pe_int (fun _ _ => rfl)) (nomark _))))))
            (pss_one (ps_ret pe_bl)) pss_nil)))
        (pss_cons (ps_set (i := 9) scL.nd rfl (.inl rfl) (pe_call GO hr (by rfl) gO FO.kp bO .nil pass0 (pa_cons (pv 2) (pa_cons (pv 7) pa_nil))))
        (pss_cons (ps_if (PW.pt (pw_or (pt_not (pt_val (pe_call GN hr (by rfl) gN FN.kp bN .nil pass0 (pa_cons (pv 9) pa_nil))))
            (pw_or1 (pt_cmpR op_ne (pv 9) (pv 6) (nomark _)))))
          (pss_one (ps_ret pe_bl)) pss_nil)
        (pss_cons (ps_if (PW.pt (pw_and (pt_cmpR op_notN (pv 5) pe_non (nomark _))
            (pw_and1 (pt_not (pt_cmpR (op_ltT (Nat.lt_of_succ_lt (hu_of hr))) (pv 5) (pv 7) (nomark _))))))
          (pss_one (ps_ret pe_bl)) pss_nil)
        (pss_one (ps_set (i := 5) scL.nd rfl (.inl rfl) (pv 7))))))))))
      (pss_one (ps_ret pe_bl))))))), ?_⟩
    refine ⟨_, rfl, a, ns, rfl, hS, hlen, fun H1 d c sm1 nd nc dr => ?_⟩
    refine ⟨Nat.zero_le _, fun p np => ?_⟩
    have hpd : p ≠ d := (ne_of_none dr.lst.choose_spec np).symm
    have hpc : p ≠ c := (ne_of_none dr.lstc.choose_spec np).symm
    refine ⟨_, rfl, for_it (walk_str (z := "kaqc")) (fun i σ H' => ∃ (ts : List Addr) (sh : Sh) (v3 v4 : Option V), σ = [some (.ref a), some (.ref d), some (.ref p), v3, v4, none, none, none, none, none] ∧
        DrAt H' d c ∧ H' p = some (.lst (ts.map V.ref)) ∧ Axes H' ts sh ∧ Fine sh ∧ sh.length ≤ i ∧ prod (sizes sh) ≤ 256)
      ⟨[], [], none, none, rfl, dr.upd _ hpd hpc, upd_same, Axes.nil, fun _ h => (by cases h), Nat.le_refl _, by decide⟩ (fun _ _ _ _ _ => trivial) ?_ ?_⟩
    · rintro i x σ H' H'' hi ⟨ts, sh, v3, v4, rfl, dr, hp, hx, hf, hl, hpr⟩ ⟨rfl, ch, hch, rfl⟩
      have keep : ∀ {H2}, But d H'' H2 → ∀ b xs, H'' b = some (.tup xs) → H2 b = some (.tup xs) := fun k b xs e => k.tup dr e
      refine ⟨fun σ' H2 => ∃ z, σ' = [some (.ref a), some (.ref d), some (.ref p), some (.str ⟨#[ch]⟩), some (.int z), none, none, none, none, none] ∧ 1 ≤ z ∧ z ≤ 16 ∧ But d H'' H2 ∧ DrAt H2 d c, ?_, ?_⟩
      · refine ⟨_, rfl, d, c, 3, rfl, dr, by decide, bnd3, fun H2 v k2 dr2 v0 v1 => ⟨rfl, _, rfl, ite2 (fun _ => ?_) (fun _ => ?_)⟩⟩
        · exact ⟨_, rfl, d, c, 16, rfl, dr2, by decide, bnd16, fun H3 v k3 dr3 v0 v1 => ⟨_, _, rfl, rfl, _, rfl, by omega, by omega, k2.trans k3, dr3⟩⟩
        · exact ⟨_, rfl, d, c, 3, rfl, dr2, by decide, bnd3, fun H3 v k3 dr3 v0 v1 => ⟨_, _, rfl, rfl, _, rfl, by omega, by omega, k2.trans k3, dr3⟩⟩
      · rintro σ' H2 ⟨z, rfl, z1, z2, k2, dr2⟩
        refine ⟨_, rfl, d, c, 4, rfl, dr2, by decide, bnd4, fun H3 v k3 dr3 v0 v1 => ⟨_, _, rfl, rfl, _, rfl, ite2 (fun _ => ?_) (fun _ => ?_)⟩⟩
        · have k := k2.trans k3
          have hp3 : H3 p = some (.lst (ts.map V.ref)) := by rw [k p hpd]; exact hp
          have hx3 := hx.keep (keep k)
          refine ⟨_, rfl, p, ts, sh, rfl, hp3, hx3, hf, _, rfl, _, _, rfl, rfl, .inr ⟨by omega, by omega⟩, _, _, rfl, rfl, _, rfl, ite2 (fun e => ?_) (fun _ => ?_)⟩
          · refine ⟨_, rfl, .inl ⟨rfl, _, SqL.of hp3⟩, _, rfl, _, rfl, by show 2 ≤ sizeLine; decide, fun t nt => ?_⟩
            have s4 := same_upd (o := .tup [.str ⟨#[ch]⟩, .int z]) nt
            have ntp : p ≠ t := ne_of_none hp3 nt
            have hi4 : i < 4 := hi
            refine ⟨p, _, _, rfl, rfl, s4 _ _ hp3, ?_, ?_⟩
            · rw [List.length_map, hx.1]
              exact small1000 (by omega)
            · refine ⟨ts ++ [t], sh ++ [(⟨#[ch]⟩, z)], _, _, rfl, (dr3.same s4).upd _ hpd hpc, ?_, ?_, ?_, ?_, ?_⟩
              · rw [upd_same, List.map_append]
                rfl
              · refine ((hx3.same s4).snoc upd_same).keep fun b xs e => ?_
                rw [upd_ne (ne_of e (s4 _ _ hp3) (fun w => nomatch w))]
                exact e
              · intro x hxm
                rcases List.mem_append.mp hxm with h | h
                · exact hf x h
                · rw [List.mem_singleton] at h
                  subst h
                  exact ⟨z1, z2⟩
              · rw [List.length_append]
                exact Nat.succ_le_succ hl
              · rw [sizes, List.map_append]
                show prod (sizes sh ++ [z]) ≤ 256
                rw [prod_snoc]
                exact of_decide_eq_true e
          · exact ⟨ts, sh, _, _, rfl, dr3, hp3, hx3, hf, by omega, hpr⟩
        · have k := k2.trans k3
          exact iteF ⟨ts, sh, _, _, rfl, dr3, by rw [k p hpd]; exact hp, hx.keep (keep k), hf, by omega, hpr⟩
    · rintro σ H' ⟨ts, sh, v3, v4, rfl, dr, hp, hx, hf, hl, hpr⟩
      have hl4 : sh.length ≤ 4 := hl
      refine ⟨_, rfl, p, _, rfl, .inl ⟨SqL.of hp, fun g ng => ?_⟩⟩
      have s5 := same_upd (o := .tup (ts.map V.ref)) ng
      have hS5 : ShT K (upd H' g (.tup (ts.map V.ref))) g sh := ⟨ts, upd_same, hx.same s5⟩
      clear hp
      generalize upd H' g (.tup (ts.map V.ref)) = H5 at *
      have hpos := prod_pos hf.sizes
      refine ⟨_, rfl, g, sh, rfl, hS5, hf, ?_⟩
      refine ⟨_, rfl, by omega, by omega, for_range (lo := 0) (n := (prod (sizes sh)).toNat) (fun i σ H' => ∃ (v5 : V) (v6 v7 v8 v9 : Option V), σ = [some (.ref a), some (.ref d), some (.ref g), v3, v4, some v5, v6, v7, v8, v9] ∧ Same H5 H' ∧
          ((i = 0 ∧ v5 = .non) ∨ ∃ l, v5 = .ref l ∧ 1 ≤ i ∧ H' l = some (.tup ((idxG (sizes sh) ((i : Int) - 1)).1.map V.int))))
        ⟨.non, _, _, _, _, rfl, Same.refl _, .inl ⟨rfl, rfl⟩⟩ ?_ ?_⟩
      · rintro i σ H6 hi ⟨v5, v6, v7, v8, v9, rfl, sm6, hlast⟩
        have hi2 : (i : Int) < prod (sizes sh) := by omega
        rw [Int.zero_add]
        have hsz : (sizes sh).length = sh.length := by rw [sizes, List.length_map]
        -- at = indexes(shape, position)
        refine ⟨_, rfl, _, rfl, g, sh, (i : Int), rfl, hS5.same sm6, hf, by omega, fun H7 t sm7 nt ht => ?_⟩
        have hS7 := hS5.same (sm6.trans sm7)
        obtain ⟨ts7, hg7, hx7⟩ := id hS7
        have hln := idx_len (sizes sh) (i : Int)
        have hin := idx_in (ss := sizes sh) (i : Int) hf.sizes
        have hof := idx_off (ss := sizes sh) (r := (i : Int)) hf.sizes (by omega) hi2
        have hlx : 1 ≤ i → HT.lexLt (idxG (sizes sh) ((i : Int) - 1)).1 (idxG (sizes sh) (i : Int)).1 = true := fun h1 => idx_lex hf.sizes (by omega) (by omega) hi2
        have hlst : ((i : Int) + 1 - 1) = i := by omega
        have hnew : H7 t = some (.tup ((idxG (sizes sh) (((i + 1 : Nat) : Int) - 1)).1.map V.int)) := by
          rw [show (((i + 1 : Nat) : Int) - 1) = (i : Int) by omega]
          exact ht
        generalize (idxG (sizes sh) (i : Int)).1 = xs at *
        -- the tests of its kind and length
        refine ⟨_, rfl, _, _, _, _, true, rfl, ClsV.ty "tuple", TyX.base (TyOf.tup ht), kit_ty (by decide +kernel), _, rfl, iteF ?_⟩
        refine ⟨_, rfl, t, _, rfl, .inr (SqT.of ht), _, rfl, g, _, rfl, .inr (SqT.of hg7), rfl, _, rfl, iteNS ?_ ?_⟩
        · rw [List.length_map, List.length_map, hx7.1, hln, hsz]
        -- the axes
        have htsl : (ts7.map V.ref).length = sh.length := by rw [List.length_map, hx7.1]
        have hxl : xs.length = sh.length := by rw [hln, hsz]
        refine ⟨_, rfl, g, _, rfl, .inr (SqT.of hg7), _, rfl, by omega, by omega, for_range (lo := 0) (n := (((ts7.map V.ref).length : Nat) : Int).toNat) (fun j σ H' => ∃ v8, σ = [some (.ref a), some (.ref d), some (.ref g), v3, v4, some v5, some (.int i), some (.ref t), v8, v9] ∧ H' = H7) ⟨_, rfl, rfl⟩ ?_ ?_⟩
        · rintro j σ H' hj ⟨v8, rfl, rfl⟩
          rw [Int.zero_add]
          have hjl : j < sh.length := by omega
          have gx : xs[j]? = some xs[j] := List.getElem?_eq_getElem (by omega)
          have gs : sh[j]? = some sh[j] := List.getElem?_eq_getElem hjl
          have gt : ts7[j]? = some (ts7[j]'(by rw [hx7.1]; exact hjl)) := List.getElem?_eq_getElem (by rw [hx7.1]; exact hjl)
          have gss : (sizes sh)[j]? = some sh[j].2 := by rw [sizes, List.getElem?_map, gs]; rfl
          have gv : (xs.map V.int)[j]? = some (.int xs[j]) := by rw [List.getElem?_map, gx]; rfl
          have gr : (ts7.map V.ref)[j]? = some (.ref (ts7[j]'(by rw [hx7.1]; exact hjl))) := by rw [List.getElem?_map, gt]; rfl
          have hg3 := hx7.2 j _ _ gt gs
          obtain ⟨y0, y1⟩ := hin.get gss gx
          refine ⟨_, rfl, _, rfl, t, _, _, _, rfl, rfl, SqT.of ht, atI_nat gv, _, rfl, _, rfl, iteF ?_⟩
          refine ⟨_, rfl, _, rfl, t, _, _, _, rfl, rfl, SqT.of ht, atI_nat gv, _, _, rfl, rfl, _, rfl, ?_⟩
          rw [decide_eq_false (show ¬ xs[j] < 0 by omega)]
          refine iteF ⟨_, rfl, _, rfl, t, _, _, _, rfl, rfl, SqT.of ht, atI_nat gv, _, rfl, _, rfl, g, _, _, _, rfl, rfl, SqT.of hg7, atI_nat gr, _, _, 1, _, rfl, rfl, SqT.of hg3, rfl, _, _, rfl, rfl, _, rfl, ?_⟩
          rw [decide_eq_false (show ¬ sh[j].2 ≤ xs[j] by omega)]
          exact iteF ⟨_, rfl, rfl⟩
        · rintro σ H' ⟨v8, rfl, rfl⟩
          -- back
          refine ⟨_, rfl, _, rfl, g, t, sh, xs, rfl, hS7, ht, hf, hxl, fun H8 sm8 => ?_⟩
          have ht8 := sm8 _ _ ht
          rw [hof]
          refine ⟨_, rfl, _, rfl, _, rfl, iteF ⟨_, rfl, _, rfl, rfl, _, rfl, iteNS rfl ?_⟩⟩
          -- the order
          refine ⟨_, rfl, rfl, _, rfl, ?_⟩
          rcases hlast with ⟨rfl, rfl⟩ | ⟨l, rfl, h1, hl5⟩
          · refine iteF ?_
            exact ⟨_, rfl, _, _, _, _, _, rfl, (sm6.trans sm7).trans sm8, .inr ⟨t, rfl, by omega, sm8 _ _ hnew⟩⟩
          · refine iteT ⟨_, rfl, _, rfl, l, t, _, _, rfl, rfl, SqT.of ((sm7.trans sm8) _ _ hl5), SqT.of ht8, _, rfl, ?_⟩
            rw [hlx h1]
            refine iteF ?_
            exact ⟨_, rfl, _, _, _, _, _, rfl, (sm6.trans sm7).trans sm8, .inr ⟨t, rfl, by omega, sm8 _ _ hnew⟩⟩
      · rintro σ H6 ⟨v5, v6, v7, v8, v9, rfl, sm6, hlast⟩
        exact q _
end
/-! ### what the top has written, the head -/
theorem all_mk {l : PySem.W.OpenLaw} {w : World} {K : PySem.W.Frag} {h : Heap} {mg : Str → Option Value} {fa f1 f2 f3 f4 f5 f6 f7  : Addr} (X : K.In h) (G : h.Ns mainGlobals mg) (hfa : mg "law" = some (.ref fa))
    {od1 an1 od2 an2 od3 an3 od4 an4 od5 an5 od6 an6 od7 an7 : Option Addr} {sl1 sl2 sl3 sl4 sl5 sl6 sl7 : Array (Option Value)} {oc1 kV1 dc1 pm1 cd1 ct1 oc2 kV2 dc2 pm2 cd2 ct2 oc3 kV3 dc3 pm3 cd3 ct3 oc4 kV4 dc4 pm4 cd4 ct4 oc5 kV5 dc5 pm5 cd5 ct5 oc6 kV6 dc6 pm6 cd6 ct6 oc7 kV7 dc7 pm7 cd7 ct7 : Value}
    (a1 : PySem.W.nsIn K mainGlobals "offset" = some (some (.ref f1))) (l1 : K.lookup f1 = some ⟨oc1, od1, .func (PySem.W.fnOf "offset" "offset" (defArgs sOffset) (defBody sOffset) (defScope sOffset) .none kV1 dc1 pm1 an1 cd1 ct1), sl1⟩) (c1 : PySem.W.codeIn K cd1 "offset" = true) (k1 : PySem.W.keepIn K (.ref f1) = true)
    (a2 : PySem.W.nsIn K mainGlobals "indexes" = some (some (.ref f2))) (l2 : K.lookup f2 = some ⟨oc2, od2, .func (PySem.W.fnOf "indexes" "indexes" (defArgs sIndexes) (defBody sIndexes) (defScope sIndexes) .none kV2 dc2 pm2 an2 cd2 ct2), sl2⟩) (c2 : PySem.W.codeIn K cd2 "indexes" = true) (k2 : PySem.W.keepIn K (.ref f2) = true)
    (a3 : PySem.W.nsIn K mainGlobals "_law_begin" = some (some (.ref f3))) (l3 : K.lookup f3 = some ⟨oc3, od3, .func (PySem.W.fnOf "_law_begin" "_law_begin" (defArgs sBegin) (defBody sBegin) (defScope sBegin) .none kV3 dc3 pm3 an3 cd3 ct3), sl3⟩) (c3 : PySem.W.codeIn K cd3 "_law_begin" = true) (k3 : PySem.W.keepIn K (.ref f3) = true)
    (a4 : PySem.W.nsIn K mainGlobals "_law_take" = some (some (.ref f4))) (l4 : K.lookup f4 = some ⟨oc4, od4, .func (PySem.W.fnOf "_law_take" "_law_take" (defArgs sTake) (defBody sTake) (defScope sTake) .none kV4 dc4 pm4 an4 cd4 ct4), sl4⟩) (c4 : PySem.W.codeIn K cd4 "_law_take" = true) (k4 : PySem.W.keepIn K (.ref f4) = true)
    (a5 : PySem.W.nsIn K mainGlobals "_law_int" = some (some (.ref f5))) (l5 : K.lookup f5 = some ⟨oc5, od5, .func (PySem.W.fnOf "_law_int" "_law_int" (defArgs sInt) (defBody sInt) (defScope sInt) .none kV5 dc5 pm5 an5 cd5 ct5), sl5⟩) (c5 : PySem.W.codeIn K cd5 "_law_int" = true) (k5 : PySem.W.keepIn K (.ref f5) = true)
    (a6 : PySem.W.nsIn K mainGlobals "_law_count" = some (some (.ref f6))) (l6 : K.lookup f6 = some ⟨oc6, od6, .func (PySem.W.fnOf "_law_count" "_law_count" (defArgs sCount) (defBody sCount) (defScope sCount) .none kV6 dc6 pm6 an6 cd6 ct6), sl6⟩) (c6 : PySem.W.codeIn K cd6 "_law_count" = true) (k6 : PySem.W.keepIn K (.ref f6) = true)
    (a7 : PySem.W.nsIn K mainGlobals "law" = some (some (.ref f7))) (l7 : K.lookup f7 = some ⟨oc7, od7, .func (PySem.W.fnOf "law" "law" (defArgs sLaw) (defBody sLaw) (defScope sLaw) .none kV7 dc7 pm7 an7 cd7 ct7), sl7⟩) (c7 : PySem.W.codeIn K cd7 "law" = true) (k7 : PySem.W.keepIn K (.ref f7) = true)
    (z_int : PySem.W.nsIn K mainGlobals "int" = some none)
    (z_abs : PySem.W.nsIn K mainGlobals "abs" = some none)
    (z_len : PySem.W.nsIn K mainGlobals "len" = some none)
    (z_list : PySem.W.nsIn K mainGlobals "list" = some none)
    (z_tuple : PySem.W.nsIn K mainGlobals "tuple" = some none)
    (z_range : PySem.W.nsIn K mainGlobals "range" = some none)
    (z_isinstance : PySem.W.nsIn K mainGlobals "isinstance" = some none)
    (z_zip : PySem.W.nsIn K mainGlobals "zip" = some none)
    (z_reversed : PySem.W.nsIn K mainGlobals "reversed" = some none)
    (z_bool : PySem.W.nsIn K mainGlobals "bool" = some none)
    : ∃ fd : FuncData, (∀ (s : Shared) (v : Value), BindsTo s fd ⟨[v], []⟩ [("script", v)]) ∧ ∀ base : Heap, K.In base → base.Ns mainGlobals mg → FnOk l.prog w K mg base CX0 2 fa fd ["script"] (spLaw K) := by
  have e := hfa.symm.trans (PySem.W.mg_of X G a7)
  cases e
  have F1 := fun_mk (st := sOffset) l1 c1 k1
  have m1 := PySem.W.mg_of X G a1
  have b1 := F1.binds (ps := ["shape", "at"]) fun _ _ _ _ _ _ us hl => match us, hl with | [_, _], _ => rfl
  have F2 := fun_mk (st := sIndexes) l2 c2 k2
  have m2 := PySem.W.mg_of X G a2
  have b2 := F2.binds (ps := ["shape", "position"]) fun _ _ _ _ _ _ us hl => match us, hl with | [_, _], _ => rfl
  have F3 := fun_mk (st := sBegin) l3 c3 k3
  have m3 := PySem.W.mg_of X G a3
  have b3 := F3.binds (ps := ["script"]) fun _ _ _ _ _ _ us hl => match us, hl with | [_], _ => rfl
  have F4 := fun_mk (st := sTake) l4 c4 k4
  have m4 := PySem.W.mg_of X G a4
  have b4 := F4.binds (ps := ["d", "many"]) fun _ _ _ _ _ _ us hl => match us, hl with | [_, _], _ => rfl
  have F5 := fun_mk (st := sInt) l5 c5 k5
  have m5 := PySem.W.mg_of X G a5
  have b5 := F5.binds (ps := ["actual"]) fun _ _ _ _ _ _ us hl => match us, hl with | [_], _ => rfl
  have F6 := fun_mk (st := sCount) l6 c6 k6
  have m6 := PySem.W.mg_of X G a6
  have b6 := F6.binds (ps := ["shape"]) fun _ _ _ _ _ _ us hl => match us, hl with | [_], _ => rfl
  have F7 := fun_mk (st := sLaw) l7 c7 k7
  have m7 := PySem.W.mg_of X G a7
  have n_int := PySem.W.mg_none_of X G z_int
  have n_abs := PySem.W.mg_none_of X G z_abs
  have n_len := PySem.W.mg_none_of X G z_len
  have n_list := PySem.W.mg_none_of X G z_list
  have n_tuple := PySem.W.mg_none_of X G z_tuple
  have n_range := PySem.W.mg_none_of X G z_range
  have n_isinstance := PySem.W.mg_none_of X G z_isinstance
  have n_zip := PySem.W.mg_none_of X G z_zip
  have n_reversed := PySem.W.mg_none_of X G z_reversed
  have n_bool := PySem.W.mg_none_of X G z_bool
  exact ⟨_, fun s v => .of_eq rfl, fun base _ _ => ok_law F7 ⟨⟨n_int, n_abs, n_len, n_list⟩, n_tuple, n_range, n_isinstance⟩ F1 b1 m1 F2 b2 m2 F3 b3 m3 F4 b4 m4 F5 b5 m5 F6 b6 m6 n_zip n_reversed n_bool⟩
end My
open PySem PySem.W PyProof.Rows
set_option maxRecDepth 100000 in
set_option maxHeartbeats 0 in
theorem PySem.Challenge.cw_tensorcompiler_k05_row_major_order_holds : PySem.Challenge.rw_tensorcompiler_k05_row_major_order.Holds := by
  w_on; o_law; k_head; (case hw => w_witness2)
  k_fill
  refine L2.walk_of (l := PySem.Challenge.rw_tensorcompiler_k05_row_major_order) (n := 63) (k := 2) (x := "script") (CX := fun _ => L2.CX0) (sp := fun w => My.spLaw _) rfl (by decide) rfl ⟨rfl, by decide, by decide⟩ (fun w h Y => PySem.W.kIn_of Y) ?F (fun _ _ a ns hl _ hS => ⟨a, ns, rfl, hS, hl, fun _ => rfl⟩) (fun _ _ _ _ _ h => h)
  case F =>
    intro w mg fa h KX G hmg
    refine' My.all_mk KX G hmg ?a1 ?l1 ?c1 ?k1 ?a2 ?l2 ?c2 ?k2 ?a3 ?l3 ?c3 ?k3 ?a4 ?l4 ?c4 ?k4 ?a5 ?l5 ?c5 ?k5 ?a6 ?l6 ?c6 ?k6 ?a7 ?l7 ?c7 ?k7 ?z_int ?z_abs ?z_len ?z_list ?z_tuple ?z_range ?z_isinstance ?z_zip ?z_reversed ?z_bool
    (case a1 => k_is); (case l1 => k_is); (case c1 => k_is); (case k1 => k_is); (case a2 => k_is); (case l2 => k_is); (case c2 => k_is); (case k2 => k_is); (case a3 => k_is); (case l3 => k_is); (case c3 => k_is); (case k3 => k_is); (case a4 => k_is); (case l4 => k_is); (case c4 => k_is); (case k4 => k_is); (case a5 => k_is); (case l5 => k_is); (case c5 => k_is); (case k5 => k_is); (case a6 => k_is); (case l6 => k_is); (case c6 => k_is); (case k6 => k_is); (case a7 => k_is); (case l7 => k_is); (case c7 => k_is); (case k7 => k_is); (case z_int => k_is); (case z_abs => k_is); (case z_len => k_is); (case z_list => k_is); (case z_tuple => k_is); (case z_range => k_is); (case z_isinstance => k_is); (case z_zip => k_is); (case z_reversed => k_is); (case z_bool => k_is)
