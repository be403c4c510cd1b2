import PyProof.Rows.All
import Wide.All
import OpenK.AllK
import Wide.FinOn
import HandS.ForMost
import HandS.Wide
import HandS.Evl
import HandS.Exc
import HandS.ExcOwn
import HandS.TryOnly
import HandS.WordsExc
import HandS.ExcIs
import HandS.IsInst
import HandS.RaiseMore
import HandS.FStr
import HandS.Zip
import HandS.TupAny
import HandS.Wide
import HandS.Walk
import HandS.Small
import HandS.Sort
import HandS.NoneIn
import HandS.More
import HandS.CallLocal
import PyProof.WalkInts
import PyProof.WalksMore
import KE.KDictPairs
import PyProof.Rows.SetFrom
import PyProof.StrWalks
import PyProof.AutoSeq1
import PyProof.Rows.ExtendIn
import PyProof.P3Eq
import HandS.Style
import KE.GoesMore
import PyProof.EnumMake
import HandS.Dict
import KE.KDictKeyed
import HandS.Head2
import PySem.Challenge.RW_tensorcompiler_k25_shared_nodes
set_option Elab.async false
set_option linter.all false
set_option maxRecDepth 100000
set_option maxHeartbeats 4000000
section

namespace My
open PySem PySem.W PySem.Calls PyProof.Rows
theorem pick_h (H : Hook) {G : Prop} (h : ∀ H0, H0 = H → G) : G := h H rfl
/-- the law from one run of the top, told for each answer of the world's row -/
theorem head_k {r : OpenRow} {q : Program} (H : Hook) {K : Params → Frag} {as : List Addr} {ek : ∀ P, as = (K P).map (·.1)} (hH : H = kHook K as ek) {M : Nat} {loose : List PySem.Str} {d : DefRec} {kwd : List (PySem.Str × PySem.Expr)}
    (e : opening r.prog = plainProg r.prog.main.scope.names) (f : ∀ s, fenceModules? r.prog s = some s)
    (run : ∀ (w : World) (os : OsState), (HandSHeadRun.endF (HandSHeadRun.stepQ (HandSHeadRun.denQ HandSHeadRun.tabQ) r.prog w) M r.prog w os).map (fun s => (HandSHeadRun.looksF r.prog (boot_heap w.params) s.abs, HandSHeadRun.seenQ q loose (importedModules r.prog.main.body) (fun s => xlAt q [] s && recOk r.toRowW.records s) s.abs, as.map (HandSHeadRun.getT s))) = some (true, openGood q loose, (K w.params).map fun p => some p.2))
    (hdef : defOf q r.name = some (d, kwd)) (hp : r.prog.theDef r.name = some (d.params, d.body, d.scope)) (hk : kwWritten? d.params.kwonlyargs d.params.kw_defaults = some kwd)
    (hwr : (!r.writes || r.records.isEmpty) = true) (k1 : r.wellSaid = true) (ok : (chainsOk q && opensWell r.prog && (frees r.toRowW && r.within.isEmpty)) = true) (hb : r.prog.bare) (hw : r.toRowW.promised)
    (call : WalkO q loose (XL q []) H.says r.toRowW d kwd fun f vs => PySem.call f vs) : r.Holds := by
  subst hH
  exact HandSHeadRun.head_any (H := kHook K as ek) (ob := fun s => as.map (HandSHeadRun.getT s)) (M := M) (fun s => List.map_congr_left fun a _ => HandSHeadRun.getT_eq s a) e f (fun w os => run w os) hdef hp hk hwr k1 ok hb hw call
end My
namespace My
open PySem PySem.W PySem.Calls PyProof.Rows
def qv : Program := view (OpenLaw.row PySem.Challenge.rw_tensorcompiler_k25_shared_nodes).prog [111]
def topNames0 : List PySem.Str := ["NODE_LIMIT", "WORK_LIMIT", "WIDTH_LIMIT", "ARG_COUNTS", "FIELDS", "limit", "_add", "_sub", "_mul", "_max", "_min", "_less", "_equal", "_neg", "_clamp", "_shift", "_where", "_MAKERS", "pointwise", "TensorError", "RankError", "AxisError", "RangeError", "TooLarge", "KindError", "FormError", "TooWide", "RANK_LIMIT", "SIZE_LIMIT", "COUNT_LIMIT"]
def topNames1 : List PySem.Str := ["check_shape", "count_of", "letters_of", "merged", "broadcast", "replaced", "corners", "interval_of", "_ends", "_size", "_input_interval", "_const_interval", "_rising_interval", "_sub_interval", "_mul_interval", "_truth_interval", "_neg_interval", "_where_interval", "_sum_interval", "_dot_interval", "_same_interval", "_pad_interval", "_join_interval", "_fold_interval", "_INTERVALS", "shape_of_result", "size_along", "_check_free", "_broadcast_shape", "_own_shape"]
def topNames2 : List PySem.Str := ["_reduced_shape", "_dot_shape", "_order_shape", "_rename_shape", "_spread_shape", "_cut_shape", "_pad_shape", "_join_shape", "_window_shape", "_fold_shape", "_gather_shape", "_SHAPES", "_FIELD_RANGES", "domain_of", "_check_form", "check_fields", "_check_clamp", "check_graph", "total_work", "work_of_node", "share", "_moved", "_law_begin", "_law_take", "_law_signed", "_law_count", "_law_size", "_law_names", "_law_cast", "_law_limit"]
def topNames3 : List PySem.Str := ["_law_point", "_law_new_axes", "_law_moved_shape", "_law_corners", "_law_span", "_law_domain", "_law_kinds", "_law_letters", "_law_info", "_law_given", "_law_node", "_law_graph"]
def topNames : List PySem.Str := topNames0 ++ topNames1 ++ topNames2 ++ topNames3
end My
open PySem PySem.W PyProof.Rows
local macro_rules | `(tactic| o_head $H) => `(tactic| assumption)
theorem My.KO (hgiven : (OpenLaw.row PySem.Challenge.rw_tensorcompiler_k25_shared_nodes).Holds) : (OpenLaw.row PySem.Challenge.rw_tensorcompiler_k25_shared_nodes).Holds := by
  have hgiven := hgiven
  k_head
namespace My
open PySem PySem.W PySem.Calls PyProof.Rows
def asK : List Addr := [2, 3, 15, 17, 18, 19, 20, 21, 22, 23, 24, 25, 26, 27, 28, 29, 30, 31, 32, 33, 34, 36, 37, 38, 39, 40, 41, 42, 43, 44, 46, 47, 49, 50, 51, 53, 54, 56, 57, 58, 60, 61, 63, 64, 65, 67, 68, 70, 71, 72, 74, 75, 77, 78, 79, 81, 82, 84, 85, 86, 88, 89, 91, 92, 93, 95, 96, 98, 99, 100, 102, 103, 105, 106, 107, 109, 110, 112, 113, 114, 116, 117, 119, 120, 121, 123, 124, 126, 127, 128, 129, 131, 132, 134, 135, 136, 143, 144, 145, 146, 149, 156, 157, 158, 161, 168, 169, 170, 173, 180, 181, 182, 185, 192, 193, 194, 197, 204, 205, 206, 209, 216, 217, 218, 221, 228, 229, 230, 233, 235, 236, 238, 239, 240, 242, 243, 245, 246, 247, 250, 251, 252, 254, 255, 257, 258, 259, 261, 262, 264, 265, 266, 268, 269, 271, 272, 273, 275, 276, 278, 279, 280, 282, 283, 285, 286, 287, 289, 290, 292, 293, 294, 296, 297, 299, 300, 301, 303, 304, 306, 307, 308, 310, 311, 313, 314, 315, 318, 319, 320, 322, 323, 325, 326, 327, 329, 330, 332, 333, 334, 336, 337, 339, 340, 341, 343, 344, 346, 347, 348, 350, 351, 353, 354, 355, 357, 358, 360, 361, 362, 364, 365, 367, 368, 369, 371, 372, 374, 375, 376, 378, 379, 381, 382, 383, 385, 386, 388, 389, 390, 392, 393, 395, 396, 397, 399, 401, 402, 404, 405, 406, 408, 409, 411, 412, 413, 415, 416, 418, 419, 420, 422, 423, 425, 426, 427, 429, 430, 432, 433, 434, 436, 437, 439, 440, 441, 443, 444, 446, 447, 448, 451, 452, 453, 455, 456, 458, 459, 460, 462, 463, 465, 466, 467, 469, 470, 472, 473, 474, 476, 477, 479, 480, 481, 483, 484, 486, 487, 488, 490, 491, 493, 494, 495, 497, 498, 500, 501, 502, 504, 505, 507, 508, 509, 511, 512, 513, 514, 515, 516, 517, 518, 519, 520, 523, 524, 525, 527, 528, 530, 531, 532, 534, 535, 537, 538, 539, 541, 542, 544, 545, 546, 548, 549, 551, 552, 553, 555, 556, 558, 559, 560, 562, 563, 565, 566, 567, 570, 571, 572, 575, 576, 577, 579, 580, 582, 583, 584, 586, 587, 589, 590, 591, 593, 594, 596, 597, 598, 600, 601, 603, 604, 605, 607, 608, 610, 611, 612, 615, 616, 617, 619, 620, 622, 623, 624, 626, 627, 629, 630, 631, 633, 634, 636, 637, 638, 640, 641, 643, 644, 645, 648, 649, 650, 652, 653, 655, 656, 657, 659, 660, 662, 663, 664, 667, 668, 669, 671, 672, 674, 675, 676, 679, 680, 681, 684, 685, 686, 689, 690, 691, 693, 694, 696, 697, 698, 700, 701, 703, 704, 705, 708, 709]
theorem ekK : ∀ P, asK = (My.KO.heap_1 P).map (·.1) := fun P => by kernel_rfl
theorem topRun0 : ∀ (w : World) (os : OsState), (HandSHeadRun.endF (HandSHeadRun.stepQ (HandSHeadRun.denQ HandSHeadRun.tabQ) (OpenLaw.row PySem.Challenge.rw_tensorcompiler_k25_shared_nodes).prog (w.withFollow "special-get-raises" false)) 7000 (OpenLaw.row PySem.Challenge.rw_tensorcompiler_k25_shared_nodes).prog (w.withFollow "special-get-raises" false) os).map (fun s => (HandSHeadRun.looksF (OpenLaw.row PySem.Challenge.rw_tensorcompiler_k25_shared_nodes).prog (boot_heap (w.withFollow "special-get-raises" false).params) s.abs, HandSHeadRun.seenQ qv topNames (importedModules (OpenLaw.row PySem.Challenge.rw_tensorcompiler_k25_shared_nodes).prog.main.body) (fun s => xlAt qv [] s && recOk (OpenLaw.row PySem.Challenge.rw_tensorcompiler_k25_shared_nodes).toRowW.records s) s.abs, asK.map (HandSHeadRun.getT s))) = some (true, openGood qv topNames, (My.KO.heap_1 (w.withFollow "special-get-raises" false).params).map fun p => some p.2) := by
  intro w os
  kernel_rfl
theorem topRun1 : ∀ (w : World) (os : OsState), (HandSHeadRun.endF (HandSHeadRun.stepQ (HandSHeadRun.denQ HandSHeadRun.tabQ) (OpenLaw.row PySem.Challenge.rw_tensorcompiler_k25_shared_nodes).prog (w.withFollow "special-get-raises" true)) 7000 (OpenLaw.row PySem.Challenge.rw_tensorcompiler_k25_shared_nodes).prog (w.withFollow "special-get-raises" true) os).map (fun s => (HandSHeadRun.looksF (OpenLaw.row PySem.Challenge.rw_tensorcompiler_k25_shared_nodes).prog (boot_heap (w.withFollow "special-get-raises" true).params) s.abs, HandSHeadRun.seenQ qv topNames (importedModules (OpenLaw.row PySem.Challenge.rw_tensorcompiler_k25_shared_nodes).prog.main.body) (fun s => xlAt qv [] s && recOk (OpenLaw.row PySem.Challenge.rw_tensorcompiler_k25_shared_nodes).toRowW.records s) s.abs, asK.map (HandSHeadRun.getT s))) = some (true, openGood qv topNames, (My.KO.heap_1 (w.withFollow "special-get-raises" true).params).map fun p => some p.2) := by
  intro w os
  kernel_rfl
theorem topRun : ∀ (w : World) (os : OsState), (HandSHeadRun.endF (HandSHeadRun.stepQ (HandSHeadRun.denQ HandSHeadRun.tabQ) (OpenLaw.row PySem.Challenge.rw_tensorcompiler_k25_shared_nodes).prog w) 7000 (OpenLaw.row PySem.Challenge.rw_tensorcompiler_k25_shared_nodes).prog w os).map (fun s => (HandSHeadRun.looksF (OpenLaw.row PySem.Challenge.rw_tensorcompiler_k25_shared_nodes).prog (boot_heap w.params) s.abs, HandSHeadRun.seenQ qv topNames (importedModules (OpenLaw.row PySem.Challenge.rw_tensorcompiler_k25_shared_nodes).prog.main.body) (fun s => xlAt qv [] s && recOk (OpenLaw.row PySem.Challenge.rw_tensorcompiler_k25_shared_nodes).toRowW.records s) s.abs, asK.map (HandSHeadRun.getT s))) = some (true, openGood qv topNames, (My.KO.heap_1 w.params).map fun p => some p.2) := fun w => byRow2 "special-get-raises" (P := fun w => ∀ os : OsState, (HandSHeadRun.endF (HandSHeadRun.stepQ (HandSHeadRun.denQ HandSHeadRun.tabQ) (OpenLaw.row PySem.Challenge.rw_tensorcompiler_k25_shared_nodes).prog w) 7000 (OpenLaw.row PySem.Challenge.rw_tensorcompiler_k25_shared_nodes).prog w os).map (fun s => (HandSHeadRun.looksF (OpenLaw.row PySem.Challenge.rw_tensorcompiler_k25_shared_nodes).prog (boot_heap w.params) s.abs, HandSHeadRun.seenQ qv topNames (importedModules (OpenLaw.row PySem.Challenge.rw_tensorcompiler_k25_shared_nodes).prog.main.body) (fun s => xlAt qv [] s && recOk (OpenLaw.row PySem.Challenge.rw_tensorcompiler_k25_shared_nodes).toRowW.records s) s.abs, asK.map (HandSHeadRun.getT s))) = some (true, openGood qv topNames, (My.KO.heap_1 w.params).map fun p => some p.2)) topRun0 topRun1 w
end My
end
namespace My
open PySem L2
/-! ### the text -/
def topS (i : Nat) : Stmt := PySem.Challenge.pw_tensorcompiler_k25_shared_nodes.main.body.getD i (.Pass ⟨0, 0, 0, 0⟩)
abbrev sLimit : Stmt := topS 6
abbrev sAdd : Stmt := topS 7
abbrev sSub : Stmt := topS 8
abbrev sMul : Stmt := topS 9
abbrev sMax : Stmt := topS 10
abbrev sMin : Stmt := topS 11
abbrev sLess : Stmt := topS 12
abbrev sEqual : Stmt := topS 13
abbrev sNeg : Stmt := topS 14
abbrev sClamp : Stmt := topS 15
abbrev sShift : Stmt := topS 16
abbrev sWhere : Stmt := topS 17
abbrev sPw : Stmt := topS 19
abbrev sCheck : Stmt := topS 33
abbrev sCountOf : Stmt := topS 34
abbrev sLettersOf : Stmt := topS 35
abbrev sMerged : Stmt := topS 36
abbrev sBroad : Stmt := topS 37
abbrev sreplaced : Stmt := topS 38
abbrev scorners : Stmt := topS 40
abbrev sinterval_of : Stmt := topS 41
abbrev s_ends : Stmt := topS 42
abbrev s_size : Stmt := topS 43
abbrev s_input_interval : Stmt := topS 44
abbrev s_const_interval : Stmt := topS 45
abbrev s_rising_interval : Stmt := topS 46
abbrev s_sub_interval : Stmt := topS 47
abbrev s_mul_interval : Stmt := topS 48
abbrev s_truth_interval : Stmt := topS 49
abbrev s_neg_interval : Stmt := topS 50
abbrev s_where_interval : Stmt := topS 51
abbrev s_sum_interval : Stmt := topS 52
abbrev s_dot_interval : Stmt := topS 53
abbrev s_same_interval : Stmt := topS 54
abbrev s_pad_interval : Stmt := topS 55
abbrev s_join_interval : Stmt := topS 56
abbrev s_fold_interval : Stmt := topS 57
abbrev sshape_of_result : Stmt := topS 60
abbrev ssize_along : Stmt := topS 61
abbrev s_check_free : Stmt := topS 62
abbrev s_broadcast_shape : Stmt := topS 63
abbrev s_own_shape : Stmt := topS 64
abbrev s_reduced_shape : Stmt := topS 65
abbrev s_dot_shape : Stmt := topS 66
abbrev s_order_shape : Stmt := topS 67
abbrev s_rename_shape : Stmt := topS 68
abbrev s_spread_shape : Stmt := topS 69
abbrev s_cut_shape : Stmt := topS 70
abbrev s_pad_shape : Stmt := topS 71
abbrev s_join_shape : Stmt := topS 72
abbrev s_window_shape : Stmt := topS 73
abbrev s_fold_shape : Stmt := topS 74
abbrev s_gather_shape : Stmt := topS 75
abbrev sdomain_of : Stmt := topS 79
abbrev s_check_form : Stmt := topS 80
abbrev s_check_fields : Stmt := topS 81
abbrev s_check_clamp : Stmt := topS 82
abbrev scheck_graph : Stmt := topS 84
abbrev stotal_work : Stmt := topS 85
abbrev swork_of_node : Stmt := topS 86
abbrev sshare : Stmt := topS 88
abbrev s_moved : Stmt := topS 89
abbrev sBegin : Stmt := topS 91
abbrev sTake : Stmt := topS 92
abbrev sSigned : Stmt := topS 93
abbrev sCount : Stmt := topS 94
abbrev sSize : Stmt := topS 95
abbrev sNames : Stmt := topS 96
abbrev sCast : Stmt := topS 97
abbrev s_law_limit : Stmt := topS 98
abbrev s_law_point : Stmt := topS 99
abbrev s_law_new_axes : Stmt := topS 100
abbrev s_law_moved_shape : Stmt := topS 101
abbrev s_law_corners : Stmt := topS 102
abbrev s_law_span : Stmt := topS 103
abbrev s_law_domain : Stmt := topS 104
abbrev s_law_kinds : Stmt := topS 105
abbrev s_law_letters : Stmt := topS 106
abbrev s_law_info : Stmt := topS 107
abbrev s_law_given : Stmt := topS 108
abbrev s_law_node : Stmt := topS 109
abbrev s_law_graph : Stmt := topS 110
abbrev slaw : Stmt := topS 111
/-! ### len(set(text)) -/
def one (c : Nat) : Str := ⟨#[c]⟩
/-- the signs met so far, each once -/
def met : List Nat → List Nat → List Nat
  | σ, [] => σ
  | σ, c :: r => met (if c ∈ σ then σ else σ ++ [c]) r
theorem met_take (l : List Nat) : ∀ (σ : List Nat) (i : Nat) (c : Nat), l[i]? = some c → met σ (l.take (i + 1)) = if c ∈ met σ (l.take i) then met σ (l.take i) else met σ (l.take i) ++ [c] := by
  induction l with
  | nil => intro σ i c h; simp at h
  | cons a l ih =>
    intro σ i c h
    cases i with
    | zero =>
      simp only [List.getElem?_cons_zero, Option.some.injEq] at h
      subst h
      rfl
    | succ i =>
      simp only [List.getElem?_cons_succ] at h
      exact ih _ i c h
theorem met_len : ∀ (l σ : List Nat), σ.length ≤ (met σ l).length ∧ (met σ l).length ≤ σ.length + l.length
  | [], σ => ⟨Nat.le_refl _, Nat.le_refl _⟩
  | c :: r, σ => by
    have ih := met_len r (if c ∈ σ then σ else σ ++ [c])
    show σ.length ≤ (met (if c ∈ σ then σ else σ ++ [c]) r).length ∧ (met (if c ∈ σ then σ else σ ++ [c]) r).length ≤ σ.length + (r.length + 1)
    by_cases g : c ∈ σ
    · rw [if_pos g] at ih ⊢
      omega
    · rw [if_neg g] at ih ⊢
      rw [List.length_append, List.length_singleton] at ih
      omega
/-- as many as there are signs: none twice -/
theorem met_all : ∀ (l σ : List Nat), σ.Nodup → ((met σ l).length = σ.length + l.length ↔ (σ ++ l).Nodup)
  | [], σ, h => by
    rw [List.append_nil]
    exact ⟨fun _ => h, fun _ => rfl⟩
  | c :: r, σ, h => by
    show (met (if c ∈ σ then σ else σ ++ [c]) r).length = σ.length + (r.length + 1) ↔ _
    by_cases g : c ∈ σ
    · rw [if_pos g]
      have := (met_len r σ).2
      constructor
      · intro e; omega
      · intro n
        exact absurd rfl ((List.nodup_append.mp n).2.2 c g c List.mem_cons_self)
    · rw [if_neg g]
      have hn : (σ ++ [c]).Nodup := by
        refine List.nodup_append.mpr ⟨h, by simp, fun x hx y hy e => ?_⟩
        rw [List.mem_singleton] at hy
        rw [e, hy] at hx
        exact g hx
      have ih := met_all r (σ ++ [c]) hn
      rw [List.length_append, List.length_singleton] at ih
      rw [show σ.length + (r.length + 1) = σ.length + 1 + r.length by omega, ih, List.append_assoc]
      rfl
section SetS
open PySem.Spec
variable {prog : Program} {ww : World} {AA : Around}
theorem set_loop {I S : Addr} {x : Str} {St : Nat → Heap → Prop} {R : Result → Shared → Prop} (Wk : Walks prog ww AA.in1 I [I] [I] x.cps.size (SignAt x) St) (hS : S ≠ I) (hb : x.cps.size + 1 < scanBound) :
    ∀ (k i : Nat) (s : Shared), x.cps.size - i = k → i ≤ x.cps.size → St i s.heap → s.heap.SetOf (strKind prog ww) S (fun z => decide (∃ c ∈ met [] (x.cps.toList.take i), z = one c)) (met [] (x.cps.toList.take i)).length →
      (∀ h' tk, (∀ b o, b ≠ S → b ≠ I → s.heap.get? b = some o → h'.get? b = some o) → h'.SetOf (strKind prog ww) S (fun z => decide (∃ c ∈ met [] x.cps.toList, z = one c)) (met [] x.cps.toList).length → R (.ok (.ret .none)) { s with heap := h', toks := tk }) →
      codeAny (model prog ww) AA (.builtin "set.update.loop" ⟨[.ref S, .ref I], []⟩) R s := by
  intro k
  induction k with
  | zero =>
    intro i s hk hi st hset hR
    have e : i = x.cps.size := by omega
    subst e
    refine codeAny_builtin PyProof.Rows.F.entry_set_update_loop ?_
    rw [Around.under_plainId PyProof.Rows.F.plain_set_update_loop _]
    refine wpAny_bind (Wk.done s _ _ st fun h' tk hm => wpAny_pure (hR h' tk (fun b o _ hI g => hm b o (fun z => hI (List.mem_singleton.mp z)) g) ?_))
    obtain ⟨o, es, ep, t, ho, r⟩ := hset
    rw [show x.cps.size = x.cps.toList.length from Array.length_toList.symm, List.take_length] at r
    exact ⟨o, es, ep, t, hm S o (fun z => hS (List.mem_singleton.mp z)) ho, r⟩
  | succ k ih =>
    intro i s hk hi st hset hR
    have hlt : i < x.cps.size := by omega
    refine codeAny_builtin PyProof.Rows.F.entry_set_update_loop ?_
    rw [Around.under_plainId PyProof.Rows.F.plain_set_update_loop _]
    refine wpAny_bind (Wk.item i s _ _ hlt st fun v h1 tk hv st1 hm => ?_)
    obtain ⟨c, u, hc, rfl⟩ := hv
    have hc2 : x.cps.toList[i]? = some c := by rw [Array.getElem?_toList]; exact hc
    have hset1 : h1.SetOf (strKind prog ww) S (fun z => decide (∃ c ∈ met [] (x.cps.toList.take i), z = one c)) (met [] (x.cps.toList.take i)).length := by
      obtain ⟨o, es, ep, t, ho, r⟩ := hset
      exact ⟨o, es, ep, t, hm S o (fun z => hS (List.mem_singleton.mp z)) ho, r⟩
    refine wpAny_bind (m := holding [Value.str (one c) u] (setAdd S (.str (one c) u))) (wpAny_holding ?_)
    unfold setAdd
    refine wpAny_holding (wpAny_bind ((strKind prog ww).pyHash (k := one c) (strKind_is _ _ _ _) ?_))
    have room : (met [] (x.cps.toList.take i)).length + 1 < scanBound := by
      have l0 := (met_len (x.cps.toList.take i) []).2
      have l1 : (x.cps.toList.take i).length ≤ x.cps.size := by
        rw [List.length_take, Array.length_toList]
        exact Nat.min_le_right _ _
      have l2 : ([] : List Nat).length = 0 := rfl
      omega
    refine wpAny_setAddHashed_of (knd := strKind prog ww) (strKind_is _ _ _ _) rfl hset1 room fun h2 sb hset2 => wpAny_pure ⟨plainId_quiet PyProof.Rows.F.plain_set_update_loop _, ?_⟩
    have inj : ∀ a b, one a = one b → a = b := fun a b e => by
      have := congrArg (fun z : Str => z.cps.toList) e
      exact (List.cons.inj this).1
    have key : ∀ l : List Nat, (decide (∃ a ∈ l, one c = one a)) = decide (c ∈ l) := fun l => by
      by_cases g : c ∈ l
      · rw [decide_eq_true g]; exact decide_eq_true ⟨c, g, rfl⟩
      · rw [decide_eq_false g]; exact decide_eq_false (fun ⟨a, ha, e⟩ => g (by rw [inj _ _ e]; exact ha))
    refine ih (i + 1) _ (by omega) hlt (Wk.frame _ _ _ st1 fun b hb o e => ?_) ?_ fun h3 tk3 hm3 hs3 => ?_
    · rw [sb.2 b (fun z => hS (by rw [← z]; exact List.mem_singleton.mp hb))]
      exact e
    · rw [met_take _ _ _ _ hc2]
      have hh := hset2
      simp only [key] at hh
      by_cases g : c ∈ met [] (x.cps.toList.take i)
      · rw [if_pos g]
        rw [decide_eq_true g, if_pos rfl] at hh
        have ef : (fun z => decide (∃ a ∈ met [] (x.cps.toList.take i), z = one a) || decide (z = one c)) = fun z => decide (∃ a ∈ met [] (x.cps.toList.take i), z = one a) := by
          funext z
          by_cases q : z = one c
          · rw [decide_eq_true q, decide_eq_true (show ∃ a ∈ met [] (x.cps.toList.take i), z = one a from ⟨c, g, q⟩)]; rfl
          · rw [decide_eq_false q, Bool.or_false]
        rw [ef] at hh
        exact hh
      · rw [if_neg g]
        rw [decide_eq_false g, if_neg Bool.false_ne_true] at hh
        have ef : (fun z => decide (∃ a ∈ met [] (x.cps.toList.take i), z = one a) || decide (z = one c)) = fun z => decide (∃ a ∈ met [] (x.cps.toList.take i) ++ [c], z = one a) := by
          funext z
          by_cases q : z = one c
          · rw [decide_eq_true q, Bool.or_true]; exact (decide_eq_true ⟨c, List.mem_append_right _ (List.mem_singleton.mpr rfl), q⟩).symm
          · rw [decide_eq_false q, Bool.or_false]
            by_cases p : ∃ a ∈ met [] (x.cps.toList.take i), z = one a
            · obtain ⟨a, ha, e⟩ := p
              rw [decide_eq_true (show ∃ a ∈ met [] (x.cps.toList.take i), z = one a from ⟨a, ha, e⟩)]
              exact (decide_eq_true ⟨a, List.mem_append_left _ ha, e⟩).symm
            · rw [decide_eq_false p]
              refine (decide_eq_false fun ⟨a, ha, e⟩ => ?_).symm
              rcases List.mem_append.mp ha with y | y
              · exact p ⟨a, y, e⟩
              · rw [List.mem_singleton] at y; exact q (by rw [e, y])
        rw [ef] at hh
        rw [List.length_append, List.length_singleton]
        exact hh
    · refine hR h3 tk3 (fun b o nS nI e => hm3 b o nS nI ?_) hs3
      rw [sb.2 b nS]
      exact hm b o (fun z => nI (List.mem_singleton.mp z)) e

theorem sub_str_set : isSubtype (.type "str") (.type "set") = pure false := by rw [isSubtype_type]; kernel_rfl
theorem sub_str_frz : isSubtype (.type "str") (.type "frozenset") = pure false := by rw [isSubtype_type]; kernel_rfl
variable {EE : Value → Shared → Prop} {ss : Shared}
set_option maxHeartbeats 8000000 in
theorem call_set_str {x : Str} {t : Tok} {Q : Value → Shared → Prop} (hh : AA.handled = none) (hb : x.cps.size + 1 < scanBound)
    (h : ∀ (h' : Heap) (tk : Nat), h'.SetOf (strKind prog ww) ss.heap.objs.size (fun z => decide (∃ c ∈ met [] x.cps.toList, z = one c)) (met [] x.cps.toList).length →
      (∀ b o, b < ss.heap.objs.size → ss.heap.get? b = some o → h'.get? b = some o) → Q (.ref ss.heap.objs.size) { ss with heap := h', toks := tk }) :
    wpAny (model prog ww) AA (call (.type "set") [.str x t]) Q EE ss := by
  obtain ⟨c, tl, hmro⟩ := PySem.F.called_set.mro
  have hmade := PySem.F.called_set.made
  have hsub := PySem.F.called_set.sub
  refine wpAny_call (codeAny_of_tree ?_)
  show wpAny _ _ (callAny (.type "set") _) _ _ _
  refine wpAny_pure ⟨Code.quiet_builtin _ (by decide +kernel), codeAny_builtin PySem.F.entry_type_call ?_⟩
  rw [Around.under_plain (weight_type_call_type "set" [.str x t] []) rfl]
  have h1 := PySem.F.called_set.notType
  have h2 := PySem.F.called_set.canCreate
  have hct := PySem.F.typeCall_set_1 (.str x t)
  repeat (any_goals (first | assumption | wp_step))
  refine codeAny_mono (code_set_new_1 (.str x t) (E := EE) (Q₁ := fun obj s1 => ∃ led : Bool, obj = .ref ss.heap.objs.size ∧ s1 = { ss with heap := ss.heap.push { cls := .type "set", dict := none, data := .set #[] 0 (.fresh 0 0 led) } }) fun led => ⟨led, rfl, rfl⟩) fun r s1 hr => ?_
  match r, hr with
  | .error e, hr => exact hr
  | .ok .next, hr => exact hr.elim
  | .ok .brk, hr => exact hr.elim
  | .ok .cont, hr => exact hr.elim
  | .ok (.ret obj), hr =>
    obtain ⟨led, rfl, rfl⟩ := hr
    have hS : (ss.heap.push ({ cls := .type "set", dict := none, data := .set #[] 0 (.fresh 0 0 led) } : Obj)).get? ss.heap.objs.size = some ({ cls := .type "set", dict := none, data := .set #[] 0 (.fresh 0 0 led) } : Obj) := Heap.get?_push_size _ rfl
    have hT : Shared.TypeIs { ss with heap := ss.heap.push ({ cls := .type "set", dict := none, data := .set #[] 0 (.fresh 0 0 led) } : Obj) } (.ref ss.heap.objs.size) "set" := ⟨_, hS, rfl⟩
    have hli := PySem.F.called_set.init.lookup
    have hbi := PySem.F.called_set.init.bind (.ref ss.heap.objs.size)
    repeat (any_goals (first | assumption | wp_step))
    refine codeAny_mono (codeAny_call_builtin (R := wants (fun r s2 => r = .none ∧ ∃ h' tk, s2 = { ss with heap := h', toks := tk } ∧ h'.SetOf (strKind prog ww) ss.heap.objs.size (fun z => decide (∃ c ∈ met [] x.cps.toList, z = one c)) (met [] x.cps.toList).length ∧ (∀ b o, b < ss.heap.objs.size → ss.heap.get? b = some o → h'.get? b = some o)) EE)
      PySem.F.called_set.init.plain PySem.F.entry_set_init (check_set_init_1 hT ?_)) fun r2 s2 hr2 => ?_
    · have hs1 := sub_str_set
      have hs2 := sub_str_frz
      have hne : (Value.type "str" == Value.type "dict") = false := by decide
      unfold Builtin.«set.__init__» noKeywords Builtin.Frozenset.updateFrom
      generalize hPI : pyIter = PI
      wp_walk
      subst hPI
      refine wpAny_pyIter_str fun o St Wk st0 => ?_
      refine wpAny_bind (wpAny_runValue ?_)
      have hne2 : ss.heap.objs.size ≠ (ss.heap.push ({ cls := .type "set", dict := none, data := .set #[] 0 (.fresh 0 0 led) } : Obj)).objs.size := by
        rw [Heap.size_push]
        exact Nat.ne_of_lt (Nat.lt_succ_self _)
      refine set_loop (Wk _ (by simp [hh])) hne2 hb (x.cps.size - 0) 0 _ (by omega) (Nat.zero_le _) st0 ?_ fun h3 tk3 hk hset => ?_
      · have hget : ((ss.heap.push ({ cls := .type "set", dict := none, data := .set #[] 0 (.fresh 0 0 led) } : Obj)).push o).get? ss.heap.objs.size = some ({ cls := .type "set", dict := none, data := .set #[] 0 (.fresh 0 0 led) } : Obj) := Heap.get?_push_of_some _ hS
        have f := ((PyProof.Rows.setObjOf_fresh (knd := strKind prog ww) led).setOf (h := (ss.heap.push ({ cls := .type "set", dict := none, data := .set #[] 0 (.fresh 0 0 led) } : Obj)).push o) (a := ss.heap.objs.size) hget (by unfold scanBound; omega))
        have ef : (fun z : Str => decide (∃ c ∈ met [] (x.cps.toList.take 0), z = one c)) = fun _ => false := by
          funext z
          exact decide_eq_false fun ⟨c, hc, _⟩ => by cases hc
        rw [ef]
        exact f
      · refine wpAny_pure ?_
        refine wpAny_pure ⟨rfl, h3, tk3, rfl, hset, fun b o2 hb2 e => ?_⟩
        refine hk b o2 (Nat.ne_of_lt hb2) ?_ (Heap.get?_push_of_some _ (Heap.get?_push_of_some _ e))
        rw [Heap.size_push]
        exact Nat.ne_of_lt (Nat.lt_succ_of_lt hb2)
    · match r2, hr2 with
      | .error e, hr2 => exact hr2
      | .ok .next, hr2 => exact hr2.elim
      | .ok .brk, hr2 => exact hr2.elim
      | .ok .cont, hr2 => exact hr2.elim
      | .ok (.ret v), hr2 =>
        obtain ⟨rfl, h3, tk3, rfl, hset, hk⟩ := hr2
        repeat (any_goals (first | assumption | wp_step))
        exact h _ _ hset hk
end SetS
/-- of a text -/
def tLenSetS (ta : TE) : TE := fun σ H Q => ta σ H fun x H1 => ∃ z : Str, x = .str z ∧ z.cps.size ≤ 1000 ∧ Q (.int ((met [] z.cps.toList).length : Nat)) H1
open PySem.Spec PyProof.Rows in
theorem pe_lenSetS {X : Cx} {a : Expr} {ta : TE} {p p2 q pos : Pos} (hg : Gl X "len") (hm : X.mg "len" = none) (hg2 : Gl X "set") (hm2 : X.mg "set" = none) (ha : PE X a ta) (hc : X.calm = true := by rfl)
    (na : starEach [a] X.env = (false, eval a X.env) :: starEach [] X.env := by rfl) : PE X (.Call (.Name "len" p) [.Call (.Name "set" p2) [a] [] q] [] pos) (tLenSetS ta) := by
  refine ⟨fun pins s σ H Q I h => Call_ (ld_blt I hg hm boot_len ?_)⟩
  refine PyProof.Rows.callWith_builtin1 (PyProof.Rows.args_cons (Call_ (ld_blt I hg2 hm2 boot_set ?_)) rfl) rfl rfl
  refine PyProof.Rows.callWith_type1 (PyProof.Rows.args_cons (thn (ha.run pins s σ H _ I h) fun v s1 ⟨x, H1, I1, r1, q1⟩ => PyProof.Rows.args_nil ?_) na) na rfl
  obtain ⟨z, rfl, hz, q1⟩ := q1
  obtain ⟨t, rfl⟩ := r1
  refine call_set_str (I1.ok.hd hc) (by unfold scanBound; omega) fun h' tk hset hk => PyProof.Rows.args_nil ?_
  have hl := (met_len z.cps.toList []).2
  have l1 : z.cps.toList.length ≤ 1000 := by
    rw [Array.length_toList]
    exact hz
  have l2 : ([] : List Nat).length = 0 := rfl
  obtain ⟨o, es, ep, tb, ho, hex, hd, _, _, _, hf, hn⟩ := hset
  exact call_len_set ho hex hd hf (by rw [hn]; omega) ⟨.int ((met [] z.cps.toList).length : Nat), H1, (I1.kept fun b o e => hk b o (Heap.lt_size e) e : Inv X pins σ H1 { s1 with heap := h', toks := tk }).tok _, ⟨_, by rw [hn]⟩, q1⟩
/-! ### tuples that have no dict of their own; dict(tuple of pairs) -/
/-- an object with nothing of its own -/
def Pln (o : Obj) : Prop := o.dict = none ∧ o.slots = #[]
def NoD (K : PySem.W.Frag) (H : Hp) (a : Addr) : Prop := ∃ o : Obj, Pln o ∧ ((∃ u, H a = some (.frz o u)) ∨ K.lookup a = some o)
theorem NoD.same {K : PySem.W.Frag} {H H' : Hp} {a : Addr} (h : NoD K H a) (s : Same H H') : NoD K H' a := by
  obtain ⟨o, hd, h⟩ := h
  exact ⟨o, hd, h.imp (fun ⟨u, e⟩ => ⟨u, s _ _ e⟩) id⟩
theorem sqT_same {K : PySem.W.Frag} {H H' : Hp} {a : Addr} {xs : List V} (h : SqT K H a xs) (s : Same H H') : SqT K H' a xs := by
  rcases h with (h | ⟨o, h⟩) | h
  · exact .inl (.inl (s _ _ h))
  · exact .inl (.inr ⟨o, s _ _ h⟩)
  · exact .inr h
theorem sqL_same {K : PySem.W.Frag} {H H' : Hp} {a : Addr} {xs : List V} (h : SqL K H a xs) (s : Same H H') : SqL K H' a xs := by
  rcases h with (h | ⟨o, h⟩) | h
  · exact .inl (.inl (s _ _ h))
  · exact .inl (.inr ⟨o, s _ _ h⟩)
  · exact .inr h
section
variable {X : Cx}
theorem NoD.obj {pins : List (Addr × Obj)} {σ : St} {H : Hp} {s : Shared} {a : Addr} (I : Inv X pins σ H s) (h : NoD X.K H a) : ∃ o, s.heap.get? a = some o ∧ Pln o := by
  obtain ⟨o, hd, h⟩ := h
  rcases h with ⟨u, h⟩ | h
  · exact ⟨o, (I.hok a _ h).1, hd⟩
  · exact ⟨o, I.kIn a o h, hd⟩
/-- (a, b, ..), with no dict -/
def tTupF (t : TA) : TE := fun σ H Q => t σ H fun xs H1 => xs.length ≤ sizeLine ∧ ∀ p (o : Obj), H1 p = none → Pln o → Q (.ref p) (upd H1 p (.frz o (.tup xs)))
theorem pe_tupF {es : List Expr} {t : TA} {pos : Pos} {x1} (h : PA X es t) : PE X (.Tuple es x1 pos) (tTupF t) := by
  refine ⟨fun pins s σ H Q I hq => ?_⟩
  refine wpAny_Tuple_spliced (thn (h.run pos pins s σ H _ I hq) fun us s1 ⟨xs, H1, I1, r, z, q⟩ => ⟨by rw [← r.length]; exact z, ?_⟩)
  have hf : H1 s1.heap.objs.size = none := I1.hok.fresh (Nat.le_refl _)
  refine ⟨.ref s1.heap.objs.size, upd H1 s1.heap.objs.size (.frz { cls := .type "tuple", data := .seq us.toArray } (.tup xs)), I1.laid (t' := s1.toks) (fun b u e => Heap.get?_push_of_some _ e) (Nat.le_refl _) ?_, rfl, q _ { cls := .type "tuple", data := .seq us.toArray } hf ⟨rfl, rfl⟩⟩
  exact ⟨Heap.get?_push_size _ rfl, z, us, r, ⟨_, Heap.get?_push_size _ rfl, rfl, _, rfl⟩⟩
/-- tuple(list) -/
theorem call_tuple_ofF : CallR X (.type "tuple") (fun xs H Q => ∃ p ys, xs = [.ref p] ∧ SqL X.K H p ys ∧ ∀ l (o : Obj), H l = none → Pln o → Q (.ref l) (upd H l (.frz o (.tup ys)))) := by
  intro pins s σ H xs us Q I r h
  obtain ⟨p, ys, rfl, hq, q⟩ := h
  obtain ⟨u, rfl, rx⟩ := vals1 r
  cases rx
  obtain ⟨its, r', pl, hz⟩ := I.list hq
  have hlen := r'.length
  have hn := line63
  refine call_tuple_list pl.isList (fun h' kp => ?_) (by simp only [List.size_toArray] <;> omega)
  have I1 : Inv X pins σ H { s with heap := h' } := I.kept (t' := s.toks) kp
  have I2 : Inv X pins σ (upd H h'.objs.size (.frz { cls := .type "tuple", data := .seq its.toArray } (.tup ys))) { s with heap := h'.push { cls := .type "tuple", data := .seq its.toArray } } :=
    I1.laid (t' := s.toks) (fun b o e => Heap.get?_push_of_some _ e) (Nat.le_refl _) (show ObjOk X.prog X.w _ _ _ (.frz _ (.tup ys)) from ⟨Heap.get?_push_size _ rfl, hz, its, r', PyProof.Rows.IsTup.new _ _⟩)
  exact ⟨.ref h'.objs.size, _, I2, rfl, q _ _ (I1.hok.fresh (Nat.le_refl _)) ⟨rfl, rfl⟩⟩
/-- t + u -/
def rCatF (K : PySem.W.Frag) : R2 := fun x y H Q => ∃ a b xs ys, x = .ref a ∧ y = .ref b ∧ SqT K H a xs ∧ SqT K H b ys ∧ xs.length + ys.length ≤ sizeLine ∧
  (xs = [] → Q (.ref b) H) ∧ (xs ≠ [] → ys = [] → Q (.ref a) H) ∧ (xs ≠ [] → ys ≠ [] → ∀ p (o : Obj), H p = none → Pln o → Q (.ref p) (upd H p (.frz o (.tup (xs ++ ys)))))
theorem op_catF : OpR X (binaryOp .Add) (rCatF X.K) := by
  intro pins s σ H x y v u Q I rx ry h
  obtain ⟨a, b, xs, ys, rfl, rfl, ha, hb, hz, q0, q1, q2⟩ := h
  by_cases hx : xs = []
  · subst hx
    cases rx
    cases ry
    obtain ⟨its, r1, p1, _⟩ := I.tuple ha
    obtain ⟨its2, r2, p2, _⟩ := I.tuple hb
    cases r1
    exact cat_tup0 p1 p2 ⟨.ref b, H, I, rfl, q0 rfl⟩
  · cases rx
    cases ry
    obtain ⟨its, r1, p1, _⟩ := I.tuple ha
    obtain ⟨its2, r2, p2, _⟩ := I.tuple hb
    refine HT.cat_tup p1 p2 (fun z => hx (r1.nil_iff.mp z)) (fun z => ⟨.ref a, H, I, rfl, q1 hx (r2.nil_iff.mp z)⟩) (fun z => ?_) (by rw [← r1.length, ← r2.length]; exact hz)
    refine ⟨.ref s.heap.objs.size, _, I.laid (t' := s.toks) (o := .frz { cls := .type "tuple", data := .seq (its ++ its2).toArray } (.tup (xs ++ ys))) (fun b ob q => Heap.get?_push_of_some _ q) (Nat.le_refl _) ?_, rfl, q2 hx (fun w => z (r2.nil_iff.mpr w)) _ { cls := .type "tuple", data := .seq (its ++ its2).toArray } (I.hok.fresh (Nat.le_refl _)) ⟨rfl, rfl⟩⟩
    exact ⟨Heap.get?_push_size _ rfl, by rw [List.length_append]; exact hz, _, r1.append r2, PyProof.Rows.IsTup.new _ _⟩
theorem pairs_two {pins : List (Addr × Obj)} {σ : St} {H : Hp} {s : Shared} (I : Inv X pins σ H s) : ∀ {ps : List Addr} {kvs : List (Key × V)}, Paired (fun p kv => SqT X.K H p [kV kv.1, kv.2]) ps kvs →
    ∃ (prs : List (Key × Value)) (vps : List (Value × Value)), KV kvs prs ∧ prs.length = ps.length ∧ vps.length = ps.length ∧ ∀ (j : Nat) (k v : Value), vps[j]? = some (k, v) → ∃ (b : Addr) (q : Key), ps[j]? = some b ∧ PyProof.Rows.IsTup s.heap b #[k, v] ∧ prs[j]? = some (q, v) ∧ keyIs q k = true
  | _, _, .nil => ⟨[], [], .nil, rfl, rfl, fun j k v e => by simp at e⟩
  | _, _, .cons (a := p) (b := kv) h t => by
    obtain ⟨prs, vps, r, hl, hl2, hp⟩ := pairs_two I t
    obtain ⟨its, rv, ht, _⟩ := I.tuple h
    obtain ⟨u, y, ei, ru, ry⟩ := vals2 rv
    subst ei
    refine ⟨(kv.1, y) :: prs, (u, y) :: vps, .cons ⟨rfl, ry⟩ r, by rw [List.length_cons, List.length_cons, hl], by rw [List.length_cons, List.length_cons, hl2], fun j k v e => ?_⟩
    cases j with
    | zero =>
      have e' : (u, y) = (k, v) := Option.some.inj e
      cases e'
      exact ⟨p, kv.1, rfl, ht, rfl, kV_is (P := X.prog) (w := X.w) ru⟩
    | succ j =>
      obtain ⟨b, q, e1, e2, e3, e4⟩ := hp j k v (by simpa using e)
      exact ⟨b, q, by simpa using e1, e2, by simpa using e3, e4⟩
/-- dict(t) of a tuple of pairs (key, value) -/
theorem call_dictT (hcalm : X.calm = true) : CallR X (.type "dict") (fun xs H Q => ∃ (a : Addr) (ps : List Addr) (kvs : List (Key × V)), xs = [.ref a] ∧ SqT X.K H a (ps.map V.ref) ∧ NoD X.K H a ∧ Paired (fun p kv => SqT X.K H p [kV kv.1, kv.2]) ps kvs ∧
    ∀ p, H p = none → Q (.ref p) (upd H p (.dK (mergeK [] kvs)))) := by
  intro pins s σ H xs us Q I r q
  obtain ⟨a, ps, kvs, ex, hq, hN, hp, q⟩ := q
  subst ex
  obtain ⟨u, eu, rx⟩ := vals1 r
  subst eu
  cases rx
  obtain ⟨its, rv, pl, hz⟩ := I.tuple hq
  have ei := refs_at rv
  subst ei
  rw [List.length_map] at hz
  obtain ⟨prs, vps, rel, hl, hl2, hpr⟩ := pairs_two I hp
  obtain ⟨o, ho, hc, n, hdat⟩ := pl
  obtain ⟨o', ho', hd⟩ := hN.obj I
  rw [ho] at ho'
  cases ho'
  have hit : PairItems s.heap (ps.map Value.ref).toArray (fun j => ps.getD j 0) vps := by
    refine ⟨by simp [hl2], fun j k v e => ?_⟩
    obtain ⟨b, q', e1, e2, _, _⟩ := hpr j k v e
    have e5 : ps.getD j 0 = b := by rw [List.getD_eq_getElem?_getD, e1]; rfl
    dsimp only
    rw [e5]
    exact ⟨by simp [e1], .inl e2⟩
  refine PySem.call_dict_pairs (knd := mixKind X.prog X.w) (kvs := prs) (PairArg.tuple a (ps.map Value.ref).toArray (fun j => ps.getD j 0) vps) (I.ok.hd hcalm) ⟨⟨o, n, ho, hc, hd.1, hdat⟩, hit⟩ ⟨hl.trans hl2.symm, fun i key v e => ?_⟩ (by rw [hl2]; exact hz) fun h' tk hd' k => ?_
  · obtain ⟨b, q', e1, e2, e3, e4⟩ := hpr i key v e
    exact ⟨q', e3, e4⟩
  · have hm : (s.heap.objs.size == sysModules) = false := beq_eq_false_iff_ne.mpr (Nat.ne_of_gt I.big)
    have hlen : (mergeK [] kvs).length ≤ sizeLine := by
      refine Nat.le_trans (length_mergeK kvs []) ?_
      rw [List.length_nil, Nat.zero_add, rel.length, hl]
      exact hz
    exact ⟨.ref s.heap.objs.size, upd H s.heap.objs.size (.dK (mergeK [] kvs)), I.laid (t' := tk) (fun b o e => k b o (List.not_mem_nil) e) (Nat.le_refl _) (show ObjOk X.prog X.w _ _ _ (.dK (mergeK [] kvs)) from ⟨hlen, hm, merged [] prs, KV.merge rel .nil, hd'⟩), rfl, q _ (I.hok.fresh (Nat.le_refl _))⟩
/-- xs.extend(t) of a tuple -/
def rExtT (K : PySem.W.Frag) : V → List V → Hp → VK → Prop := fun x vs H Q => ∃ l b xs zs, x = .ref l ∧ vs = [.ref b] ∧ H l = some (.lst xs) ∧ SqT K H b zs ∧ NoD K H b ∧ xs.length + zs.length ≤ sizeLine ∧ Q .non (upd H l (.lst (xs ++ zs)))
theorem mt_extendT : MtM X "list.extend" (rExtT X.K) := by
  intro pins s σ H x vs v us Q I rx rv h
  obtain ⟨l, b, xs, zs, rfl, rfl, hH, hB, hN, hz, q⟩ := h
  cases rx
  obtain ⟨u, rfl, ru⟩ := rv.one
  cases ru
  obtain ⟨z, its, n, r, hl, e⟩ := I.lstM hH
  obtain ⟨its2, r2, ⟨o2, h1, h2, n2, h3⟩, hl2⟩ := I.tuple hB
  obtain ⟨o', h4, hp1, hp2⟩ := hN.obj I
  rw [h1] at h4
  cases h4
  obtain ⟨c2, d2, dat2, sl2⟩ := o2
  simp only at h2 h3 hp1 hp2
  subst h2 h3 hp1 hp2
  have hl3 := r2.length
  have hsz : its.toArray.size + its2.toArray.size ≤ sizeLine := by rw [List.size_toArray, List.size_toArray]; omega
  refine call_meets PySem.F.slot_list_extend ⟨_, e, rfl⟩ PySem.F.entry_list_extend (PySem.F.args_list_extend_2 _ _)
    (PySem.AutoSeq1.list_extend_list_tuple_0 l its.toArray n b its2.toArray n2 (PyProof.Rows.extend_door hsz) (by rw [List.size_toArray]; omega) (by omega)) ⟨e, h1, ?_⟩
  refine ⟨.non, _, I.lset (its' := its ++ its2) hH e (by simp) (r.append r2) ?_, rfl, q⟩
  rw [List.length_append]
  omega
end
/-- what is no list stays -/
def NL (H H' : Hp) : Prop := ∀ b o, H b = some o → (∃ xs, o = .lst xs) ∨ H' b = some o
theorem NL.refl (H : Hp) : NL H H := fun _ _ h => .inr h
theorem NL.trans {H H1 H2 : Hp} (a : NL H H1) (b : NL H1 H2) : NL H H2 := fun c o h => (a c o h).elim .inl fun h => b c o h
theorem Same.nl {H H' : Hp} (s : Same H H') : NL H H' := fun b o h => .inr (s b o h)
theorem nl_upd {H : Hp} {p : Addr} {xs : List V} {o : HO} (h : H p = some (.lst xs)) : NL H (upd H p o) := fun b u e => by
  by_cases hb : b = p
  · subst hb
    rw [h] at e
    exact .inl ⟨xs, (Option.some.inj e).symm⟩
  · exact .inr (by rw [upd_ne hb]; exact e)
theorem nl_new {H : Hp} {p : Addr} {o : HO} (h : H p = none) : NL H (upd H p o) := fun b u e => .inr (by rw [upd_ne (ne_of_none e h)]; exact e)
theorem sqT_nl {K : PySem.W.Frag} {H H' : Hp} {a : Addr} {xs : List V} (h : SqT K H a xs) (s : NL H H') : SqT K H' a xs := by
  rcases h with (h | ⟨o, h⟩) | h
  · rcases s _ _ h with ⟨_, e⟩ | e
    · cases e
    · exact .inl (.inl e)
  · rcases s _ _ h with ⟨_, e⟩ | e
    · cases e
    · exact .inl (.inr ⟨o, e⟩)
  · exact .inr h
theorem NoD.keep {K : PySem.W.Frag} {H H' : Hp} {a : Addr} (h : NoD K H a) (s : NL H H') : NoD K H' a := by
  obtain ⟨o, hd, h⟩ := h
  rcases h with ⟨u, h⟩ | h
  · rcases s _ _ h with ⟨_, e⟩ | e
    · cases e
    · exact ⟨o, hd, .inl ⟨u, e⟩⟩
  · exact ⟨o, hd, .inr h⟩
/-! ### shapes: tuples (or lists) of pairs of a letter and a size -/
abbrev Sh := List (Nat × Int)
def sizes (sh : Sh) : List Int := sh.map (·.2)
/-- the axes stand at the places ts -/
def Axes (K : PySem.W.Frag) (H : Hp) (ts : List Addr) (sh : Sh) : Prop := ts.length = sh.length ∧ ∀ (i : Nat) (t : Addr) (p : Nat × Int), ts[i]? = some t → sh[i]? = some p → SqT K H t [.str (one p.1), .int p.2]
theorem Axes.same {K : PySem.W.Frag} {H H' : Hp} {ts : List Addr} {sh : Sh} (h : Axes K H ts sh) (s : Same H H') : Axes K H' ts sh := ⟨h.1, fun i t p a b => sqT_same (h.2 i t p a b) s⟩
theorem Axes.keep {K : PySem.W.Frag} {H H' : Hp} {ts : List Addr} {sh : Sh} (h : Axes K H ts sh) (s : NL H H') : Axes K H' ts sh := ⟨h.1, fun i t p a b => sqT_nl (h.2 i t p a b) s⟩
theorem Axes.nil {K : PySem.W.Frag} {H : Hp} : Axes K H [] [] := ⟨rfl, fun _ _ _ h _ => by simp at h⟩
theorem Axes.snoc {K : PySem.W.Frag} {H : Hp} {ts : List Addr} {sh : Sh} {t : Addr} {p : Nat × Int} (h : Axes K H ts sh) (ht : SqT K H t [.str (one p.1), .int p.2]) : Axes K H (ts ++ [t]) (sh ++ [p]) := by
  refine ⟨by simp [h.1], fun i u q a b => ?_⟩
  by_cases hi : i < ts.length
  · rw [List.getElem?_append_left hi] at a
    rw [List.getElem?_append_left (by rw [← h.1]; exact hi)] at b
    exact h.2 i u q a b
  · rw [List.getElem?_append_right (by omega)] at a
    rw [List.getElem?_append_right (by rw [← h.1]; omega)] at b
    rw [h.1] at a
    cases z : i - sh.length with
    | zero =>
      rw [z] at a b
      simp only [List.getElem?_cons_zero, Option.some.injEq] at a b
      subst a b
      exact ht
    | succ j =>
      rw [z] at a
      simp at a
/-- the i-th axis -/
theorem Axes.at {K : PySem.W.Frag} {H : Hp} {ts : List Addr} {sh : Sh} (h : Axes K H ts sh) {i : Nat} {x : V} (hx : (ts.map V.ref)[i]? = some x) : ∃ (t : Addr) (p : Nat × Int), x = .ref t ∧ ts[i]? = some t ∧ sh[i]? = some p ∧ SqT K H t [.str (one p.1), .int p.2] := by
  rw [List.getElem?_map] at hx
  cases e : ts[i]? with
  | none => rw [e] at hx; cases hx
  | some t =>
    rw [e] at hx
    have hi : i < sh.length := by
      have := (List.getElem?_eq_some_iff.mp e).1
      rw [← h.1]; exact this
    exact ⟨t, sh[i], (Option.some.inj hx).symm, rfl, List.getElem?_eq_getElem hi, h.2 i t _ e (List.getElem?_eq_getElem hi)⟩
/-- a tuple that is a shape -/
def ShT (K : PySem.W.Frag) (H : Hp) (a : Addr) (sh : Sh) : Prop := ∃ ts : List Addr, SqT K H a (ts.map V.ref) ∧ Axes K H ts sh
theorem ShT.same {K : PySem.W.Frag} {H H' : Hp} {a : Addr} {sh : Sh} (h : ShT K H a sh) (s : Same H H') : ShT K H' a sh := by
  obtain ⟨ts, h1, h2⟩ := h
  exact ⟨ts, sqT_same h1 s, h2.same s⟩
theorem ShT.keep {K : PySem.W.Frag} {H H' : Hp} {a : Addr} {sh : Sh} (h : ShT K H a sh) (s : NL H H') : ShT K H' a sh := by
  obtain ⟨ts, h1, h2⟩ := h
  exact ⟨ts, sqT_nl h1 s, h2.keep s⟩
def Fine (sh : Sh) : Prop := ∀ p ∈ sh, 1 ≤ p.2 ∧ p.2 ≤ 16
theorem Fine.sizes {sh : Sh} (h : Fine sh) : ∀ s ∈ sizes sh, 1 ≤ s := by
  intro s hs
  obtain ⟨p, hp, rfl⟩ := List.mem_map.mp hs
  exact (h p hp).1
theorem same_upd {H : Hp} {p : Addr} {o : HO} (h : H p = none) : Same H (upd H p o) := fun b x e => by
  rw [upd_ne (ne_of_none e h)]
  exact e
theorem map_int_at {ns : List Int} {i : Nat} {x : V} (h : (ns.map V.int)[i]? = some x) : ∃ n, x = .int n ∧ ns[i]? = some n := by
  rw [List.getElem?_map] at h
  cases e : ns[i]? with
  | none => rw [e] at h; cases h
  | some n => rw [e] at h; exact ⟨n, (Option.some.inj h).symm, rfl⟩
theorem drop_at {α : Type} {l : List α} {i : Nat} {x : α} (h : l[i]? = some x) : l.drop i = x :: l.drop (i + 1) := by
  obtain ⟨hi, e⟩ := List.getElem?_eq_some_iff.mp h
  rw [List.drop_eq_getElem_cons hi, e]
/-! ### own errors -/
abbrev valErr : List Value := [.type "ValueError", .type "Exception", .type "BaseException", .type "object"]
/-- what the written part says of an error class that is raised -/
structure ErrR (K : PySem.W.Frag) (mg : Str → Option Value) (n : Str) (C : Addr) : Prop where
  g : mg n = some (.ref C)
  x : PySem.W.excIn K C valErr "ValueError.__new__" = true
  k : PySem.W.keepIn K (.ref C) = true
  b : PySem.W.subIn K (.ref C) (.type "BaseException") = some true
  t : PySem.W.typeIn K (.ref C) = some (.type "type")
/-- of one that an except clause names -/
structure ErrN (K : PySem.W.Frag) (mg : Str → Option Value) (n : Str) (C : Addr) : Prop where
  g : mg n = some (.ref C)
  b : PySem.W.subIn K (.ref C) (.type "BaseException") = some true
  h : PySem.W.hasDictIn K C = true
  t : PySem.W.typeIn K (.ref C) = some (.type "type")
theorem ErrN.ex {K : PySem.W.Frag} {mg : Str → Option Value} {n : Str} {C : Addr} (e : ErrN K mg n C) {cls : Value} {r : Bool} (s : PySem.W.subIn K cls (.ref C) = some r) : PySem.W.exmOne K cls (.ref C) = some r := PySem.W.exm_ref e.b e.h e.t s
theorem pss_if {X : Cx} {sts : List Stmt} {t : TS} {P : Prop} (h : P → PSs X sts t) : PSs X sts (fun D σ H => P ∧ t D σ H) := ⟨fun pins s σ H D I hh => (h hh.1).run pins s σ H D I hh.2⟩
theorem kit_rr {K : PySem.W.Frag} {Z C : Addr} {r : Bool} (s : PySem.W.subIn K (.ref Z) (.ref C) = some r) (z : PySem.W.subIn K (.ref Z) (.ref Z) = some true) (h : PySem.W.hasDictIn K C = true) (t : PySem.W.typeIn K (.ref C) = some (.type "type")) : PySem.W.kitOne K (.ref Z) (.ref C) = some r := by
  have hc : (PySem.W.clsIn K C).isSome = true := by
    unfold PySem.W.hasDictIn at h
    cases e : PySem.W.clsIn K C with
    | none => rw [e] at h; cases h
    | some _ => rfl
  have e2 : ((PySem.W.clsIn K C).isSome && PySem.W.typeIn K (.ref C) == some (.type "type")) = true := by rw [hc, t] <;> rfl
  show (if (Value.ref Z == Value.ref C) = true then some true else (if ((PySem.W.clsIn K C).isSome && PySem.W.typeIn K (.ref C) == some (.type "type")) = true then PySem.W.subIn K (.ref Z) (.ref C) else none)) = some r
  by_cases g : (Value.ref Z == Value.ref C) = true
  · rw [if_pos g]
    have e : Value.ref Z = Value.ref C := beq_iff_eq.mp g
    rw [← e, z] at s
    exact s
  · rw [if_neg g, if_pos e2]
    exact s
theorem kit_rt {K : PySem.W.Frag} {Z : Addr} {T : String} {r : Bool} (s : PySem.W.subIn K (.ref Z) (.type T) = some r) (m : PySem.W.kitMeta T = true) : PySem.W.kitOne K (.ref Z) (.type T) = some r := by
  have g : (Value.ref Z == Value.type T) = false := rfl
  show (if (Value.ref Z == Value.type T) = true then some true else (if PySem.W.kitMeta T = true then PySem.W.subIn K (.ref Z) (.type T) else none)) = some r
  rw [g, if_neg Bool.false_ne_true, if_pos m]
  exact s
/-! ### check_shape and what it calls -/
def prod : List Int → Int
  | [] => 1
  | s :: ss => s * prod ss
theorem prod_snoc : ∀ {ss : List Int} {s : Int}, prod (ss ++ [s]) = prod ss * s
  | [], s => by show s * 1 = 1 * s; omega
  | a :: ss, s => by
    show a * prod (ss ++ [s]) = a * prod ss * s
    rw [prod_snoc, Int.mul_assoc]
theorem take_snoc {α : Type} {l : List α} {i : Nat} {x : α} (h : l[i]? = some x) : l.take (i + 1) = l.take i ++ [x] := by
  rw [List.take_add_one, h]
  rfl
def codes (sh : Sh) : List Nat := sh.map (·.1)
def lets (sh : Sh) : Str := ⟨(codes sh).toArray⟩
theorem joinL_nil : ∀ l : List (List Nat), TL.joinL [] l = l.flatten
  | [] => rfl
  | [p] => by show p = p ++ []; rw [List.append_nil]
  | p :: q :: r => by
    show p ++ ([] ++ TL.joinL [] (q :: r)) = p ++ (q :: r).flatten
    rw [joinL_nil (q :: r)]
    rfl
theorem join_ones (l : List Nat) : Txt.join "" (l.map one) = ⟨l.toArray⟩ := by
  have e : TL.tl (Txt.join "" (l.map one)) = l := by
    rw [TL.join_eq, TL.tl_join]
    show TL.joinL [] ((l.map one).map TL.tl) = l
    rw [joinL_nil]
    induction l with
    | nil => rfl
    | cons a l ih =>
      show [a] ++ ((l.map one).map TL.tl).flatten = a :: l
      rw [ih]
      rfl
  have g : Txt.join "" (l.map one) = ⟨(TL.tl (Txt.join "" (l.map one))).toArray⟩ := by rw [TL.mk_tl]
  rw [g, e]
/-- sizes that may be multiplied -/
def Mod (sh : Sh) : Prop := ∀ p ∈ sh, -1000 ≤ p.2 ∧ p.2 ≤ 1000
theorem Fine.mod {sh : Sh} (h : Fine sh) : Mod sh := fun p hp => ⟨by have := (h p hp).1; omega, by have := (h p hp).2; omega⟩
def fineB (sh : Sh) : Bool := sh.all fun p => decide (1 ≤ p.2) && decide (p.2 ≤ 16)
theorem fineB_iff {sh : Sh} : fineB sh = true ↔ Fine sh := by
  unfold fineB Fine
  rw [List.all_eq_true]
  constructor
  · intro h p hp
    have := h p hp
    rw [Bool.and_eq_true] at this
    exact ⟨of_decide_eq_true this.1, of_decide_eq_true this.2⟩
  · intro h p hp
    rw [Bool.and_eq_true]
    exact ⟨decide_eq_true (h p hp).1, decide_eq_true (h p hp).2⟩
def chk (sh : Sh) : Nat := if 4 < sh.length then 1 else if (codes sh).Nodup then (if fineB sh = true then (if 256 < prod (sizes sh) then 4 else 0) else 3) else 2
section
variable {P : Program} {w : World} {K : PySem.W.Frag} {mg : Str → Option Value} {base : Heap}
theorem sz_at {sh : Sh} {i : Nat} {p : Nat × Int} (h : sh[i]? = some p) : (sizes sh)[i]? = some p.2 := by rw [sizes, List.getElem?_map, h]; rfl
def spCountOf (K : PySem.W.Frag) : Sp := fun vs H Q _ => ∃ (a : Addr) (sh : Sh), vs = [.ref a] ∧ ShT K H a sh ∧ Mod sh ∧ Q (.int (prod (sizes sh))) H
theorem scCO : FnScope ["shape", "count", "_", "size"] ["shape"] (defScope sCountOf) := ⟨rfl, rfl, rfl, by decide +kernel, rfl, by decide +kernel, by decide +kernel⟩
theorem ok_countOf {f : Addr} {fd : FuncData} (F : Fun K "count_of" "count_of" sCountOf f fd) : FnOk P w K mg base CX0 1 f fd ["shape"] (spCountOf K) := by
  refine F.ok scCO (fun vs H Q E h => ?_) (fun cdv A outer s H vs Q E hr h => ?_)
  · obtain ⟨a, sh, rfl, _⟩ := h
    rfl
  · obtain ⟨a, sh, rfl, ⟨ts, ha, hx⟩, hf, q⟩ := h
    refine ⟨_, pss_cons (ps_set (i := 1) scCO.nd rfl (.inl rfl) pe_int)
      (pss_cons (ps_for PassesOwn.never rfl (pi_tup (pv 0)) (pg_tup rfl (pgs_cons (pg_name (i := 2) scCO.nd rfl (.inl rfl)) (pgs_cons (pg_name (i := 3) scCO.nd rfl (.inl rfl)) pgs_nil)))
        (pss_one (ps_set (i := 1) scCO.nd rfl (.inl rfl) (pe_op op_mul (pv 1) (pv 3)))))
      (pss_one (ps_ret (pv 1)))), ?_⟩
    refine ⟨_, rfl, a, rfl, ⟨_, ha⟩, for_tup (K := K) (a := a) (xs := ts.map V.ref) (fun i σ H' => ∃ (v2 v3 : Option V), σ = [some (.ref a), some (.int (prod ((sizes sh).take i))), v2, v3] ∧ H' = H)
      ⟨none, none, rfl, rfl⟩ (fun i σ H' _ ⟨_, _, _, e⟩ => by rw [e]; exact ha) ?_ ?_⟩
    · rintro i x σ H' hi ⟨v2, v3, rfl, rfl⟩
      obtain ⟨t, p, rfl, g1, g2, g3⟩ := hx.at hi
      have hp := hf p (List.mem_of_getElem? g2)
      refine ⟨t, _, rfl, g3, rfl, _, _, rfl, _, _, rfl, rfl, ?_⟩
      refine ⟨_, rfl, _, rfl, _, _, rfl, rfl, .inr ⟨by omega, by omega⟩, some (.str (one p.1)), some (.int p.2), ?_, rfl⟩
      rw [take_snoc (sz_at g2), prod_snoc]
      rfl
    · rintro σ H' ⟨v2, v3, rfl, rfl⟩
      refine ⟨_, rfl, ?_⟩
      rw [show (ts.map V.ref).length = (sizes sh).length by rw [List.length_map, hx.1, sizes, List.length_map], List.take_length]
      exact q
def spLettersOf (K : PySem.W.Frag) : Sp := fun vs H Q _ => ∃ (a : Addr) (sh : Sh), vs = [.ref a] ∧ ShT K H a sh ∧ sh.length ≤ 16 ∧ ∀ H', Same H H' → Q (.str (lets sh)) H'
abbrev nLO : List Str := ["shape", "letter", "_"]
theorem scLO : FnScope nLO ["shape"] (defScope sLettersOf) := ⟨rfl, rfl, rfl, by decide +kernel, rfl, by decide +kernel, by decide +kernel⟩
theorem ones_len : ∀ l : List Nat, ((l.map one).map (·.length)).sum = l.length
  | [] => rfl
  | a :: l => by
    show 1 + ((l.map one).map (·.length)).sum = l.length + 1
    rw [ones_len l]
    omega
theorem ok_lettersOf {f : Addr} {fd : FuncData} (F : Fun K "letters_of" "letters_of" sLettersOf f fd) : FnOk P w K mg base CX0 1 f fd ["shape"] (spLettersOf K) := by
  refine F.ok scLO (fun vs H Q E h => ?_) (fun cdv A outer s H vs Q E hr h => ?_)
  · obtain ⟨a, sh, rfl, _⟩ := h
    rfl
  · obtain ⟨a, sh, rfl, ⟨ts, ha, hx⟩, hl, q⟩ := h
    refine ⟨_, pss_one (ps_ret (pe_join pe_str (pe_lc (own := [("letter", 1), ("_", 2)]) (g := gTup K 2 (gCons (gName 1) (gCons (gName 2) gNil))) (tt := tYes) rfl scLO.nd (pi_tup (pv 0)) (blkOk_by (N := nLO) (sc := defScope sLettersOf) (by decide +kernel))
      (fun _ _ _ _ _ => pg_tup (n := 2) rfl (pgs_cons (pg_name (i := 1) scLO.nd rfl (.inl rfl) (hf := Or.inr rfl)) (pgs_cons (pg_name (i := 2) scLO.nd rfl (.inl rfl) (hf := Or.inr rfl)) pgs_nil))) (fun _ _ _ _ _ => pts_nil) (fun _ _ _ _ _ => pv 1)))), ?_⟩
    refine ⟨⟨_, rfl⟩, _, rfl, a, rfl, ⟨_, ha⟩, fun D nD => lc_tup (K := K) (a := a) (xs := ts.map V.ref) (fun i H' => Same H H' ∧ H' D = some (.lst (((codes sh).take i).map fun c => V.str (one c))))
      ⟨same_upd nD, upd_same⟩ (fun i H' _ h => sqT_same ha h.1) ?_ ?_⟩
    · rintro i x H' hi ⟨sm, hD⟩
      obtain ⟨t, p, rfl, g1, g2, g3⟩ := hx.at hi
      refine ⟨t, _, rfl, sqT_same g3 sm, rfl, _, _, rfl, _, _, rfl, rfl, rfl, ?_⟩
      unfold tYes
      dsimp only
      rw [if_pos rfl]
      refine ⟨_, rfl, _, hD, ?_, ?_, ?_⟩
      · rw [List.length_map, List.length_take, codes, List.length_map]
        exact Nat.lt_of_le_of_lt (Nat.min_le_right _ _) (small1000 (by omega))
      · exact fun b o e => by rw [upd_ne (ne_of_none e nD)]; exact sm _ _ e
      · rw [upd_same, take_snoc (show (codes sh)[i]? = some p.1 by rw [codes, List.getElem?_map, g2]; rfl), List.map_append]
        rfl
    · rintro H' ⟨sm, hD⟩
      rw [show (ts.map V.ref).length = (codes sh).length by rw [List.length_map, hx.1, codes, List.length_map], List.take_length] at hD
      refine ⟨"", D, (codes sh).map one, rfl, rfl, .inl (SqL.of (by rw [List.map_map]; exact hD)), ?_, ?_⟩
      · rw [ones_len, List.length_map, codes, List.length_map]
        have : (("" : Str)).length = 0 := rfl
        rw [this]
        omega
      · rw [join_ones]
        exact q _ sm
/-- the classes of the errors: 1 rank, 2 axis, 3 range, 4 large -/
structure ErrS (K : PySem.W.Frag) (mg : Str → Option Value) (C : Nat → Addr) : Prop where
  r1 : ErrR K mg "RankError" (C 1)
  r2 : ErrR K mg "AxisError" (C 2)
  r3 : ErrR K mg "RangeError" (C 3)
  r4 : ErrR K mg "TooLarge" (C 4)
  len : mg "len" = none
  set : mg "set" = none
  l1 : ∃ u, mg "RANK_LIMIT" = some u ∧ RelV (.int 4) u
  l2 : ∃ u, mg "SIZE_LIMIT" = some u ∧ RelV (.int 16) u
  l3 : ∃ u, mg "COUNT_LIMIT" = some u ∧ RelV (.int 256) u
/-- what a check of this shape does -/
def CkEnd (C : Nat → Addr) (n : Nat) (Q : VK) (E : XK) (v : V) (H : Hp) : Prop := (n = 0 → Q v H) ∧ ∀ k, n = k + 1 → E (.ref (C (k + 1))) none H
def spCheck (K : PySem.W.Frag) (C : Nat → Addr) : Sp := fun vs H Q E => ∃ (a : Addr) (sh : Sh), vs = [.ref a] ∧ ShT K H a sh ∧ sh.length ≤ 16 ∧ Mod sh ∧ ∀ H', Same H H' → CkEnd C (chk sh) Q E .non H'
theorem scCK : FnScope ["shape", "letter", "size"] ["shape"] (defScope sCheck) := ⟨rfl, rfl, rfl, by decide +kernel, rfl, by decide +kernel, by decide +kernel⟩
theorem txt_len (a b : Str) : (a ++ b).length = a.length + b.length := PySem.Str.length_append a b
theorem int_txt : ∀ n : Nat, n ≤ 16 → ((toString (n : Int) : String) : Str).length ≤ 2 := by decide +kernel
theorem ok_check {f fL fC : Addr} {C : Nat → Addr} {fd fdL fdC : FuncData} (F : Fun K "check_shape" "check_shape" sCheck f fd) (R : ErrS K mg C)
    (GL : FnOk P w K mg base CX0 1 fL fdL ["shape"] (spLettersOf K)) (kL : PySem.W.keepIn K (.ref fL) = true) (bL : Binds K fdL ["shape"] []) (gL : mg "letters_of" = some (.ref fL))
    (GC : FnOk P w K mg base CX0 1 fC fdC ["shape"] (spCountOf K)) (kC : PySem.W.keepIn K (.ref fC) = true) (bC : Binds K fdC ["shape"] []) (gC : mg "count_of" = some (.ref fC)) :
    FnOk P w K mg base (L2.CX P w) 2 f fd ["shape"] (spCheck K C) := by
  obtain ⟨u1, gl1, rl1⟩ := R.l1
  obtain ⟨u2, gl2, rl2⟩ := R.l2
  obtain ⟨u3, gl3, rl3⟩ := R.l3
  refine F.okX scCK (fun vs H Q E h => ?_) (fun cdv A outer s H vs Q E hr h => ?_)
  · obtain ⟨a, sh, rfl, _⟩ := h
    rfl
  · obtain ⟨a, sh, rfl, hS, hl, hm, q⟩ := h
    obtain ⟨ts, ha, hx⟩ := id hS
    refine ⟨_, pss_cons (ps_if (pt_cmpR op_gt (pe_callB call_len_seq (by rfl) R.len PySem.boot_len (pa_cons (pv 0) pa_nil)) (pe_glob (v := .int 4) (by rfl) gl1 rl1) (nomark _))
        (pss_one (ps_raise rfl (takes_of rfl rfl rfl rfl) (SkE.pmk_own1 PySem.F.excBase_ValueError R.r1.x R.r1.g R.r1.k (raises_own R.r1.b R.r1.t) rfl (pe_joined (.cons pe_str (.cons (pe_fmt (pe_callB call_len_seq (by rfl) R.len PySem.boot_len (pa_cons (pv 0) pa_nil))) (.cons pe_str .nil))))))) pss_nil)
      (pss_cons (ps_if (pt_cmpR op_lt (pe_lenSetS (by rfl) R.len (by rfl) R.set (pe_call GL hr (by rfl) gL kL bL .nil pass0 (pa_cons (pv 0) pa_nil))) (pe_callB call_len_seq (by rfl) R.len PySem.boot_len (pa_cons (pv 0) pa_nil)) (nomark _))
        (pss_one (ps_raise rfl (takes_of rfl rfl rfl rfl) (pmk_own PySem.F.excBase_ValueError R.r2.x R.r2.g R.r2.k (raises_own R.r2.b R.r2.t) rfl))) pss_nil)
      (pss_cons (ps_for (passes_of rfl) rfl (pi_tup (pv 0)) (pg_tup rfl (pgs_cons (pg_name (i := 1) scCK.nd rfl (.inl rfl)) (pgs_cons (pg_name (i := 2) scCK.nd rfl (.inl rfl)) pgs_nil)))
        (pss_one (ps_if (PW.pt (pw_or (pt_cmpR op_lt (pv 2) pe_int (nomark _)) (pw_or1 (pt_cmpR op_gt (pv 2) (pe_glob (v := .int 16) (by rfl) gl2 rl2) (nomark _)))))
          (pss_one (ps_raise rfl (takes_of rfl rfl rfl rfl) (SkE.pmk_own1 PySem.F.excBase_ValueError R.r3.x R.r3.g R.r3.k (raises_own R.r3.b R.r3.t) rfl (pe_joined (.cons pe_str (.cons (pe_fmt (pv 1)) (.cons pe_str (.cons (pe_fmt (pe_glob (v := .int 16) (by rfl) gl2 rl2)) .nil)))))))) pss_nil)))
      (pss_one (ps_if (pt_cmpR op_gt (pe_call GC hr (by rfl) gC kC bC .nil pass0 (pa_cons (pv 0) pa_nil)) (pe_glob (v := .int 256) (by rfl) gl3 rl3) (nomark _))
        (pss_one (ps_raise rfl (takes_of rfl rfl rfl rfl) (pmk_own PySem.F.excBase_ValueError R.r4.x R.r4.g R.r4.k (raises_own R.r4.b R.r4.t) rfl))) pss_nil)))), ?_⟩
    have hlen : (ts.map V.ref).length = sh.length := by rw [List.length_map, hx.1]
    unfold chk at q
    refine ⟨_, rfl, a, _, rfl, .inr (ha), _, _, rfl, rfl, _, rfl, ite2 (fun e => ?_) (fun e => ?_)⟩
    · have e' := of_decide_eq_true e
      rw [hlen] at e'
      rw [if_pos (by omega)] at q
      have k1 := int_txt sh.length hl
      have b0 : ∀ x : Str, x.length ≤ 100 → x.length ≤ sizeLine := fun x h => Nat.le_trans h (by decide)
      refine ⟨_, rfl, by decide +kernel, _, rfl, a, _, rfl, .inr (ha), .inr ⟨_, rfl, ?_, _, rfl, ?_, _, rfl, ?_, ?_⟩⟩
      · rw [hlen]
        have : sh.length < 2 ^ 60 := by omega
        exact Nat.lt_of_le_of_lt (Nat.log2_le_self _) (by omega)
      · rw [hlen]
        refine b0 _ ?_
        rw [txt_len]
        have : (Str.empty ++ ("a shape has " : Str)).length = 12 := by decide +kernel
        omega
      · rw [hlen]
        refine b0 _ ?_
        rw [txt_len, txt_len]
        have : (Str.empty ++ ("a shape has " : Str)).length = 12 := by decide +kernel
        have : (" axes" : Str).length = 5 := by decide +kernel
        omega
      · exact (q _ (Same.refl H)).2 0 rfl
    · have e' : ¬ 4 < sh.length := by
        have e0 : ¬ ((4 : Int) < ((ts.map V.ref).length : Int)) := fun z => e (decide_eq_true z)
        rw [hlen] at e0
        omega
      rw [if_neg e'] at q
      refine ⟨_, rfl, a, sh, rfl, hS, hl, fun H1 sm1 => ⟨_, rfl, ?_, ?_⟩⟩
      · show (codes sh).toArray.size ≤ 1000
        rw [List.size_toArray, codes, List.length_map]
        omega
      have ha1 := sqT_same ha sm1
      have hmet := met_all (codes sh) [] List.nodup_nil
      have hml := (met_len (codes sh) []).2
      have hcl : (codes sh).length = sh.length := by rw [codes, List.length_map]
      rw [List.length_nil, Nat.zero_add, List.nil_append, hcl] at hmet
      rw [List.length_nil, Nat.zero_add, hcl] at hml
      refine ⟨_, rfl, a, _, rfl, .inr (ha1), _, _, rfl, rfl, _, rfl, ite2 (fun e2 => ?_) (fun e2 => ?_)⟩
      · have e3 := of_decide_eq_true e2
        rw [hlen] at e3
        have : ¬ (codes sh).Nodup := fun n => by
          have := hmet.mpr n
          have e4 : (lets sh).cps.toList = codes sh := rfl
          rw [e4] at e3
          omega
        rw [if_neg this] at q
        exact (q _ sm1).2 1 rfl
      · have e3 : ¬ (((met [] (lets sh).cps.toList).length : Int) < ((ts.map V.ref).length : Int)) := fun z => e2 (decide_eq_true z)
        rw [hlen] at e3
        have e4 : (lets sh).cps.toList = codes sh := rfl
        rw [e4] at e3
        rw [if_pos (hmet.mp (by omega))] at q
        refine ⟨_, rfl, a, rfl, ⟨_, ha1⟩, for_tup (K := K) (a := a) (xs := ts.map V.ref) (fun i σ H' => ∃ (v1 v2 : Option V), σ = [some (.ref a), v1, v2] ∧ H' = H1 ∧ ∀ j p, j < i → sh[j]? = some p → 1 ≤ p.2 ∧ p.2 ≤ 16)
          ⟨none, none, rfl, rfl, fun j p h => absurd h (Nat.not_lt_zero _)⟩ (fun i σ H' _ ⟨_, _, _, e, _⟩ => by rw [e]; exact ha1) ?_ ?_⟩
        · rintro i x σ H' hi ⟨v1, v2, rfl, rfl, hok⟩
          obtain ⟨t, p, rfl, g1, g2, g3⟩ := (hx.same sm1).at hi
          have hp := hm p (List.mem_of_getElem? g2)
          refine ⟨t, _, rfl, g3, rfl, _, _, rfl, _, _, rfl, rfl, ?_⟩
          have bad : ¬ (1 ≤ p.2 ∧ p.2 ≤ 16) → fineB sh = false := fun nb => Bool.eq_false_iff.mpr fun z => nb (fineB_iff.mp z p (List.mem_of_getElem? g2))
          have raise : ¬ (1 ≤ p.2 ∧ p.2 ≤ 16) → E (.ref (C 3)) none H' := fun nb => by
            have q1 := q _ sm1
            rw [bad nb, if_neg Bool.false_ne_true] at q1
            exact q1.2 2 rfl
          have b0 : ∀ x : Str, x.length ≤ 100 → x.length ≤ sizeLine := fun x h => Nat.le_trans h (by decide)
          have m1 : (Str.empty ++ ("the size of the axis " : Str)).length = 21 := by decide +kernel
          have m2 : (one p.1).length = 1 := rfl
          have m3 : (" is not from 1 to " : Str).length = 18 := by decide +kernel
          have m4 := int_txt 16 (by decide)
          have n1 := b0 (Str.empty ++ ("the size of the axis " : Str)) (by omega)
          have n2 := b0 (Str.empty ++ ("the size of the axis " : Str) ++ one p.1) (by rw [txt_len]; omega)
          have n3 := b0 (Str.empty ++ ("the size of the axis " : Str) ++ one p.1 ++ (" is not from 1 to " : Str)) (by rw [txt_len, txt_len]; omega)
          have n4 := b0 (Str.empty ++ ("the size of the axis " : Str) ++ one p.1 ++ (" is not from 1 to " : Str) ++ ((toString ((16 : Nat) : Int) : String) : Str)) (by rw [txt_len, txt_len, txt_len]; omega)
          refine ⟨_, rfl, _, _, rfl, rfl, _, rfl, ite2 (fun e5 => iteT ?_) (fun e5 => ?_)⟩
          · exact ⟨_, rfl, n1, _, rfl, .inl ⟨_, rfl, b0 _ (by omega), _, rfl, n2, _, rfl, n3, .inr ⟨_, rfl, by decide +kernel, _, rfl, n4, raise (fun z => absurd (of_decide_eq_true e5) (by omega))⟩⟩⟩
          · refine ⟨_, rfl, _, _, rfl, rfl, _, rfl, ite2 (fun e6 => ?_) (fun e6 => ?_)⟩
            · exact ⟨_, rfl, n1, _, rfl, .inl ⟨_, rfl, b0 _ (by omega), _, rfl, n2, _, rfl, n3, .inr ⟨_, rfl, by decide +kernel, _, rfl, n4, raise (fun z => absurd (of_decide_eq_true e6) (by omega))⟩⟩⟩
            · refine ⟨_, _, rfl, rfl, fun j p' hj hp' => ?_⟩
              by_cases ej : j = i
              · subst ej
                rw [g2] at hp'
                cases hp'
                have a1 : ¬ p.2 < 1 := fun z => e5 (decide_eq_true z)
                have a2 : ¬ 16 < p.2 := fun z => e6 (decide_eq_true z)
                omega
              · exact hok j p' (by omega) hp'
        · rintro σ H' ⟨v1, v2, rfl, rfl, hok⟩
          have hfine : Fine sh := fun p hp => by
            obtain ⟨j, hj⟩ := List.mem_iff_getElem?.mp hp
            exact hok j p (by rw [hlen]; exact (List.getElem?_eq_some_iff.mp hj).1) hj
          rw [if_pos (fineB_iff.mpr hfine)] at q
          refine ⟨_, rfl, a, sh, rfl, hS.same sm1, hm, _, _, rfl, rfl, _, rfl, ite2 (fun e7 => ?_) (fun e7 => ?_)⟩
          · rw [if_pos (of_decide_eq_true e7)] at q
            exact (q _ sm1).2 3 rfl
          · rw [if_neg (fun z => e7 (decide_eq_true z))] at q
            exact (q _ sm1).1 rfl
end
/-- the suite of an except clause, by what is known when it is reached -/
def tSu (X : Cx) (sts : List Stmt) : Addr → Value → Option Addr → TS := fun a cls d D σ H => ∀ (oe : Obj) (pn : List (Addr × Obj)), Zc cls d oe → (∃ vs, oe.data = .fields vs) → ∃ t, PSs (X.suite a ((a, oe) :: pn)) sts t ∧ t D σ H
theorem su_ok {X : Cx} {sts : List Stmt} {a : Addr} {cls : Value} {d : Option Addr} {oe : Obj} {pn : List (Addr × Obj)} (hz : Zc cls d oe) (hf : ∃ vs, oe.data = .fields vs) : PSs (X.suite a ((a, oe) :: pn)) sts (tSu X sts a cls d) :=
  ⟨fun pins s σ H D I h => by
    obtain ⟨t, p, q⟩ := h oe pn hz hf
    exact p.run pins s σ H D I q⟩
/-! ### drawing -/
/-- all but one place stands as it was -/
def But (d : Addr) (H H' : Hp) : Prop := ∀ b, b ≠ d → H' b = H b
theorem But.refl (d : Addr) (H : Hp) : But d H H := fun _ _ => rfl
theorem But.trans {d : Addr} {H H1 H2 : Hp} (a : But d H H1) (b : But d H1 H2) : But d H H2 := fun c h => (b c h).trans (a c h)
theorem But.upd {d : Addr} {H : Hp} {o : HO} : But d H (upd H d o) := fun _ h => upd_ne h
/-- the drawing state -/
def DrAt (H : Hp) (d c : Addr) : Prop := ∃ (ns : List Int) (i : Nat) (r s : Int), c ≠ d ∧ H d = some (.lst [.ref c, .int i, .int r, .int s]) ∧ H c = some (.lst (ns.map V.int)) ∧ i ≤ ns.length ∧ 0 ≤ r ∧ 0 ≤ s ∧ s < 2147483647
theorem DrAt.same {H H' : Hp} {d c : Addr} (h : DrAt H d c) (s : Same H H') : DrAt H' d c := by
  obtain ⟨ns, i, r, sd, n, h1, h2, h3⟩ := h
  exact ⟨ns, i, r, sd, n, s _ _ h1, s _ _ h2, h3⟩
theorem DrAt.lst {H : Hp} {d c : Addr} (h : DrAt H d c) : ∃ xs, H d = some (.lst xs) := by
  obtain ⟨ns, i, r, sd, n, h1, _⟩ := h
  exact ⟨_, h1⟩
theorem DrAt.lstc {H : Hp} {d c : Addr} (h : DrAt H d c) : ∃ xs, H c = some (.lst xs) := by
  obtain ⟨ns, i, r, sd, n, _, h1, _⟩ := h
  exact ⟨_, h1⟩
/-- another list may be changed -/
theorem DrAt.upd {H : Hp} {d c p : Addr} (h : DrAt H d c) (o : HO) (nd : p ≠ d) (nc : p ≠ c) : DrAt (upd H p o) d c := by
  obtain ⟨ns, i, r, sd, n, h1, h2, h3⟩ := h
  exact ⟨ns, i, r, sd, n, by rw [upd_ne nd.symm]; exact h1, by rw [upd_ne nc.symm]; exact h2, h3⟩
/-- what is no list is kept by a draw -/
theorem But.tup {d c b : Addr} {H H' : Hp} {xs : List V} (k : But d H H') (h : DrAt H d c) (hb : H b = some (.tup xs)) : H' b = some (.tup xs) := by
  obtain ⟨ys, hd⟩ := h.lst
  rw [k b (ne_of hb hd (fun z => nomatch z))]
  exact hb
def Bnd (m : Int) : Prop := m < 2 ^ 400
structure TxtD (mg : Str → Option Value) : Prop where
  int : mg "int" = none
  abs : mg "abs" = none
  len : mg "len" = none
  list : mg "list" = none
section
variable {P : Program} {w : World} {K : PySem.W.Frag} {mg : Str → Option Value} {base : Heap}
def spBegin (K : PySem.W.Frag) : Sp := fun vs H Q _ => ∃ (a : Addr) (ns : List Int), vs = [.ref a] ∧ SqL K H a (ns.map V.int) ∧ ns.length ≤ 63 ∧
  ∀ H' d c, Same H H' → H d = none → H c = none → DrAt H' d c → Q (.ref d) H'
theorem scB : FnScope ["script", "seed", "cell"] ["script"] (defScope sBegin) := ⟨rfl, rfl, rfl, by decide +kernel, rfl, by decide +kernel, by decide +kernel⟩
theorem ok_begin {f : Addr} {fd : FuncData} (F : Fun K "_law_begin" "_law_begin" sBegin f fd) (T : TxtD mg) : FnOk P w K mg base CX0 1 f fd ["script"] (spBegin K) := by
  refine F.ok scB (fun vs H Q E h => ?_) (fun cdv A outer s H vs Q E hr h => ?_)
  · obtain ⟨a, ns, rfl, _⟩ := h
    rfl
  · obtain ⟨a, ns, rfl, hS, hlen, q⟩ := h
    refine ⟨_, pss_cons (ps_set (i := 1) scB.nd rfl (.inl rfl) pe_int)
      (pss_cons (ps_for PassesOwn.never rfl (pi_list (pv 0)) (pg_name (i := 2) scB.nd rfl (.inl rfl))
        (pss_one (ps_set (i := 1) scB.nd rfl (.inl rfl)
          (pe_op op_mod (pe_op op_add (pe_op op_add (pe_op op_mul (pv 1) pe_int) (pe_op op_mod (pe_callTy call_int1 (by rfl) T.int (by decide +kernel) (pa_cons (pv 2) pa_nil)) pe_int)) pe_int) pe_int))))
      (pss_one (ps_ret (pe_lst (pa_cons (pe_callTy call_list_of (by rfl) T.list (by decide +kernel) (pa_cons (pv 0) pa_nil)) (pa_cons pe_int (pa_cons pe_int (pa_cons (pv 1) pa_nil)))))))), ?_⟩
    refine ⟨_, rfl, a, rfl, ⟨_, hS⟩, for_list (K := K) (a := a) (xs := ns.map V.int) (fun i σ H' => ∃ (z : Int) (v : Option V), σ = [some (.ref a), some (.int z), v] ∧ H' = H ∧ 0 ≤ z ∧ z < 2147483647)
      ⟨1, none, rfl, rfl, by decide, by decide⟩ (fun i σ H' _ ⟨_, _, _, e, _⟩ => by rw [e]; exact hS) ?_ ?_⟩
    · rintro i x σ H' hi ⟨z, v, rfl, rfl, h0, h1⟩
      obtain ⟨u, rfl⟩ : ∃ u, x = V.int u := by
        rw [List.getElem?_map] at hi
        cases e : ns[i]? with
        | none => rw [e] at hi; cases hi
        | some u => rw [e] at hi; exact ⟨u, (Option.some.inj hi).symm⟩
      refine ⟨_, rfl, _, _, rfl, rfl, .inl ⟨by omega, by omega⟩, _, rfl, .inl ⟨_, rfl, _, _, rfl, rfl, (by show (0 : Int) < 2147483629; decide), _, _, rfl, rfl, _, _, rfl, rfl, _, _, rfl, rfl, (by show (0 : Int) < 2147483647; decide), ?_⟩⟩
      exact ⟨_, _, rfl, rfl, Int.emod_nonneg _ (by decide), Int.emod_lt_of_pos _ (by decide)⟩
    · rintro σ H' ⟨z, v, rfl, rfl, h0, h1⟩
      refine ⟨_, rfl, a, _, rfl, .inl hS, fun c nc => ⟨_, rfl, by show 4 ≤ sizeLine; decide, fun d nd => ?_⟩⟩
      have ndc : d ≠ c := fun e => by
        rw [e, upd_same] at nd
        cases nd
      have nd0 : H' d = none := by
        rw [upd_ne ndc] at nd
        exact nd
      refine q _ d c (fun b o e => ?_) nd0 nc ⟨ns, 0, 0, z, ndc.symm, upd_same, ?_, Nat.zero_le _, by decide, h0, h1⟩
      · rw [upd_ne (ne_of_none e nd0), upd_ne (ne_of_none e nc)]
        exact e
      · rw [upd_ne ndc.symm, upd_same]
def spTake : Sp := fun vs H Q _ => ∃ (d c : Addr) (m : Int), vs = [.ref d, .int m] ∧ DrAt H d c ∧ 0 < m ∧ Bnd m ∧
  ∀ H' v, But d H H' → DrAt H' d c → 0 ≤ v → v < m → Q (.int v) H'
theorem scT : FnScope ["d", "many", "small", "digit"] ["d", "many"] (defScope sTake) := ⟨rfl, rfl, rfl, by decide +kernel, rfl, by decide +kernel, by decide +kernel⟩
theorem at0 {a b c e : V} : atI [a, b, c, e] (0 : Int) = some a := rfl
theorem at1 {a b c e : V} : atI [a, b, c, e] (1 : Int) = some b := rfl
theorem at2 {a b c e : V} : atI [a, b, c, e] (2 : Int) = some c := rfl
theorem at3 {a b c e : V} : atI [a, b, c, e] (3 : Int) = some e := rfl
theorem bnd_nat {m : Int} (h0 : 0 < m) (h : Bnd m) : m.natAbs < 2 ^ 400 := by
  have e : ((2 ^ 400 : Nat) : Int) = 2 ^ 400 := by decide +kernel
  unfold Bnd at h
  generalize (2 ^ 400 : Nat) = B at *
  omega
theorem bndW {r m : Int} (h0 : 0 < m) (h : Bnd m) : CDivW r m := wide_div (b := 400) h0 (bnd_nat h0 h) (by decide) (by decide)
theorem ok_take {f : Addr} {fd : FuncData} (F : Fun K "_law_take" "_law_take" sTake f fd) (T : TxtD mg) : FnOk P w K mg base CX0 1 f fd ["d", "many"] spTake := by
  refine F.ok scT (fun vs H Q E h => ?_) (fun cdv A outer s H vs Q E hr h => ?_)
  · obtain ⟨d, c, m, rfl, _⟩ := h
    rfl
  · obtain ⟨d, c, m, rfl, ⟨ns, i, r, sd, ncd, hd, hc, hi, hr0, hs0, hs1⟩, hm, hb, q⟩ := h
    refine ⟨_, Evl.pss_cut (ps_if (PW.pt (pw_and (pt_cmpR op_eq (pe_ix ix_list (pv 0) pe_int (fun _ _ => rfl)) pe_int (nomark _))
        (pw_and1 (pt_cmpR op_lt (pe_ix ix_list (pv 0) pe_int (fun _ _ => rfl)) (pe_callB call_len_seq (by rfl) T.len PySem.boot_len (pa_cons (pe_ix ix_list (pv 0) pe_int (fun _ _ => rfl)) pa_nil)) (nomark _)))))
        (pss_cons (ps_asg (pe_callB call_abs (by rfl) T.abs (by decide +kernel) (pa_cons (pe_callTy call_int1 (by rfl) T.int (by decide +kernel) (pa_cons (pe_ix ix_list (pe_ix ix_list (pv 0) pe_int (fun _ _ => rfl)) (pe_ix ix_list (pv 0) pe_int (fun _ _ => rfl)) (fun _ _ => rfl)) pa_nil)) pa_nil)) (pg_sub (pv 0) pe_int set_list))
        (pss_cons (ps_asg (pe_op op_add (pe_ix ix_list (pv 0) pe_int (fun _ _ => rfl)) pe_int) (pg_sub (pv 0) pe_int set_list))
        (pss_one (ps_if (pt_cmpR op_lt (pe_ix ix_list (pv 0) pe_int (fun _ _ => rfl)) (pe_op op_pow pe_int pe_int) (nomark _))
          (pss_cons (ps_set (i := 2) scT.nd rfl (.inl rfl) (pe_callTy call_int1 (by rfl) T.int (by decide +kernel) (pa_cons (pe_ix ix_list (pv 0) pe_int (fun _ _ => rfl)) pa_nil)))
          (pss_cons (ps_asg pe_int (pg_sub (pv 0) pe_int set_list))
          (pss_one (ps_ret (pe_op op_mod (pv 2) (pv 1))))))
          pss_nil))))
        pss_nil)
      (pss_cons (ps_if (pt_cmpR op_gt (pe_ix ix_list (pv 0) pe_int (fun _ _ => rfl)) pe_int (nomark _))
        (pss_cons (ps_set (i := 3) scT.nd rfl (.inl rfl) (pe_op op_mod (pe_callTy call_int1 (by rfl) T.int (by decide +kernel) (pa_cons (pe_ix ix_list (pv 0) pe_int (fun _ _ => rfl)) pa_nil)) (pv 1)))
        (pss_cons (ps_asg (pe_op op_fdivW (pe_callTy call_int1 (by rfl) T.int (by decide +kernel) (pa_cons (pe_ix ix_list (pv 0) pe_int (fun _ _ => rfl)) pa_nil)) (pv 1)) (pg_sub (pv 0) pe_int set_list))
        (pss_one (ps_ret (pv 3)))))
        pss_nil)
      (pss_cons (ps_asg (pe_op op_mod (pe_callTy call_int1 (by rfl) T.int (by decide +kernel) (pa_cons (pe_op op_add (pe_op op_mul (pe_ix ix_list (pv 0) pe_int (fun _ _ => rfl)) pe_int) pe_int) pa_nil)) pe_int) (pg_sub (pv 0) pe_int set_list))
      (pss_one (ps_ret (pe_op op_mod (pe_callTy call_int1 (by rfl) T.int (by decide +kernel) (pa_cons (pe_op op_fdiv (pe_ix ix_list (pv 0) pe_int (fun _ _ => rfl)) pe_int) pa_nil)) (pv 1)))))), ?_⟩
    refine ⟨fun σ' H' => ∃ (i r sd : Int) (x2 : Option V) (i' : Nat), σ' = [some (.ref d), some (.int m), x2, none] ∧ H' = upd H d (.lst [.ref c, .int i, .int r, .int sd]) ∧ i = i' ∧ i' ≤ ns.length ∧ 0 ≤ r ∧ 0 ≤ sd ∧ sd < 2147483647, ?_, ?_⟩
    · have same : H = upd H d (.lst [.ref c, .int i, .int r, .int sd]) := by
        funext b
        by_cases e : b = d
        · rw [e, upd_same, hd]
        · rw [upd_ne e]
      refine ⟨_, rfl, d, _, 2, _, rfl, rfl, SqL.of hd, at2, rfl, _, rfl, ite2 (fun e => ?_) (fun e => ?_)⟩
      · refine ⟨_, rfl, d, _, 1, _, rfl, rfl, SqL.of hd, at1, _, rfl, d, _, 0, _, rfl, rfl, SqL.of hd, at0, c, _, rfl, .inl (SqL.of hc), _, _, rfl, rfl, _, rfl, ite2 (fun e2 => ?_) (fun e2 => ?_)⟩
        · have hlt : i < ns.length := by
            have := of_decide_eq_true e2
            rw [List.length_map] at this
            omega
          have hx : (ns.map V.int)[i]? = some (.int ns[i]) := by
            rw [List.getElem?_map, List.getElem?_eq_getElem hlt]
            rfl
          generalize ns[i] = x at hx
          have hcd : ∀ o, (upd H d o) c = some (.lst (ns.map V.int)) := fun o => by rw [upd_ne ncd]; exact hc
          have habs : 0 ≤ (if x < 0 then -x else x) := by split <;> omega
          -- d[2] = abs(int(d[0][d[1]]))
          refine ⟨_, rfl, d, _, 0, _, rfl, rfl, SqL.of hd, at0, _, rfl, d, _, 1, _, rfl, rfl, SqL.of hd, at1, c, _, _, _, rfl, rfl, SqL.of hc, atI_nat hx, .inl ⟨x, rfl, x, rfl, _, rfl, d, _, 2, 2, rfl, rfl, hd, rfl, ?_⟩⟩
          generalize (if x < 0 then -x else x) = y at habs
          -- d[1] = d[1] + 1
          refine ⟨_, rfl, d, _, 1, _, rfl, rfl, SqL.of upd_same, at1, _, _, rfl, rfl, _, rfl, d, _, 1, 1, rfl, rfl, upd_same, rfl, ?_⟩
          rw [upd_upd]
          -- if d[2] < 10 ** 18
          refine ⟨_, rfl, d, _, 2, _, rfl, rfl, SqL.of upd_same, at2, 10, 18, rfl, rfl, ⟨by decide, by decide, by decide⟩, _, _, rfl, rfl, _, rfl, ite2 (fun e3 => ?_) (fun e3 => ?_)⟩
          · refine ⟨_, rfl, d, _, 2, _, rfl, rfl, SqL.of upd_same, at2, .inl ⟨_, rfl, _, rfl, d, _, 2, 2, rfl, rfl, upd_same, rfl, ?_⟩⟩
            rw [upd_upd]
            refine ⟨_, rfl, _, rfl, _, _, rfl, rfl, hm, ?_⟩
            exact q _ _ But.upd ⟨ns, i + 1, 0, sd, ncd, upd_same, hcd _, hlt, by decide, hs0, hs1⟩ (Int.emod_nonneg _ (by omega)) (Int.emod_lt_of_pos _ hm)
          · exact ⟨_, _, _, _, i + 1, rfl, rfl, rfl, hlt, habs, hs0, hs1⟩
        · exact ⟨_, _, _, _, i, rfl, same, rfl, hi, hr0, hs0, hs1⟩
      · exact iteF ⟨_, _, _, _, i, rfl, same, rfl, hi, hr0, hs0, hs1⟩
    · clear hd hi hr0 hs0 hs1
      rintro σ' H' ⟨i, r, sd, x2, i', rfl, rfl, rfl, hi, hr0, hs0, hs1⟩
      have hcd : ∀ o, (upd H d o) c = some (.lst (ns.map V.int)) := fun o => by rw [upd_ne ncd]; exact hc
      refine ⟨_, rfl, d, _, 2, _, rfl, rfl, SqL.of upd_same, at2, _, _, rfl, rfl, _, rfl, ite2 (fun e => ?_) (fun e => ?_)⟩
      · refine ⟨_, rfl, d, _, 2, _, rfl, rfl, SqL.of upd_same, at2, .inl ⟨_, rfl, _, rfl, _, _, rfl, rfl, hm, ?_⟩⟩
        refine ⟨_, rfl, d, _, 2, _, rfl, rfl, SqL.of upd_same, at2, .inl ⟨_, rfl, _, rfl, _, _, rfl, rfl, bndW hm hb, _, rfl, d, _, 2, 2, rfl, rfl, upd_same, rfl, ?_⟩⟩
        rw [upd_upd]
        refine ⟨_, rfl, ?_⟩
        exact q _ _ But.upd ⟨ns, i', _, sd, ncd, upd_same, hcd _, hi, Int.ediv_nonneg hr0 (by omega), hs0, hs1⟩ (Int.emod_nonneg _ (by omega)) (Int.emod_lt_of_pos _ hm)
      · refine ⟨_, rfl, d, _, 3, _, rfl, rfl, SqL.of upd_same, at3, _, _, rfl, rfl, .inl ⟨by omega, by omega⟩, _, _, rfl, rfl, .inl ⟨_, rfl, _, _, rfl, rfl, (by show (0 : Int) < 2147483647; decide), _, rfl, d, _, 3, 3, rfl, rfl, upd_same, rfl, ?_⟩⟩
        rw [upd_upd]
        refine ⟨_, rfl, d, _, 3, _, rfl, rfl, SqL.of upd_same, at3, _, _, rfl, rfl, ⟨by decide, by decide⟩, .inl ⟨_, rfl, _, rfl, _, _, rfl, rfl, hm, ?_⟩⟩
        exact q _ _ But.upd ⟨ns, i', r, _, ncd, upd_same, hcd _, hi, hr0, Int.emod_nonneg _ (by decide), Int.emod_lt_of_pos _ (by decide)⟩ (Int.emod_nonneg _ (by omega)) (Int.emod_lt_of_pos _ hm)
def spSigned : Sp := fun vs H Q _ => ∃ (d c : Addr) (m : Int), vs = [.ref d, .int m] ∧ DrAt H d c ∧ 0 ≤ m ∧ Bnd (2 * m + 1) ∧
  ∀ H' v, But d H H' → DrAt H' d c → -m ≤ v → v ≤ m → Q (.int v) H'
theorem scS : FnScope ["d", "most"] ["d", "most"] (defScope sSigned) := ⟨rfl, rfl, rfl, by decide +kernel, rfl, by decide +kernel, by decide +kernel⟩
theorem ok_signed {f fT : Addr} {fd fdT : FuncData} (F : Fun K "_law_signed" "_law_signed" sSigned f fd) (GT : FnOk P w K mg base CX0 1 fT fdT ["d", "many"] spTake) (kT : PySem.W.keepIn K (.ref fT) = true) (bT : Binds K fdT ["d", "many"] []) (gT : mg "_law_take" = some (.ref fT)) : FnOk P w K mg base CX0 2 f fd ["d", "most"] spSigned := by
  refine F.ok scS (fun vs H Q E h => ?_) (fun cdv A outer s H vs Q E hr h => ?_)
  · obtain ⟨d, c, m, rfl, _⟩ := h
    rfl
  · obtain ⟨d, c, m, rfl, dr, h0, hb, q⟩ := h
    refine ⟨_, pss_one (ps_ret (pe_op op_sub (pe_call GT hr (by rfl) gT kT bT .nil pass0 (pa_cons (pv 0) (pa_cons (pe_op op_add (pe_op op_mul pe_int (pv 1)) pe_int) pa_nil))) (pv 1))), ?_⟩
    refine ⟨_, rfl, _, rfl, _, _, rfl, rfl, .inl ⟨by omega, by omega⟩, _, _, rfl, rfl, d, c, _, rfl, dr, by omega, hb, fun H' v k dr' v0 v1 => ?_⟩
    exact ⟨_, rfl, _, _, rfl, rfl, q _ _ k dr' (by omega) (by omega)⟩
end
/-! ### bounds -/
/-- below 2 ^ n in size -/
def Bg (n : Nat) (x : Int) : Prop := x.natAbs < 2 ^ n
theorem Bg.mono {n m : Nat} {x : Int} (h : Bg n x) (l : n ≤ m) : Bg m x := Nat.lt_of_lt_of_le h (Nat.pow_le_pow_right (by decide) l)
theorem Bg.mul {n m : Nat} {x y : Int} (h : Bg n x) (k : Bg m y) : Bg (n + m) (x * y) := wide_lt h k
theorem Bg.add {n : Nat} {x y : Int} (h : Bg n x) (k : Bg n y) : Bg (n + 1) (x + y) := by
  unfold Bg at *
  rw [Nat.pow_succ]
  omega
theorem Bg.sub {n : Nat} {x y : Int} (h : Bg n x) (k : Bg n y) : Bg (n + 1) (x - y) := by
  unfold Bg at *
  rw [Nat.pow_succ]
  omega
theorem Bg.cmul {n m : Nat} {x y : Int} (h : Bg n x) (k : Bg m y) (n0 : 0 < n) (m0 : 0 < m) (l : n + m ≤ 1000000) : CMulW x y := wide_mul h k n0 m0 l
def CDivX (_ j : Int) : Prop := j ≠ 0 ∧ j.natAbs.log2 < 9000
theorem op_fdivX {X : Cx} : OpR X (binaryOp .FloorDiv) (rI CDivX fun i j => .int (i.fdiv j)) := opI fun i j _ _ _ _ _ hc q =>
  PyProof.Rows.floordiv_int hc.1 q (.inl (PyProof.noPylong_of_log2 hc.2))
theorem Bg.div {n : Nat} {x y : Int} (h : Bg n y) (h0 : y ≠ 0) (n0 : 0 < n) (l : n ≤ 9000) : CDivX x y := ⟨h0, Nat.lt_of_lt_of_le (PySem.Flt.log2_lt_of n0 h) l⟩
theorem Bg.divW {n : Nat} {x y : Int} (h : Bg n y) (h0 : 0 < y) (n0 : 0 < n) (l : n ≤ 9000) : CDivW x y := wide_div h0 h n0 l

/-! ### two shapes together -/
theorem But.nl {d c : Addr} {H H' : Hp} (k : But d H H') (h : DrAt H d c) : NL H H' := fun b o e => by
  by_cases hb : b = d
  · subst hb
    obtain ⟨xs, hx⟩ := h.lst
    rw [hx] at e
    exact .inl ⟨xs, (Option.some.inj e).symm⟩
  · exact .inr (by rw [k b hb]; exact e)
def look (sh : Sh) (l : Nat) : Option Int := (sh.find? fun p => decide (p.1 = l)).map (·.2)
theorem look_none {sh : Sh} {l : Nat} : look sh l = none ↔ l ∉ codes sh := by
  unfold look codes
  rw [Option.map_eq_none_iff, List.find?_eq_none]
  constructor
  · intro h hm
    obtain ⟨p, hp, rfl⟩ := List.mem_map.mp hm
    exact h p hp (decide_eq_true rfl)
  · intro h p hp hd
    exact h (List.mem_map.mpr ⟨p, hp, of_decide_eq_true hd⟩)
theorem look_mem {sh : Sh} {l : Nat} {z : Int} (h : look sh l = some z) : (l, z) ∈ sh := by
  unfold look at h
  obtain ⟨p, hp, rfl⟩ := Option.map_eq_some_iff.mp h
  have h1 := List.mem_of_find?_eq_some hp
  have h2 : p.1 = l := of_decide_eq_true (List.find?_some (p := fun p : Nat × Int => decide (p.1 = l)) hp)
  subst h2
  exact h1
theorem look_of {sh : Sh} (hn : (codes sh).Nodup) {p : Nat × Int} (h : p ∈ sh) : look sh p.1 = some p.2 := by
  induction sh with
  | nil => cases h
  | cons q sh ih =>
    unfold look
    rw [List.find?_cons]
    unfold codes at hn
    rw [List.map_cons, List.nodup_cons] at hn
    rcases List.mem_cons.mp h with rfl | h'
    · rw [decide_eq_true rfl]
      rfl
    · have : q.1 ≠ p.1 := fun e => hn.1 (List.mem_map.mpr ⟨p, h', e.symm⟩)
      rw [decide_eq_false this]
      exact ih hn.2 h'
/-- the axes of the second that the first has not; none where a size differs -/
def castStep (sh1 : Sh) (acc : Option Sh) (p : Nat × Int) : Option Sh := acc.bind fun ad => match look sh1 p.1 with | none => some (ad ++ [p]) | some z => if z = p.2 then some ad else none
def cast (sh1 sh2 : Sh) : Option Sh := sh2.foldl (castStep sh1) (some [])
theorem cast_nil (sh1 : Sh) : cast sh1 [] = some [] := rfl
theorem cast_snoc (sh1 sh2 : Sh) (p : Nat × Int) : cast sh1 (sh2 ++ [p]) = castStep sh1 (cast sh1 sh2) p := by unfold cast; rw [List.foldl_append]; rfl
theorem cast_stop (sh1 : Sh) : ∀ l : Sh, l.foldl (castStep sh1) none = none
  | [] => rfl
  | p :: l => cast_stop sh1 l
theorem cast_app {sh1 a b : Sh} (h : cast sh1 a = none) : cast sh1 (a ++ b) = none := by
  unfold cast at *
  rw [List.foldl_append, h]
  exact cast_stop sh1 b
theorem cast_take {sh1 sh2 : Sh} {i : Nat} (h : cast sh1 (sh2.take i) = none) : cast sh1 sh2 = none := by
  have := cast_app (b := sh2.drop i) h
  rwa [List.take_append_drop] at this
/-- what is added -/
theorem cast_ind {sh1 : Sh} {P : Sh → Prop} (h0 : P []) (hs : ∀ ad p, P ad → p.1 ∉ codes sh1 → P (ad ++ [p])) : ∀ (n : Nat) (sh2 : Sh), sh2.length = n → ∀ ad, cast sh1 sh2 = some ad → P ad := by
  intro n
  induction n with
  | zero =>
    intro sh2 hl ad h
    rw [List.length_eq_zero_iff.mp hl] at h
    cases h
    exact h0
  | succ n ih =>
    intro sh2 hl ad h
    obtain ⟨r, p, rfl⟩ : ∃ r p, sh2 = r ++ [p] := ⟨sh2.dropLast, sh2.getLast (by intro z; rw [z] at hl; cases hl), (List.dropLast_concat_getLast _).symm⟩
    rw [cast_snoc] at h
    have hl' : r.length = n := by simpa using hl
    cases e : cast sh1 r with
    | none => rw [e] at h; cases h
    | some ad' =>
      rw [e] at h
      have hp := ih r hl' ad' e
      unfold castStep at h
      rw [Option.bind_some] at h
      cases e2 : look sh1 p.1 with
      | none =>
        rw [e2] at h
        cases h
        exact hs _ _ hp (look_none.mp e2)
      | some z =>
        rw [e2] at h
        dsimp only at h
        by_cases e3 : z = p.2
        · rw [if_pos e3] at h
          cases h
          exact hp
        · rw [if_neg e3] at h
          cases h
theorem cast_sub {sh1 : Sh} : ∀ (n : Nat) (sh2 : Sh), sh2.length = n → ∀ ad, cast sh1 sh2 = some ad → ad.Sublist sh2 ∧ ∀ p ∈ ad, p.1 ∉ codes sh1 := by
  intro n
  induction n with
  | zero =>
    intro sh2 hl ad h
    rw [List.length_eq_zero_iff.mp hl] at h ⊢
    cases h
    exact ⟨List.Sublist.refl _, fun _ h => (by cases h)⟩
  | succ n ih =>
    intro sh2 hl ad h
    obtain ⟨r, p, rfl⟩ : ∃ r p, sh2 = r ++ [p] := ⟨sh2.dropLast, sh2.getLast (by intro z; rw [z] at hl; cases hl), (List.dropLast_concat_getLast _).symm⟩
    rw [cast_snoc] at h
    have hl' : r.length = n := by simpa using hl
    cases e : cast sh1 r with
    | none => rw [e] at h; cases h
    | some ad' =>
      rw [e] at h
      obtain ⟨hp, hq⟩ := ih r hl' ad' e
      unfold castStep at h
      rw [Option.bind_some] at h
      cases e2 : look sh1 p.1 with
      | none =>
        rw [e2] at h
        cases h
        refine ⟨List.Sublist.append hp (List.Sublist.refl _), fun q hm => ?_⟩
        rcases List.mem_append.mp hm with hm | hm
        · exact hq q hm
        · rw [List.mem_singleton] at hm
          subst hm
          exact look_none.mp e2
      | some z =>
        rw [e2] at h
        dsimp only at h
        by_cases e3 : z = p.2
        · rw [if_pos e3] at h
          cases h
          exact ⟨hp.trans (List.sublist_append_left _ _), hq⟩
        · rw [if_neg e3] at h
          cases h
theorem cast_len {sh1 sh2 ad : Sh} (h : cast sh1 sh2 = some ad) : ad.length ≤ sh2.length := (cast_sub _ sh2 rfl ad h).1.length_le
theorem cast_mod {sh1 sh2 ad : Sh} (h : cast sh1 sh2 = some ad) (m1 : Mod sh1) (m2 : Mod sh2) : Mod (sh1 ++ ad) := fun p hp => by
  rcases List.mem_append.mp hp with hp | hp
  · exact m1 p hp
  · exact m2 p ((cast_sub _ sh2 rfl ad h).1.mem hp)
theorem cast_fine {sh1 sh2 ad : Sh} (h : cast sh1 sh2 = some ad) (m1 : Fine sh1) (m2 : Fine sh2) : Fine (sh1 ++ ad) := fun p hp => by
  rcases List.mem_append.mp hp with hp | hp
  · exact m1 p hp
  · exact m2 p ((cast_sub _ sh2 rfl ad h).1.mem hp)
theorem cast_nodup {sh1 sh2 ad : Sh} (h : cast sh1 sh2 = some ad) (m1 : (codes sh1).Nodup) (m2 : (codes sh2).Nodup) : (codes (sh1 ++ ad)).Nodup := by
  obtain ⟨hs, hq⟩ := cast_sub _ sh2 rfl ad h
  unfold codes at *
  rw [List.map_append, List.nodup_append]
  refine ⟨m1, (hs.map _).nodup m2, fun a ha b hb e => ?_⟩
  obtain ⟨p, hp, rfl⟩ := List.mem_map.mp hb
  subst e
  exact hq p hp ha
/-- the first's letters as a dict -/
def kvsOf (sh : Sh) : List (Key × V) := sh.map fun p => (.inr (one p.1), .int p.2)
theorem one_inj {a b : Nat} (h : one a = one b) : a = b := by
  have : (one a).cps.toList = (one b).cps.toList := by rw [h]
  exact (List.cons.inj this).1
theorem valV_kvs (sh : Sh) (l : Nat) : valV (kvsOf sh) (.inr (one l)) = (look sh l).map V.int := by
  induction sh with
  | nil => rfl
  | cons p sh ih =>
    unfold valV kvsOf look at *
    rw [List.map_cons, List.find?_cons, List.find?_cons]
    by_cases e : p.1 = l
    · have e2 : decide ((Sum.inr (one p.1) : Key) = .inr (one l)) = true := decide_eq_true (by rw [e])
      rw [e2, decide_eq_true e]
      rfl
    · have e2 : decide ((Sum.inr (one p.1) : Key) = .inr (one l)) = false := decide_eq_false fun z => e (one_inj (Sum.inr.inj z))
      rw [e2, decide_eq_false e]
      exact ih
theorem mergeK_new : ∀ (more acc : List (Key × V)), ((acc ++ more).map (·.1)).Nodup → mergeK acc more = acc ++ more
  | [], acc, _ => (List.append_nil _).symm
  | p :: r, acc, h => by
    have hv : valV acc p.1 = none := by
      unfold valV
      rw [Option.map_eq_none_iff, List.find?_eq_none]
      intro q hq hd
      have e := of_decide_eq_true hd
      rw [List.map_append, List.nodup_append] at h
      exact h.2.2 q.1 (List.mem_map.mpr ⟨q, hq, rfl⟩) p.1 (List.mem_map.mpr ⟨p, List.mem_cons_self, rfl⟩) e
    show mergeK (putK acc p.1 p.2) r = acc ++ p :: r
    rw [putK_new p.2 hv, mergeK_new r _ (by rw [List.append_assoc]; exact h), List.append_assoc]
    rfl
theorem mergeK_kvs {sh : Sh} (h : (codes sh).Nodup) : mergeK [] (kvsOf sh) = kvsOf sh := by
  refine mergeK_new _ [] ?_
  rw [List.nil_append]
  unfold kvsOf codes at *
  rw [List.map_map]
  refine List.pairwise_map.mpr ((List.pairwise_map.mp h).imp fun n e => n ?_)
  exact one_inj (Sum.inr.inj e)
theorem paired_kvs {K : PySem.W.Frag} {H : Hp} : ∀ {ts : List Addr} {sh : Sh}, Axes K H ts sh → Paired (fun p (kv : Key × V) => SqT K H p [kV kv.1, kv.2]) ts (kvsOf sh)
  | [], [], _ => .nil
  | [], p :: sh, h => nomatch h.1
  | t :: ts, [], h => nomatch h.1
  | t :: ts, p :: sh, h => .cons (h.2 0 t p rfl rfl) (paired_kvs ⟨Nat.succ.inj h.1, fun i t' p' a b => h.2 (i + 1) t' p' (by simpa using a) (by simpa using b)⟩)
theorem Axes.append {K : PySem.W.Frag} {H : Hp} {ts ts' : List Addr} {sh sh' : Sh} (h : Axes K H ts sh) (h' : Axes K H ts' sh') : Axes K H (ts ++ ts') (sh ++ sh') := by
  refine ⟨by rw [List.length_append, List.length_append, h.1, h'.1], fun i u q a b => ?_⟩
  by_cases hi : i < ts.length
  · rw [List.getElem?_append_left hi] at a
    rw [List.getElem?_append_left (by rw [← h.1]; exact hi)] at b
    exact h.2 i u q a b
  · rw [List.getElem?_append_right (by omega)] at a
    rw [List.getElem?_append_right (by rw [← h.1]; omega)] at b
    rw [h.1] at a
    exact h'.2 _ u q a b
section
variable {P : Program} {w : World} {K : PySem.W.Frag} {mg : Str → Option Value} {base : Heap}
def spMerged (K : PySem.W.Frag) (C : Nat → Addr) : Sp := fun vs H Q E => ∃ (a b : Addr) (sh1 sh2 : Sh), vs = [.ref a, .ref b] ∧ ShT K H a sh1 ∧ NoD K H a ∧ ShT K H b sh2 ∧ sh1.length ≤ 16 ∧ sh2.length ≤ 16 ∧ (codes sh1).Nodup ∧
  (cast sh1 sh2 = none → ∀ H', Same H H' → E (.ref (C 2)) none H') ∧ ∀ ad, cast sh1 sh2 = some ad → ∀ H' p, Same H H' → ShT K H' p (sh1 ++ ad) → NoD K H' p → Q (.ref p) H'
theorem scME : FnScope ["first", "second", "sizes", "added", "letter", "size"] ["first", "second"] (defScope sMerged) := ⟨rfl, rfl, rfl, by decide +kernel, rfl, by decide +kernel, by decide +kernel⟩
theorem ok_merged {f : Addr} {C : Nat → Addr} {fd : FuncData} (F : Fun K "merged" "merged" sMerged f fd) (R : ErrR K mg "AxisError" (C 2)) (md : mg "dict" = none) (mt : mg "tuple" = none) :
    FnOk P w K mg base (L2.CX P w) 1 f fd ["first", "second"] (spMerged K C) := by
  refine F.okX scME (fun vs H Q E h => ?_) (fun cdv A outer s H vs Q E hr h => ?_)
  · obtain ⟨a, b, sh1, sh2, rfl, _⟩ := h
    rfl
  · obtain ⟨a, b, sh1, sh2, rfl, ⟨ts, ha, hx⟩, nd, ⟨ts2, hb, hx2⟩, l1, l2, hn, qE, qQ⟩ := h
    refine ⟨_, (pss_cons (ps_set (i := 2) scME.nd rfl (.inl rfl) (pe_callTy (call_dictT (by rfl)) (by rfl) md (by decide +kernel) (pa_cons (pv 0) pa_nil)))
      (pss_cons (ps_set (i := 3) scME.nd rfl (.inl rfl) (pe_lst pa_nil))
      (pss_cons (ps_for (passes_of rfl) rfl (pi_tup (pv 1)) (pg_tup rfl (pgs_cons (pg_name (i := 4) scME.nd rfl (.inl rfl)) (pgs_cons (pg_name (i := 5) scME.nd rfl (.inl rfl)) pgs_nil))) (pss_one (ps_if (pt_cmp (pc_dnotin (Nat.lt_of_le_of_lt (Nat.add_le_add_left (by decide) _) hr.units) (pv 4) (pv 2))) (pss_one (ps_expr (pe_bm PySem.F.plainAttrs_list PySem.F.slot_list_append PySem.F.type_list_append mt_append (pv 3) (pa_cons (pe_tup (pa_cons (pv 4) (pa_cons (pv 5) pa_nil))) pa_nil)))) (pss_one (ps_if (pt_cmpR op_ne (pe_dget (Nat.lt_of_le_of_lt (Nat.add_le_add_left (by decide) _) hr.units) (pv 2) (pv 4) (fun _ _ => rfl)) (pv 5) (nomark _)) (pss_one (ps_raise rfl (takes_of rfl rfl rfl rfl) (SkE.pmk_own1 PySem.F.excBase_ValueError R.x R.g R.k (raises_own R.b R.t) rfl (pe_joined (.cons pe_str (.cons (pe_fmt (pv 4)) (.cons pe_str .nil))))))) pss_nil)))))
      (pss_one (ps_ret (pe_op op_catF (pv 0) (pe_callTy call_tuple_ofF (by rfl) mt (by decide +kernel) (pa_cons (pv 3) pa_nil)))))))), ?_⟩
    have hlen : (ts2.map V.ref).length = sh2.length := by rw [List.length_map, hx2.1]
    refine ⟨_, rfl, a, ts, kvsOf sh1, rfl, ha, nd, paired_kvs hx, fun dd ndd => ?_⟩
    rw [mergeK_kvs hn]
    refine ⟨Nat.zero_le _, fun p np => ?_⟩
    have s1 : Same H (upd (upd H dd (.dK (kvsOf sh1))) p (.lst [])) := (same_upd ndd).trans (same_upd np)
    have hd : (upd (upd H dd (.dK (kvsOf sh1))) p (.lst [])) dd = some (.dK (kvsOf sh1)) := by rw [upd_ne (ne_of_none upd_same np), upd_same]
    have hp : (upd (upd H dd (.dK (kvsOf sh1))) p (.lst [])) p = some (.lst []) := upd_same
    have hfp : H p = none := Same.free (same_upd ndd) np
    clear np
    generalize upd (upd H dd (.dK (kvsOf sh1))) p (.lst []) = H1 at *
    refine ⟨_, rfl, b, rfl, ⟨_, sqT_same hb s1⟩, for_tup (K := K) (a := b) (xs := ts2.map V.ref) (fun i σ H' => ∃ (ad : Sh) (ats : List Addr) (v4 v5 : Option V), σ = [some (.ref a), some (.ref b), some (.ref dd), some (.ref p), v4, v5] ∧ cast sh1 (sh2.take i) = some ad ∧
        Same H H' ∧ H' dd = some (.dK (kvsOf sh1)) ∧ H' p = some (.lst (ats.map V.ref)) ∧ Axes K H' ats ad)
      ⟨[], [], none, none, rfl, rfl, s1, hd, hp, Axes.nil⟩ (fun i σ H' _ ⟨_, _, _, _, _, _, e, _⟩ => sqT_same hb e) ?_ ?_⟩
    · clear hd hp s1
      rintro i x σ H' hi ⟨ad, ats, v4, v5, rfl, hc, s1, hd, hp, hax⟩
      obtain ⟨t, q, rfl, g1, g2, g3⟩ := (hx2.same s1).at hi
      have hc' := cast_snoc sh1 (sh2.take i) q
      rw [← take_snoc g2, hc] at hc'
      refine ⟨t, _, rfl, g3, rfl, _, _, rfl, _, _, rfl, rfl, ?_⟩
      refine ⟨_, rfl, _, rfl, dd, _, rfl, DGet.k (k := .inr (one q.1)) hd, ?_⟩
      rw [valV_kvs]
      have hil : i < sh2.length := (List.getElem?_eq_some_iff.mp g2).1
      have hal : ad.length ≤ 16 := by
        have := cast_len hc
        rw [List.length_take] at this
        omega
      cases e : look sh1 q.1 with
      | none =>
        refine ⟨_, rfl, iteT ?_⟩
        have t2 : 2 ≤ sizeLine := by decide
        refine ⟨_, rfl, .inl ⟨rfl, _, SqL.of hp⟩, _, rfl, _, rfl, t2, fun u nu => ?_⟩
        have s8 := same_upd (o := .tup [.str (one q.1), .int q.2]) nu
        refine ⟨p, _, _, rfl, rfl, s8 _ _ hp, ?_, ?_⟩
        · rw [List.length_map, hax.1]
          exact small1000 (by omega)
        · have hne : ∀ x : Addr, H x ≠ none → x ≠ p := fun x h e => h (by rw [e]; exact hfp)
          refine ⟨ad ++ [q], ats ++ [u], _, _, rfl, ?_, fun x o e => ?_, ?_, ?_, ?_⟩
          · rw [hc', castStep, Option.bind_some, e]
          · rw [upd_ne (hne x (by rw [e]; exact fun z => nomatch z))]
            exact s8 _ _ (s1 _ _ e)
          · rw [upd_ne (ne_of hd hp (fun z => nomatch z))]
            exact s8 _ _ hd
          · rw [upd_same, List.map_append]
            rfl
          · exact ((hax.same s8).snoc (SqT.of upd_same)).keep (nl_upd (s8 _ _ hp))
      | some z =>
        refine ⟨_, rfl, iteF ?_⟩
        refine ⟨_, rfl, _, rfl, dd, .int z, rfl, ?_, _, rfl, rfl, _, rfl, ?_⟩
        · have := DGet.k (k := .inr (one q.1)) hd
          rw [valV_kvs, e] at this
          exact this
        rw [dec_int]
        by_cases ez : z = q.2
        · rw [show (z == q.2) = true from beq_iff_eq.mpr ez]
          refine iteF ⟨ad, ats, _, _, rfl, ?_, s1, hd, hp, hax⟩
          rw [hc', castStep, Option.bind_some, e]
          dsimp only
          rw [if_pos ez]
        · rw [show (z == q.2) = false from beq_eq_false_iff_ne.mpr ez]
          refine iteT ?_
          have b0 : ∀ x : Str, x.length ≤ 100 → x.length ≤ sizeLine := fun x h => Nat.le_trans h (by decide)
          have m1 : (Str.empty ++ ("the axis " : Str)).length = 9 := by decide +kernel
          have m2 : (one q.1).length = 1 := rfl
          have m3 : (" has two sizes" : Str).length = 14 := by decide +kernel
          have n1 := b0 (Str.empty ++ ("the axis " : Str)) (by omega)
          have n2 := b0 (Str.empty ++ ("the axis " : Str) ++ one q.1) (by rw [txt_len]; omega)
          have n3 := b0 (Str.empty ++ ("the axis " : Str) ++ one q.1 ++ (" has two sizes" : Str)) (by rw [txt_len, txt_len]; omega)
          refine ⟨_, rfl, n1, _, rfl, .inl ⟨_, rfl, b0 _ (by omega), _, rfl, n2, _, rfl, n3, qE (cast_take (i := i + 1) ?_) _ s1⟩⟩
          rw [hc', castStep, Option.bind_some, e]
          dsimp only
          rw [if_neg ez]
    · rintro σ H' ⟨ad, ats, v4, v5, rfl, hc, s2, hd2, hp2, hax⟩
      rw [hlen, List.take_length] at hc
      have hal := cast_len hc
      have haln : (ats.map V.ref).length = ad.length := by rw [List.length_map, hax.1]
      have htln : (ts.map V.ref).length = sh1.length := by rw [List.length_map, hx.1]
      refine ⟨_, rfl, _, rfl, p, _, rfl, SqL.of hp2, fun l o nl ho => ?_⟩
      have s3 := s2.trans (same_upd (o := .frz o (.tup (ats.map V.ref))) nl)
      have hl : SqT K (upd H' l (.frz o (.tup (ats.map V.ref)))) l (ats.map V.ref) := .inl (.inr ⟨o, upd_same⟩)
      have hNl : NoD K (upd H' l (.frz o (.tup (ats.map V.ref)))) l := ⟨o, ho, .inl ⟨_, upd_same⟩⟩
      have hax3 := hax.same (same_upd (o := .frz o (.tup (ats.map V.ref))) nl)
      have hx3 := hx.same s3
      generalize upd H' l (.frz o (.tup (ats.map V.ref))) = H3 at *
      refine ⟨a, l, _, _, rfl, rfl, sqT_same ha s3, hl, ?_, fun e => ?_, fun e e2 => ?_, fun e e2 l2 o2 nl2 ho2 => ?_⟩
      · rw [haln, htln]
        exact Nat.le_trans (show _ ≤ 100 by omega) (by decide)
      · have : sh1 = [] := List.length_eq_zero_iff.mp (by rw [← htln, e]; rfl)
        subst this
        exact qQ ad hc _ l s3 ⟨ats, hl, hax3⟩ hNl
      · have : ad = [] := List.length_eq_zero_iff.mp (by rw [← haln, e2]; rfl)
        subst this
        refine qQ [] hc _ a s3 ?_ (nd.same s3)
        rw [List.append_nil]
        exact ⟨ts, sqT_same ha s3, hx3⟩
      · have s4 := same_upd (o := .frz o2 (.tup (ts.map V.ref ++ ats.map V.ref))) nl2
        refine qQ ad hc _ l2 (s3.trans s4) ⟨ts ++ ats, ?_, (hx3.same s4).append (hax3.same s4)⟩ ⟨o2, ho2, .inl ⟨_, upd_same⟩⟩
        rw [List.map_append]
        exact .inl (.inr ⟨o2, upd_same⟩)
end
section
variable {P : Program} {w : World} {K : PySem.W.Frag} {mg : Str → Option Value} {base : Heap}
/-- what comes of two shapes: 0 and the shape, or an error's number -/
def rc (sh1 sh2 : Sh) : Nat × Sh := match cast sh1 sh2 with | none => (2, []) | some ad => (chk (sh1 ++ ad), sh1 ++ ad)
theorem rc_none {sh1 sh2 : Sh} (h : cast sh1 sh2 = none) : rc sh1 sh2 = (2, []) := by unfold rc; rw [h]
theorem rc_some {sh1 sh2 ad : Sh} (h : cast sh1 sh2 = some ad) : rc sh1 sh2 = (chk (sh1 ++ ad), sh1 ++ ad) := by unfold rc; rw [h]
/-- broadcast -/
def spBroad (K : PySem.W.Frag) (C : Nat → Addr) : Sp := fun vs H Q E => ∃ (a b : Addr) (sh1 sh2 : Sh), vs = [.ref a, .ref b] ∧ ShT K H a sh1 ∧ NoD K H a ∧ ShT K H b sh2 ∧ sh1.length ≤ 8 ∧ sh2.length ≤ 8 ∧ (codes sh1).Nodup ∧ Mod sh1 ∧ Mod sh2 ∧
  ∀ H', Same H H' → ((rc sh1 sh2).1 = 0 → ∀ p, ShT K H' p (rc sh1 sh2).2 → NoD K H' p → Q (.ref p) H') ∧ ∀ k, (rc sh1 sh2).1 = k + 1 → E (.ref (C (k + 1))) none H'
theorem scBR : FnScope ["first", "second", "shape"] ["first", "second"] (defScope sBroad) := ⟨rfl, rfl, rfl, by decide +kernel, rfl, by decide +kernel, by decide +kernel⟩
theorem ok_broad {f fM fK : Addr} {C : Nat → Addr} {fd fdM fdK : FuncData} (F : Fun K "broadcast" "broadcast" sBroad f fd)
    (GM : FnOk P w K mg base (L2.CX P w) 1 fM fdM ["first", "second"] (spMerged K C)) (kM : PySem.W.keepIn K (.ref fM) = true) (bM : Binds K fdM ["first", "second"] []) (gM : mg "merged" = some (.ref fM))
    (GK : FnOk P w K mg base (L2.CX P w) 2 fK fdK ["shape"] (spCheck K C)) (kK : PySem.W.keepIn K (.ref fK) = true) (bK : Binds K fdK ["shape"] []) (gK : mg "check_shape" = some (.ref fK)) :
    FnOk P w K mg base (L2.CX P w) 3 f fd ["first", "second"] (spBroad K C) := by
  refine F.okX scBR (fun vs H Q E h => ?_) (fun cdv A outer s H vs Q E hr h => ?_)
  · obtain ⟨a, b, sh1, sh2, rfl, _⟩ := h
    rfl
  · obtain ⟨a, b, sh1, sh2, rfl, hS1, nd, hS2, l1, l2, hn, m1, m2, q⟩ := h
    have hr1 : Room 1 _ := hr.mono (by decide)
    refine ⟨_, pss_cons (ps_set (i := 2) scBR.nd rfl (.inl rfl) (pe_callS GM hr1 (by rfl) gM kM bM (fun σ => passAt (takes_of rfl rfl rfl rfl) σ) (pa_cons (pv 0) (pa_cons (pv 1) pa_nil))))
      (pss_cons (ps_expr (pe_callS GK hr (by rfl) gK kK bK (fun σ => passAt (takes_of rfl rfl rfl rfl) σ) (pa_cons (pv 2) pa_nil)))
      (pss_one (ps_ret (pv 2)))), ?_⟩
    refine ⟨_, rfl, _, rfl, a, b, sh1, sh2, rfl, hS1, nd, hS2, by omega, by omega, hn, fun e H' s' => ?_, fun ad e H' p s' hS hN => ?_⟩
    · exact (q _ s').2 1 (by rw [rc_none e])
    · have hl := cast_len e
      refine ⟨_, rfl, p, _, rfl, hS, by rw [List.length_append]; omega, cast_mod e m1 m2, fun H2 s2 => ⟨fun e0 => ?_, fun k ek => ?_⟩⟩
      · refine ⟨_, rfl, ?_⟩
        refine (q _ (s'.trans s2)).1 ?_ p ?_ (hN.same s2)
        · rw [rc_some e]
          exact e0
        · rw [rc_some e]
          exact hS.same s2
      · refine (q _ (s'.trans s2)).2 k ?_
        rw [rc_some e]
        exact ek
/-! ### the law's defs -/
theorem scLC : FnScope ["shape", "count", "axis"] ["shape"] (defScope sCount) := ⟨rfl, rfl, rfl, by decide +kernel, rfl, by decide +kernel, by decide +kernel⟩
theorem scLS : FnScope ["shape", "letter", "axis"] ["shape", "letter"] (defScope sSize) := ⟨rfl, rfl, rfl, by decide +kernel, rfl, by decide +kernel, by decide +kernel⟩
def ShL (K : PySem.W.Frag) (H : Hp) (a : Addr) (sh : Sh) : Prop := ∃ ts : List Addr, SqL K H a (ts.map V.ref) ∧ Axes K H ts sh
theorem look_app (a b : Sh) (l : Nat) : look (a ++ b) l = (look a l).or (look b l) := by
  unfold look
  rw [List.find?_append]
  cases a.find? fun p => decide (p.1 = l) <;> rfl
theorem look_hit {sh : Sh} {i l : Nat} {q : Nat × Int} (h0 : look (sh.take i) l = none) (hq : sh[i]? = some q) : look (sh.take (i + 1)) l = if q.1 = l then some q.2 else none := by
  rw [take_snoc hq, look_app, h0, Option.none_or]
  unfold look
  rw [List.find?_cons]
  by_cases e : q.1 = l
  · rw [decide_eq_true e, if_pos e]
    rfl
  · rw [decide_eq_false e, if_neg e]
    rfl
theorem look_all {sh : Sh} {i l : Nat} {z : Int} (h : look (sh.take i) l = some z) : look sh l = some z := by
  have := look_app (sh.take i) (sh.drop i) l
  rw [List.take_append_drop, h] at this
  exact this

def spCountT (K : PySem.W.Frag) : Sp := fun vs H Q _ => ∃ (a : Addr) (sh : Sh), vs = [.ref a] ∧ ShT K H a sh ∧ Mod sh ∧ Q (.int (prod (sizes sh))) H
theorem ok_countT {f : Addr} {fd : FuncData} (F : Fun K "_law_count" "_law_count" sCount f fd) : FnOk P w K mg base CX0 1 f fd ["shape"] (spCountT K) := by
  refine F.ok scLC (fun vs H Q E h => ?_) (fun cdv A outer s H vs Q E hr h => ?_)
  · obtain ⟨a, sh, rfl, _⟩ := h
    rfl
  · obtain ⟨a, sh, rfl, ⟨ts, ha, hx⟩, hf, q⟩ := h
    refine ⟨_, pss_cons (ps_set (i := 1) scLC.nd rfl (.inl rfl) pe_int)
      (pss_cons (ps_for PassesOwn.never rfl (pi_tup (pv 0)) (pg_name (i := 2) scLC.nd rfl (.inl rfl))
        (pss_one (ps_set (i := 1) scLC.nd rfl (.inl rfl) (pe_op op_mul (pv 1) (pe_ix ix_tup (pv 2) pe_int (fun _ _ => rfl))))))
      (pss_one (ps_ret (pv 1)))), ?_⟩
    refine ⟨_, rfl, a, rfl, ⟨_, ha⟩, for_tup (K := K) (a := a) (xs := ts.map V.ref) (fun i σ H' => ∃ (v : Option V), σ = [some (.ref a), some (.int (prod ((sizes sh).take i))), v] ∧ H' = H)
      ⟨none, rfl, rfl⟩ (fun i σ H' _ ⟨_, _, e⟩ => by rw [e]; exact ha) ?_ ?_⟩
    · rintro i x σ H' hi ⟨v, rfl, rfl⟩
      obtain ⟨t, p, rfl, g1, g2, g3⟩ := hx.at hi
      have hp := hf p (List.mem_of_getElem? g2)
      refine ⟨_, rfl, _, rfl, t, _, 1, _, rfl, rfl, g3, rfl, _, _, rfl, rfl, .inr ⟨by omega, by omega⟩, ?_⟩
      refine ⟨some (.ref t), ?_, rfl⟩
      rw [take_snoc (sz_at g2), prod_snoc]
      rfl
    · rintro σ H' ⟨v, rfl, rfl⟩
      refine ⟨_, rfl, ?_⟩
      rw [show (ts.map V.ref).length = (sizes sh).length by rw [List.length_map, hx.1, sizes, List.length_map], List.take_length]
      exact q
def spSizeT (K : PySem.W.Frag) : Sp := fun vs H Q _ => ∃ (a : Addr) (sh : Sh) (l : Nat), vs = [.ref a, .str (one l)] ∧ ShT K H a sh ∧ Q (.int ((look sh l).getD 0)) H
theorem ok_sizeT {f : Addr} {fd : FuncData} (F : Fun K "_law_size" "_law_size" sSize f fd) : FnOk P w K mg base CX0 1 f fd ["shape", "letter"] (spSizeT K) := by
  refine F.ok scLS (fun vs H Q E h => ?_) (fun cdv A outer s H vs Q E hr h => ?_)
  · obtain ⟨a, sh, l, rfl, _⟩ := h
    rfl
  · obtain ⟨a, sh, l, rfl, ⟨ts, ha, hx⟩, q⟩ := h
    refine ⟨_, pss_cons (ps_for PassesOwn.never rfl (pi_tup (pv 0)) (pg_name (i := 2) scLS.nd rfl (.inl rfl))
        (pss_one (ps_if (pt_cmpR op_eq (pe_ix ix_tup (pv 2) pe_int (fun _ _ => rfl)) (pv 1) (nomark _)) (pss_one (ps_ret (pe_ix ix_tup (pv 2) pe_int (fun _ _ => rfl)))) pss_nil)))
      (pss_one (ps_ret pe_int)), ?_⟩
    refine ⟨_, rfl, a, rfl, ⟨_, ha⟩, for_tup (K := K) (a := a) (xs := ts.map V.ref) (fun i σ H' => ∃ (v : Option V), σ = [some (.ref a), some (.str (one l)), v] ∧ H' = H ∧ look (sh.take i) l = none)
      ⟨none, rfl, rfl, rfl⟩ (fun i σ H' _ ⟨_, _, e, _⟩ => by rw [e]; exact ha) ?_ ?_⟩
    · rintro i x σ H' hi ⟨v, rfl, rfl, h0⟩
      obtain ⟨t, p, rfl, g1, g2, g3⟩ := hx.at hi
      have h1 := look_hit h0 g2
      refine ⟨_, rfl, t, _, 0, _, rfl, rfl, g3, rfl, _, rfl, rfl, _, rfl, ?_⟩
      by_cases e : p.1 = l
      · rw [decide_eq_true (show V.str (one p.1) = V.str (one l) by rw [e])]
        refine iteT ⟨_, rfl, t, _, 1, _, rfl, rfl, g3, rfl, ?_⟩
        rw [if_pos e] at h1
        rw [look_all h1] at q
        exact q
      · rw [decide_eq_false (fun z => e (one_inj (V.str.inj z)))]
        refine iteF ⟨_, rfl, rfl, ?_⟩
        rw [h1, if_neg e]
    · rintro σ H' ⟨v, rfl, rfl, h0⟩
      rw [show (ts.map V.ref).length = sh.length by rw [List.length_map, hx.1], List.take_length] at h0
      rw [h0] at q
      exact q

def spCountL (K : PySem.W.Frag) : Sp := fun vs H Q _ => ∃ (a : Addr) (sh : Sh), vs = [.ref a] ∧ ShL K H a sh ∧ Mod sh ∧ Q (.int (prod (sizes sh))) H
theorem ok_countL {f : Addr} {fd : FuncData} (F : Fun K "_law_count" "_law_count" sCount f fd) : FnOk P w K mg base CX0 1 f fd ["shape"] (spCountL K) := by
  refine F.ok scLC (fun vs H Q E h => ?_) (fun cdv A outer s H vs Q E hr h => ?_)
  · obtain ⟨a, sh, rfl, _⟩ := h
    rfl
  · obtain ⟨a, sh, rfl, ⟨ts, ha, hx⟩, hf, q⟩ := h
    refine ⟨_, pss_cons (ps_set (i := 1) scLC.nd rfl (.inl rfl) pe_int)
      (pss_cons (ps_for PassesOwn.never rfl (pi_list (pv 0)) (pg_name (i := 2) scLC.nd rfl (.inl rfl))
        (pss_one (ps_set (i := 1) scLC.nd rfl (.inl rfl) (pe_op op_mul (pv 1) (pe_ix ix_tup (pv 2) pe_int (fun _ _ => rfl))))))
      (pss_one (ps_ret (pv 1)))), ?_⟩
    refine ⟨_, rfl, a, rfl, ⟨_, ha⟩, for_list (K := K) (a := a) (xs := ts.map V.ref) (fun i σ H' => ∃ (v : Option V), σ = [some (.ref a), some (.int (prod ((sizes sh).take i))), v] ∧ H' = H)
      ⟨none, rfl, rfl⟩ (fun i σ H' _ ⟨_, _, e⟩ => by rw [e]; exact ha) ?_ ?_⟩
    · rintro i x σ H' hi ⟨v, rfl, rfl⟩
      obtain ⟨t, p, rfl, g1, g2, g3⟩ := hx.at hi
      have hp := hf p (List.mem_of_getElem? g2)
      refine ⟨_, rfl, _, rfl, t, _, 1, _, rfl, rfl, g3, rfl, _, _, rfl, rfl, .inr ⟨by omega, by omega⟩, ?_⟩
      refine ⟨some (.ref t), ?_, rfl⟩
      rw [take_snoc (sz_at g2), prod_snoc]
      rfl
    · rintro σ H' ⟨v, rfl, rfl⟩
      refine ⟨_, rfl, ?_⟩
      rw [show (ts.map V.ref).length = (sizes sh).length by rw [List.length_map, hx.1, sizes, List.length_map], List.take_length]
      exact q
def spSizeL (K : PySem.W.Frag) : Sp := fun vs H Q _ => ∃ (a : Addr) (sh : Sh) (l : Nat), vs = [.ref a, .str (one l)] ∧ ShL K H a sh ∧ Q (.int ((look sh l).getD 0)) H
theorem ok_sizeL {f : Addr} {fd : FuncData} (F : Fun K "_law_size" "_law_size" sSize f fd) : FnOk P w K mg base CX0 1 f fd ["shape", "letter"] (spSizeL K) := by
  refine F.ok scLS (fun vs H Q E h => ?_) (fun cdv A outer s H vs Q E hr h => ?_)
  · obtain ⟨a, sh, l, rfl, _⟩ := h
    rfl
  · obtain ⟨a, sh, l, rfl, ⟨ts, ha, hx⟩, q⟩ := h
    refine ⟨_, pss_cons (ps_for PassesOwn.never rfl (pi_list (pv 0)) (pg_name (i := 2) scLS.nd rfl (.inl rfl))
        (pss_one (ps_if (pt_cmpR op_eq (pe_ix ix_tup (pv 2) pe_int (fun _ _ => rfl)) (pv 1) (nomark _)) (pss_one (ps_ret (pe_ix ix_tup (pv 2) pe_int (fun _ _ => rfl)))) pss_nil)))
      (pss_one (ps_ret pe_int)), ?_⟩
    refine ⟨_, rfl, a, rfl, ⟨_, ha⟩, for_list (K := K) (a := a) (xs := ts.map V.ref) (fun i σ H' => ∃ (v : Option V), σ = [some (.ref a), some (.str (one l)), v] ∧ H' = H ∧ look (sh.take i) l = none)
      ⟨none, rfl, rfl, rfl⟩ (fun i σ H' _ ⟨_, _, e, _⟩ => by rw [e]; exact ha) ?_ ?_⟩
    · rintro i x σ H' hi ⟨v, rfl, rfl, h0⟩
      obtain ⟨t, p, rfl, g1, g2, g3⟩ := hx.at hi
      have h1 := look_hit h0 g2
      refine ⟨_, rfl, t, _, 0, _, rfl, rfl, g3, rfl, _, rfl, rfl, _, rfl, ?_⟩
      by_cases e : p.1 = l
      · rw [decide_eq_true (show V.str (one p.1) = V.str (one l) by rw [e])]
        refine iteT ⟨_, rfl, t, _, 1, _, rfl, rfl, g3, rfl, ?_⟩
        rw [if_pos e] at h1
        rw [look_all h1] at q
        exact q
      · rw [decide_eq_false (fun z => e (one_inj (V.str.inj z)))]
        refine iteF ⟨_, rfl, rfl, ?_⟩
        rw [h1, if_neg e]
    · rintro σ H' ⟨v, rfl, rfl, h0⟩
      rw [show (ts.map V.ref).length = sh.length by rw [List.length_map, hx.1], List.take_length] at h0
      rw [h0] at q
      exact q

theorem scCA : FnScope ["a", "b", "out", "axis", "size"] ["a", "b"] (defScope sCast) := ⟨rfl, rfl, rfl, by decide +kernel, rfl, by decide +kernel, by decide +kernel⟩
def spCast (K : PySem.W.Frag) : Sp := fun vs H Q _ => ∃ (a b : Addr) (sh1 sh2 : Sh), vs = [.ref a, .ref b] ∧ ShT K H a sh1 ∧ ShT K H b sh2 ∧ Fine sh1 ∧ sh1.length ≤ 8 ∧ sh2.length ≤ 8 ∧
  (cast sh1 sh2 = none → ∀ H', Same H H' → Q .non H') ∧ ∀ ad, cast sh1 sh2 = some ad → ∀ H' p, Same H H' → ShT K H' p (sh1 ++ ad) → NoD K H' p → Q (.ref p) H'
theorem ok_cast {f fS : Addr} {fd fdS : FuncData} (F : Fun K "_law_cast" "_law_cast" sCast f fd) (ml : mg "list" = none) (mt : mg "tuple" = none)
    (GS : FnOk P w K mg base CX0 1 fS fdS ["shape", "letter"] (spSizeT K)) (kS : PySem.W.keepIn K (.ref fS) = true) (bS : Binds K fdS ["shape", "letter"] []) (gS : mg "_law_size" = some (.ref fS)) :
    FnOk P w K mg base CX0 2 f fd ["a", "b"] (spCast K) := by
  refine F.ok scCA (fun vs H Q E h => ?_) (fun cdv A outer s H vs Q E hr h => ?_)
  · obtain ⟨a, b, sh1, sh2, rfl, _⟩ := h
    rfl
  · obtain ⟨a, b, sh1, sh2, rfl, ⟨ts, ha, hx⟩, ⟨ts2, hb, hx2⟩, hfi, l1, l2, qN, qQ⟩ := h
    refine ⟨_, (pss_cons (ps_set (i := 2) scCA.nd rfl (.inl rfl) (pe_callTy call_list_of (by rfl) ml (by decide +kernel) (pa_cons (pv 0) pa_nil)))
      (pss_cons (ps_for PassesOwn.never rfl (pi_tup (pv 1)) (pg_name (i := 3) scCA.nd rfl (.inl rfl)) (pss_cons (ps_set (i := 4) scCA.nd rfl (.inl rfl) (pe_call GS (hr.mono (by decide)) (by rfl) gS kS bS .nil pass0 (pa_cons (pv 0) (pa_cons (pe_ix ix_tup (pv 3) (pe_int) (fun _ _ => rfl)) pa_nil))))
      (pss_one (ps_if (pt_cmpR op_eq (pv 4) (pe_int) (nomark _)) (pss_one (ps_expr (pe_bm PySem.F.plainAttrs_list PySem.F.slot_list_append PySem.F.type_list_append mt_append (pv 2) (pa_cons (pv 3) pa_nil)))) (pss_one (ps_if (pt_cmpR op_ne (pv 4) (pe_ix ix_tup (pv 3) (pe_int) (fun _ _ => rfl)) (nomark _)) (pss_one (ps_ret (pe_non))) pss_nil))))))
      (pss_one (ps_ret (pe_callTy call_tuple_ofF (by rfl) mt (by decide +kernel) (pa_cons (pv 2) pa_nil)))))), ?_⟩
    have hlen : (ts2.map V.ref).length = sh2.length := by rw [List.length_map, hx2.1]
    refine ⟨_, rfl, a, _, rfl, .inr ha, fun p np => ?_⟩
    have s1 := same_upd (o := .lst (ts.map V.ref)) np
    have hp : (upd H p (.lst (ts.map V.ref))) p = some (.lst (ts.map V.ref)) := upd_same
    have hfp := np
    generalize upd H p (.lst (ts.map V.ref)) = H1 at *
    refine ⟨_, rfl, b, rfl, ⟨_, sqT_same hb s1⟩, for_tup (K := K) (a := b) (xs := ts2.map V.ref) (fun i σ H' => ∃ (ad : Sh) (ats : List Addr) (v3 v4 : Option V), σ = [some (.ref a), some (.ref b), some (.ref p), v3, v4] ∧ cast sh1 (sh2.take i) = some ad ∧
        Same H H' ∧ H' p = some (.lst ((ts ++ ats).map V.ref)) ∧ Axes K H' ats ad)
      ⟨[], [], none, none, rfl, rfl, s1, by rw [List.append_nil]; exact hp, Axes.nil⟩ (fun i σ H' _ ⟨_, _, _, _, _, _, e, _⟩ => sqT_same hb e) ?_ ?_⟩
    · clear hp s1
      rintro i x σ H' hi ⟨ad, ats, v3, v4, rfl, hc, s1, hp, hax⟩
      obtain ⟨t, q, rfl, g1, g2, g3⟩ := (hx2.same s1).at hi
      have hc' := cast_snoc sh1 (sh2.take i) q
      rw [← take_snoc g2, hc] at hc'
      have hil : i < sh2.length := (List.getElem?_eq_some_iff.mp g2).1
      have hal : ad.length ≤ 8 := by
        have := cast_len hc
        rw [List.length_take] at this
        omega
      refine ⟨_, rfl, _, rfl, t, _, 0, _, rfl, rfl, g3, rfl, a, sh1, q.1, rfl, ⟨ts, sqT_same ha s1, hx.same s1⟩, ?_⟩
      refine ⟨_, rfl, rfl, _, rfl, ?_⟩
      rw [dec_int]
      cases e : look sh1 q.1 with
      | none =>
        refine iteT ?_
        have hne : ∀ x : Addr, H x ≠ none → x ≠ p := fun x h e => h (by rw [e]; exact hfp)
        refine ⟨_, rfl, .inl ⟨rfl, _, SqL.of hp⟩, _, rfl, p, _, _, rfl, rfl, hp, ?_, ad ++ [q], ats ++ [t], _, _, rfl, ?_, fun x o e => ?_, ?_, ?_⟩
        · rw [List.length_map, List.length_append, hx.1, hax.1]
          exact small1000 (by omega)
        · rw [hc', castStep, Option.bind_some, e]
        · rw [upd_ne (hne x (by rw [e]; exact fun z => nomatch z))]
          exact s1 _ _ e
        · rw [upd_same]
          simp only [List.map_append, List.append_assoc, List.map_cons, List.map_nil]
        · exact (hax.snoc g3).keep (nl_upd hp)
      | some z =>
        have hz := (hfi _ (look_mem e)).1
        rw [show (((some z).getD 0 : Int) == 0) = false from beq_eq_false_iff_ne.mpr (by show z ≠ 0; omega)]
        refine iteF ⟨_, rfl, _, rfl, t, _, 1, _, rfl, rfl, g3, rfl, rfl, _, rfl, ?_⟩
        rw [dec_int]
        by_cases ez : z = q.2
        · rw [show (((some z).getD 0 : Int) == q.2) = true from beq_iff_eq.mpr ez]
          refine iteF ⟨ad, ats, _, _, rfl, ?_, s1, hp, hax⟩
          rw [hc', castStep, Option.bind_some, e]
          dsimp only
          rw [if_pos ez]
        · rw [show (((some z).getD 0 : Int) == q.2) = false from beq_eq_false_iff_ne.mpr ez]
          refine iteT (qN (cast_take (i := i + 1) ?_) _ s1)
          rw [hc', castStep, Option.bind_some, e]
          dsimp only
          rw [if_neg ez]
    · rintro σ H' ⟨ad, ats, v3, v4, rfl, hc, s2, hp2, hax⟩
      rw [hlen, List.take_length] at hc
      refine ⟨_, rfl, p, _, rfl, SqL.of hp2, fun l o nl ho => ?_⟩
      have s3 := same_upd (o := .frz o (.tup ((ts ++ ats).map V.ref))) nl
      exact qQ ad hc _ l (s2.trans s3) ⟨ts ++ ats, .inl (.inr ⟨o, upd_same⟩), (hx.same (s2.trans s3)).append (hax.same s3)⟩ ⟨o, ho, .inl ⟨_, upd_same⟩⟩
end
section
variable {P : Program} {w : World} {K : PySem.W.Frag} {mg : Str → Option Value} {base : Heap}
/-! ### the pieces of result_shapes -/
theorem fit {n : Nat} (h : n ≤ 10000) : n ≤ sizeLine := Nat.le_trans h (by decide)
/-- what comes of a shape: 0 and it, or an error's number -/
def ShEnd (K : PySem.W.Frag) (C : Nat → Addr) (r : Nat × Sh) (Q : VK) (E : XK) (H' : Hp) : Prop := (r.1 = 0 → ∀ p, ShT K H' p r.2 → NoD K H' p → Q (.ref p) H') ∧ ∀ k, r.1 = k + 1 → E (.ref (C (k + 1))) none H'
/-- one axis replaced by others -/
def repl (sh : Sh) (k : Nat) (ax : Sh) : Sh := sh.flatMap fun p => if p.1 = k then ax else [p]
theorem repl_snoc (sh : Sh) (k : Nat) (ax : Sh) (p : Nat × Int) : repl (sh ++ [p]) k ax = repl sh k ax ++ if p.1 = k then ax else [p] := by
  unfold repl
  rw [List.flatMap_append]
  show _ ++ ((if p.1 = k then ax else [p]) ++ []) = _
  rw [List.append_nil]
theorem repl_len : ∀ (sh : Sh) (k : Nat) (ax : Sh), (repl sh k ax).length ≤ sh.length * (ax.length + 1)
  | [], _, _ => Nat.zero_le _
  | p :: sh, k, ax => by
    have ih := repl_len sh k ax
    have e : repl (p :: sh) k ax = (if p.1 = k then ax else [p]) ++ repl sh k ax := rfl
    rw [e, List.length_append, List.length_cons, Nat.succ_mul]
    split
    · omega
    · rw [List.length_singleton]
      omega
theorem take_repl (sh : Sh) (k : Nat) (ax : Sh) (i : Nat) : (repl (sh.take i) k ax).length ≤ sh.length * (ax.length + 1) := by
  refine Nat.le_trans (repl_len _ k ax) (Nat.mul_le_mul_right _ ?_)
  rw [List.length_take]
  exact Nat.min_le_right _ _
theorem scRP : FnScope ["shape", "axis", "axes", "found", "pair"] ["shape", "axis", "axes"] (defScope sreplaced) := ⟨rfl, rfl, rfl, by decide +kernel, rfl, by decide +kernel, by decide +kernel⟩

def spRepl (K : PySem.W.Frag) : Sp := fun vs H Q _ => ∃ (a b : Addr) (sh ax : Sh) (k : Nat), vs = [.ref a, .str (one k), .ref b] ∧ ShT K H a sh ∧ ShT K H b ax ∧ NoD K H b ∧ sh.length ≤ 16 ∧ ax.length ≤ 16 ∧
  ∀ H' p, Same H H' → ShT K H' p (repl sh k ax) → NoD K H' p → Q (.ref p) H'
theorem ok_repl {f : Addr} {fd : FuncData} (F : Fun K "replaced" "replaced" sreplaced f fd) (mt : mg "tuple" = none) : FnOk P w K mg base CX0 1 f fd ["shape", "axis", "axes"] (spRepl K) := by
  refine F.ok scRP (fun vs H Q E h => ?_) (fun cdv A outer s H vs Q E hr h => ?_)
  · obtain ⟨a, b, sh, ax, k, rfl, _⟩ := h
    rfl
  · obtain ⟨a, b, sh, ax, k, rfl, ⟨ts, ha, hx⟩, ⟨ts2, hb, hx2⟩, nb, l1, l2, q⟩ := h
    refine ⟨_, (pss_cons (ps_set (i := 3) scRP.nd rfl (.inl rfl) (pe_lst pa_nil))
      (pss_cons (ps_for PassesOwn.never rfl (pi_tup (pv 0)) (pg_name (i := 4) scRP.nd rfl (.inl rfl)) (pss_one (ps_if (pt_cmpR op_eq (pe_ix ix_tup (pv 4) (pe_int) (fun _ _ => rfl)) (pv 1) (nomark _)) (pss_one (ps_expr (pe_bm PySem.F.plainAttrs_list PySem.F.slot_list_extend PySem.F.type_list_extend mt_extendT (pv 3) (pa_cons (pv 2) pa_nil)))) (pss_one (ps_expr (pe_bm PySem.F.plainAttrs_list PySem.F.slot_list_append PySem.F.type_list_append mt_append (pv 3) (pa_cons (pv 4) pa_nil)))))))
      (pss_one (ps_ret (pe_callTy call_tuple_ofF (by rfl) mt (by decide +kernel) (pa_cons (pv 3) pa_nil)))))), ?_⟩
    have hlen : (ts.map V.ref).length = sh.length := by rw [List.length_map, hx.1]
    refine ⟨Nat.zero_le _, fun p np => ?_⟩
    have s1 := same_upd (o := .lst []) np
    have hp : (upd H p (.lst [])) p = some (.lst []) := upd_same
    have hfp := np
    clear np
    generalize upd H p (.lst []) = H1 at *
    refine ⟨_, rfl, a, rfl, ⟨_, sqT_same ha s1⟩, for_tup (K := K) (a := a) (xs := ts.map V.ref) (fun i σ H' => ∃ (us : List Addr) (v4 : Option V), σ = [some (.ref a), some (.str (one k)), some (.ref b), some (.ref p), v4] ∧
        Same H H' ∧ H' p = some (.lst (us.map V.ref)) ∧ Axes K H' us (repl (sh.take i) k ax))
      ⟨[], none, rfl, s1, hp, Axes.nil⟩ (fun i σ H' _ ⟨_, _, _, e, _⟩ => sqT_same ha e) ?_ ?_⟩
    · clear hp s1
      rintro i x σ H' hi ⟨us, v4, rfl, s1, hp, hax⟩
      obtain ⟨t, q0, rfl, g1, g2, g3⟩ := (hx.same s1).at hi
      have hul : us.length ≤ 16 * 17 := by
        rw [hax.1]
        exact Nat.le_trans (take_repl sh k ax i) (Nat.mul_le_mul l1 (by omega))
      have hne : ∀ x : Addr, H x ≠ none → x ≠ p := fun x h e => h (by rw [e]; exact hfp)
      have hsm : ∀ o, Same H (upd H' p o) := fun o x u e => by
        rw [upd_ne (hne x (by rw [e]; exact fun z => nomatch z))]
        exact s1 _ _ e
      refine ⟨_, rfl, t, _, 0, _, rfl, rfl, g3, rfl, _, rfl, rfl, _, rfl, ?_⟩
      have e1 := repl_snoc (sh.take i) k ax q0
      rw [← take_snoc g2] at e1
      by_cases e : q0.1 = k
      · rw [decide_eq_true (show V.str (one q0.1) = V.str (one k) by rw [e])]
        refine iteT ⟨_, rfl, .inl ⟨rfl, _, SqL.of hp⟩, _, rfl, p, b, _, _, rfl, rfl, hp, sqT_same hb s1, nb.same s1, ?_, us ++ ts2, _, rfl, hsm _, ?_, ?_⟩
        · rw [List.length_map, List.length_map, hx2.1]
          exact fit (by omega)
        · rw [upd_same, List.map_append]
        · rw [e1, if_pos e]
          exact (hax.append (hx2.same s1)).keep (nl_upd hp)
      · rw [decide_eq_false (fun z => e (one_inj (V.str.inj z)))]
        refine iteF ⟨_, rfl, .inl ⟨rfl, _, SqL.of hp⟩, _, rfl, p, _, _, rfl, rfl, hp, ?_, us ++ [t], _, rfl, hsm _, ?_, ?_⟩
        · rw [List.length_map]
          exact small1000 (by omega)
        · rw [upd_same, List.map_append]
          rfl
        · rw [e1, if_neg e]
          exact (hax.snoc g3).keep (nl_upd hp)
    · rintro σ H' ⟨us, v4, rfl, s2, hp2, hax⟩
      rw [hlen, List.take_length] at hax
      refine ⟨_, rfl, p, _, rfl, SqL.of hp2, fun l o nl ho => ?_⟩
      have s3 := same_upd (o := .frz o (.tup (us.map V.ref))) nl
      exact q _ l (s2.trans s3) ⟨us, .inl (.inr ⟨o, upd_same⟩), hax.same s3⟩ ⟨o, ho, .inl ⟨_, upd_same⟩⟩
theorem scSA : FnScope ["shape", "axis", "letter", "size"] ["shape", "axis"] (defScope ssize_along) := ⟨rfl, rfl, rfl, by decide +kernel, rfl, by decide +kernel, by decide +kernel⟩

def spAlong (K : PySem.W.Frag) (C : Nat → Addr) : Sp := fun vs H Q E => ∃ (a : Addr) (sh : Sh) (l : Nat), vs = [.ref a, .str (one l)] ∧ ShT K H a sh ∧ (look sh l = none → E (.ref (C 2)) none H) ∧ ∀ z, look sh l = some z → Q (.int z) H
theorem ok_along {f : Addr} {C : Nat → Addr} {fd : FuncData} (F : Fun K "size_along" "size_along" ssize_along f fd) (R : ErrR K mg "AxisError" (C 2)) : FnOk P w K mg base (L2.CX P w) 1 f fd ["shape", "axis"] (spAlong K C) := by
  refine F.okX scSA (fun vs H Q E h => ?_) (fun cdv A outer s H vs Q E hr h => ?_)
  · obtain ⟨a, sh, l, rfl, _⟩ := h
    rfl
  · obtain ⟨a, sh, l, rfl, ⟨ts, ha, hx⟩, qE, qQ⟩ := h
    refine ⟨_, (pss_cons (ps_for (passes_of rfl) rfl (pi_tup (pv 0)) (pg_tup rfl (pgs_cons (pg_name (i := 2) scSA.nd rfl (.inl rfl)) (pgs_cons (pg_name (i := 3) scSA.nd rfl (.inl rfl)) pgs_nil))) (pss_one (ps_if (pt_cmpR op_eq (pv 2) (pv 1) (nomark _)) (pss_one (ps_ret (pv 3))) pss_nil)))
      (pss_one (ps_raise rfl (takes_of rfl rfl rfl rfl) (SkE.pmk_own1 PySem.F.excBase_ValueError R.x R.g R.k (raises_own R.b R.t) rfl (pe_joined (.cons pe_str (.cons (pe_fmt (pv 1)) .nil))))))), ?_⟩
    refine ⟨_, rfl, a, rfl, ⟨_, ha⟩, for_tup (K := K) (a := a) (xs := ts.map V.ref) (fun i σ H' => ∃ (v2 v3 : Option V), σ = [some (.ref a), some (.str (one l)), v2, v3] ∧ H' = H ∧ look (sh.take i) l = none)
      ⟨none, none, rfl, rfl, rfl⟩ (fun i σ H' _ ⟨_, _, _, e, _⟩ => by rw [e]; exact ha) ?_ ?_⟩
    · rintro i x σ H' hi ⟨v2, v3, rfl, rfl, h0⟩
      obtain ⟨t, p, rfl, g1, g2, g3⟩ := hx.at hi
      have h1 := look_hit h0 g2
      refine ⟨t, _, rfl, g3, rfl, _, _, rfl, _, _, rfl, rfl, ?_⟩
      refine ⟨_, rfl, _, rfl, rfl, _, rfl, ?_⟩
      by_cases e : p.1 = l
      · rw [decide_eq_true (show V.str (one p.1) = V.str (one l) by rw [e])]
        rw [if_pos e] at h1
        exact iteT ⟨_, rfl, qQ _ (look_all h1)⟩
      · rw [decide_eq_false (fun z => e (one_inj (V.str.inj z)))]
        exact iteF ⟨_, _, rfl, rfl, by rw [h1, if_neg e]⟩
    · rintro σ H' ⟨v2, v3, rfl, rfl, h0⟩
      rw [show (ts.map V.ref).length = sh.length by rw [List.length_map, hx.1], List.take_length] at h0
      have m1 : (Str.empty ++ ("there is no axis " : Str)).length = 17 := by decide +kernel
      have m2 : (one l).length = 1 := rfl
      exact ⟨_, rfl, fit (by omega), _, rfl, .inl ⟨_, rfl, fit (by omega), _, rfl, fit (by rw [txt_len]; omega), qE h0⟩⟩
theorem scCF : FnScope ["shape", "letter"] ["shape", "letter"] (defScope s_check_free) := ⟨rfl, rfl, rfl, by decide +kernel, rfl, by decide +kernel, by decide +kernel⟩

def spFree (K : PySem.W.Frag) (C : Nat → Addr) : Sp := fun vs H Q E => ∃ (a : Addr) (sh : Sh) (l : Nat), vs = [.ref a, .str (one l)] ∧ ShT K H a sh ∧ sh.length ≤ 16 ∧ ∀ H', Same H H' → (l ∈ codes sh → E (.ref (C 2)) none H') ∧ (l ∉ codes sh → Q .non H')
theorem ok_free {f fLO : Addr} {C : Nat → Addr} {fd fdLO : FuncData} (F : Fun K "_check_free" "_check_free" s_check_free f fd) (R : ErrR K mg "AxisError" (C 2))
    (GLO : FnOk P w K mg base CX0 1 fLO fdLO ["shape"] (spLettersOf K)) (kLO : PySem.W.keepIn K (.ref fLO) = true) (bLO : Binds K fdLO ["shape"] []) (gLO : mg "letters_of" = some (.ref fLO))
    : FnOk P w K mg base (L2.CX P w) 2 f fd ["shape", "letter"] (spFree K C) := by
  refine F.okX scCF (fun vs H Q E h => ?_) (fun cdv A outer s H vs Q E hr h => ?_)
  · obtain ⟨a, sh, l, rfl, _⟩ := h
    rfl
  · obtain ⟨a, sh, l, rfl, hS, hl, q⟩ := h
    refine ⟨_, (pss_one (ps_if (pt_cmpR op_in_sign (pv 1) (pe_call GLO hr (by rfl) gLO kLO bLO .nil pass0 (pa_cons (pv 0) pa_nil)) rfl) (pss_one (ps_raise rfl (takes_of rfl rfl rfl rfl) (SkE.pmk_own1 PySem.F.excBase_ValueError R.x R.g R.k (raises_own R.b R.t) rfl (pe_joined (.cons pe_str (.cons (pe_fmt (pv 1)) (.cons pe_str .nil))))))) pss_nil)), ?_⟩
    refine ⟨_, rfl, _, rfl, a, sh, rfl, hS, hl, fun H1 s1 => ⟨l, lets sh, rfl, rfl, _, rfl, ?_⟩⟩
    have hq := q _ s1
    have hc : (lets sh).cps.toList = codes sh := rfl
    rw [hc]
    by_cases e : l ∈ codes sh
    · rw [decide_eq_true e]
      have m1 : (Str.empty ++ ("there is an axis " : Str)).length = 17 := by decide +kernel
      have m2 : (one l).length = 1 := rfl
      have m3 : (" already" : Str).length = 8 := by decide +kernel
      exact iteT ⟨_, rfl, fit (by omega), _, rfl, .inl ⟨_, rfl, fit (by omega), _, rfl, fit (by rw [txt_len]; omega), _, rfl, fit (by rw [txt_len, txt_len]; omega), hq.1 e⟩⟩
    · rw [decide_eq_false e]
      exact iteF (hq.2 e)
end
section
variable {P : Program} {w : World} {K : PySem.W.Frag} {mg : Str → Option Value} {base : Heap}
/-! ### the makers of shapes -/
theorem small16 {n : Nat} (h : n ≤ 16) : n ≤ 1000 := by omega
structure Al (P : Program) (w : World) (K : PySem.W.Frag) (mg : Str → Option Value) (base : Heap) (C : Nat → Addr) : Prop where
  sa : ∃ (f : Addr) (fd : FuncData), FnOk P w K mg base (L2.CX P w) 1 f fd ["shape", "axis"] (spAlong K C) ∧ PySem.W.keepIn K (.ref f) = true ∧ Binds K fd ["shape", "axis"] [] ∧ mg "size_along" = some (.ref f)
  rp : ∃ (f : Addr) (fd : FuncData), FnOk P w K mg base CX0 1 f fd ["shape", "axis", "axes"] (spRepl K) ∧ PySem.W.keepIn K (.ref f) = true ∧ Binds K fd ["shape", "axis", "axes"] [] ∧ mg "replaced" = some (.ref f)
  cf : ∃ (f : Addr) (fd : FuncData), FnOk P w K mg base (L2.CX P w) 2 f fd ["shape", "letter"] (spFree K C) ∧ PySem.W.keepIn K (.ref f) = true ∧ Binds K fd ["shape", "letter"] [] ∧ mg "_check_free" = some (.ref f)
  lo : ∃ (f : Addr) (fd : FuncData), FnOk P w K mg base CX0 1 f fd ["shape"] (spLettersOf K) ∧ PySem.W.keepIn K (.ref f) = true ∧ Binds K fd ["shape"] [] ∧ mg "letters_of" = some (.ref f)
  me : ∃ (f : Addr) (fd : FuncData), FnOk P w K mg base (L2.CX P w) 1 f fd ["first", "second"] (spMerged K C) ∧ PySem.W.keepIn K (.ref f) = true ∧ Binds K fd ["first", "second"] [] ∧ mg "merged" = some (.ref f)
  br : ∃ (f : Addr) (fd : FuncData), FnOk P w K mg base (L2.CX P w) 3 f fd ["first", "second"] (spBroad K C) ∧ PySem.W.keepIn K (.ref f) = true ∧ Binds K fd ["first", "second"] [] ∧ mg "broadcast" = some (.ref f)
  ax : ErrR K mg "AxisError" (C 2)
  rg : ErrR K mg "RangeError" (C 3)
/-- one shape, in a list -/
def One (K : PySem.W.Frag) (H : Hp) (ps a : Addr) (sh : Sh) : Prop := SqL K H ps [.ref a] ∧ ShT K H a sh ∧ NoD K H a ∧ sh.length ≤ 4
theorem One.same {H H' : Hp} {ps a : Addr} {sh : Sh} (h : One K H ps a sh) (s : Same H H') : One K H' ps a sh := ⟨sqL_same h.1 s, h.2.1.same s, h.2.2.1.same s, h.2.2.2⟩
def Two (K : PySem.W.Frag) (H : Hp) (ps a b : Addr) (sa sb : Sh) : Prop := SqL K H ps [.ref a, .ref b] ∧ ShT K H a sa ∧ NoD K H a ∧ sa.length ≤ 4 ∧ ShT K H b sb ∧ NoD K H b ∧ sb.length ≤ 4
theorem Two.same {H H' : Hp} {ps a b : Addr} {sa sb : Sh} (h : Two K H ps a b sa sb) (s : Same H H') : Two K H' ps a b sa sb := ⟨sqL_same h.1 s, h.2.1.same s, h.2.2.1.same s, h.2.2.2.1, h.2.2.2.2.1.same s, h.2.2.2.2.2.1.same s, h.2.2.2.2.2.2⟩
/-- a display of one axis; of two; of none -/
theorem disp1 {H : Hp} {t p : Addr} {l : Nat} {z : Int} {o : Obj} (ho : Pln o) (nt : H t = none) (np : (upd H t (.tup [.str (one l), .int z])) p = none) :
    ShT K (upd (upd H t (.tup [.str (one l), .int z])) p (.frz o (.tup [.ref t]))) p [(l, z)] ∧ NoD K (upd (upd H t (.tup [.str (one l), .int z])) p (.frz o (.tup [.ref t]))) p ∧ Same H (upd (upd H t (.tup [.str (one l), .int z])) p (.frz o (.tup [.ref t]))) := by
  have s2 := same_upd (o := .frz o (.tup [.ref t])) np
  refine ⟨⟨[t], .inl (.inr ⟨o, upd_same⟩), rfl, fun i u q a b => ?_⟩, ⟨o, ho, .inl ⟨_, upd_same⟩⟩, (same_upd nt).trans s2⟩
  cases i with
  | zero =>
    cases a
    cases b
    exact SqT.of (s2 _ _ upd_same)
  | succ i => cases a
theorem disp2 {H : Hp} {t t' p : Addr} {l l' : Nat} {z z' : Int} {o : Obj} (ho : Pln o) (nt : H t = none) (nt' : (upd H t (.tup [.str (one l), .int z])) t' = none) (np : (upd (upd H t (.tup [.str (one l), .int z])) t' (.tup [.str (one l'), .int z'])) p = none) :
    ShT K (upd (upd (upd H t (.tup [.str (one l), .int z])) t' (.tup [.str (one l'), .int z'])) p (.frz o (.tup [.ref t, .ref t']))) p [(l, z), (l', z')] ∧ NoD K (upd (upd (upd H t (.tup [.str (one l), .int z])) t' (.tup [.str (one l'), .int z'])) p (.frz o (.tup [.ref t, .ref t']))) p ∧
      Same H (upd (upd (upd H t (.tup [.str (one l), .int z])) t' (.tup [.str (one l'), .int z'])) p (.frz o (.tup [.ref t, .ref t']))) := by
  have s1 := same_upd (o := .tup [.str (one l'), .int z']) nt'
  have s2 := same_upd (o := .frz o (.tup [.ref t, .ref t'])) np
  refine ⟨⟨[t, t'], .inl (.inr ⟨o, upd_same⟩), rfl, fun i u q a b => ?_⟩, ⟨o, ho, .inl ⟨_, upd_same⟩⟩, ((same_upd nt).trans s1).trans s2⟩
  match i, a, b with
  | 0, a, b =>
    cases a
    cases b
    exact SqT.of (s2 _ _ (s1 _ _ upd_same))
  | 1, a, b =>
    cases a
    cases b
    exact SqT.of (s2 _ _ upd_same)
theorem disp0 {H : Hp} {p : Addr} {o : Obj} (ho : Pln o) (np : H p = none) : ShT K (upd H p (.frz o (.tup []))) p [] ∧ NoD K (upd H p (.frz o (.tup []))) p ∧ Same H (upd H p (.frz o (.tup []))) :=
  ⟨⟨[], .inl (.inr ⟨o, upd_same⟩), Axes.nil⟩, ⟨o, ho, .inl ⟨_, upd_same⟩⟩, same_upd np⟩
def spOwn (K : PySem.W.Frag) : Sp := fun vs H Q _ => ∃ (pi ps : Addr) (v : V) (rest : List V), vs = [.ref pi, .ref ps] ∧ SqT K H pi (v :: rest) ∧ Q v H
theorem scOwn : FnScope ["info", "shapes"] ["info", "shapes"] (defScope s_own_shape) := ⟨rfl, rfl, rfl, by decide +kernel, rfl, by decide +kernel, by decide +kernel⟩

theorem ok_own {f : Addr} {fd : FuncData} (F : Fun K "_own_shape" "_own_shape" s_own_shape f fd) : FnOk P w K mg base (L2.CX P w) 1 f fd ["info", "shapes"] (spOwn K) := by
  refine F.okX scOwn (fun vs H Q E h => ?_) (fun cdv A outer s H vs Q E hr h => ?_)
  · obtain ⟨pi, ps, v, rest, rfl, _⟩ := h
    rfl
  · obtain ⟨pi, ps, v, rest, rfl, hi, q⟩ := h
    refine ⟨_, (pss_one (ps_ret (pe_ix ix_tup (pv 0) pe_int (fun _ _ => rfl)))), ?_⟩
    exact ⟨_, rfl, pi, _, (0 : Nat), _, rfl, rfl, hi, atI_nat (j := 0) rfl, q⟩
def redR (sh : Sh) (l : Nat) : Nat × Sh := match look sh l with | none => (2, []) | some _ => (0, repl sh l [])
def spRed (K : PySem.W.Frag) (C : Nat → Addr) : Sp := fun vs H Q E => ∃ (pi ps a : Addr) (sh : Sh) (l : Nat) (rest : List V), vs = [.ref pi, .ref ps] ∧ SqT K H pi (.str (one l) :: rest) ∧ One K H ps a sh ∧ ∀ H', Same H H' → ShEnd K C (redR sh l) Q E H'
theorem scRed : FnScope ["info", "shapes"] ["info", "shapes"] (defScope s_reduced_shape) := ⟨rfl, rfl, rfl, by decide +kernel, rfl, by decide +kernel, by decide +kernel⟩

theorem ok_red {f : Addr} {C : Nat → Addr} {fd : FuncData} (F : Fun K "_reduced_shape" "_reduced_shape" s_reduced_shape f fd) (A0 : Al P w K mg base C) : FnOk P w K mg base (L2.CX P w) 2 f fd ["info", "shapes"] (spRed K C) := by
  obtain ⟨fSA, dSA, GSA, kSA, bSA, gSA⟩ := A0.sa
  obtain ⟨fRP, dRP, GRP, kRP, bRP, gRP⟩ := A0.rp
  refine F.okX scRed (fun vs H Q E h => ?_) (fun cdv A outer s H vs Q E hr h => ?_)
  · obtain ⟨pi, ps, a, sh, l, rest, rfl, _⟩ := h
    rfl
  · obtain ⟨pi, ps, a, sh, l, rest, rfl, hi, ⟨hs, hS, hN, hl⟩, q⟩ := h
    refine ⟨_, (pss_cons (ps_expr (pe_callS GSA hr (by rfl) gSA kSA bSA (fun σ => passAt (takes_of rfl rfl rfl rfl) σ) (pa_cons (pe_ix ix_list (pv 1) (pe_int) (fun _ _ => rfl)) (pa_cons (pe_ix ix_tup (pv 0) pe_int (fun _ _ => rfl)) pa_nil))))
      (pss_one (ps_ret (pe_call GRP hr (by rfl) gRP kRP bRP .nil pass0 (pa_cons (pe_ix ix_list (pv 1) (pe_int) (fun _ _ => rfl)) (pa_cons (pe_ix ix_tup (pv 0) pe_int (fun _ _ => rfl)) (pa_cons (pe_tupF pa_nil) pa_nil))))))), ?_⟩
    refine ⟨_, rfl, ps, _, (0 : Nat), _, rfl, rfl, hs, atI_nat (j := 0) rfl, _, rfl, pi, _, (0 : Nat), _, rfl, rfl, hi, atI_nat (j := 0) rfl, a, sh, l, rfl, hS, fun e => (q _ (Same.refl _)).2 1 (by unfold redR; rw [e]), fun z e => ?_⟩
    refine ⟨_, rfl, ps, _, (0 : Nat), _, rfl, rfl, hs, atI_nat (j := 0) rfl, _, rfl, pi, _, (0 : Nat), _, rfl, rfl, hi, atI_nat (j := 0) rfl, Nat.zero_le _, fun p o np ho => ?_⟩
    obtain ⟨d1, d2, d3⟩ := disp0 (K := K) ho np
    refine ⟨a, p, sh, [], l, rfl, hS.same d3, d1, d2, by omega, by decide, fun H' p' s' hR hN' => (q _ (d3.trans s')).1 (by unfold redR; rw [e]) p' ?_ hN'⟩
    unfold redR
    rw [e]
    exact hR
def renR (sh : Sh) (l n : Nat) : Nat × Sh := match look sh l with | none => (2, []) | some z => if n ∈ codes sh then (2, []) else (0, repl sh l [(n, z)])
def spRen (K : PySem.W.Frag) (C : Nat → Addr) : Sp := fun vs H Q E => ∃ (pi ps a : Addr) (sh : Sh) (l n : Nat), vs = [.ref pi, .ref ps] ∧ SqT K H pi [.str (one l), .str (one n)] ∧ One K H ps a sh ∧ ∀ H', Same H H' → ShEnd K C (renR sh l n) Q E H'
theorem scRen : FnScope ["info", "shapes", "axis", "new", "size"] ["info", "shapes"] (defScope s_rename_shape) := ⟨rfl, rfl, rfl, by decide +kernel, rfl, by decide +kernel, by decide +kernel⟩

theorem ok_ren {f : Addr} {C : Nat → Addr} {fd : FuncData} (F : Fun K "_rename_shape" "_rename_shape" s_rename_shape f fd) (A0 : Al P w K mg base C) : FnOk P w K mg base (L2.CX P w) 3 f fd ["info", "shapes"] (spRen K C) := by
  obtain ⟨fSA, dSA, GSA, kSA, bSA, gSA⟩ := A0.sa
  obtain ⟨fRP, dRP, GRP, kRP, bRP, gRP⟩ := A0.rp
  obtain ⟨fCF, dCF, GCF, kCF, bCF, gCF⟩ := A0.cf
  refine F.okX scRen (fun vs H Q E h => ?_) (fun cdv A outer s H vs Q E hr h => ?_)
  · obtain ⟨pi, ps, a, sh, l, n, rfl, _⟩ := h
    rfl
  · obtain ⟨pi, ps, a, sh, l, n, rfl, hi, hO, q⟩ := h
    obtain ⟨hs, hS, hN, hl⟩ := id hO
    have hr1 : Room 1 _ := hr.mono (by decide)
    refine ⟨_, (pss_cons (ps_asg (pv 0) (pg_tup rfl (pgs_cons (pg_name (i := 2) scRen.nd rfl (.inl rfl)) (pgs_cons (pg_name (i := 3) scRen.nd rfl (.inl rfl)) pgs_nil))))
      (pss_cons (ps_set (i := 4) scRen.nd rfl (.inl rfl) (pe_callS GSA hr1 (by rfl) gSA kSA bSA (fun σ => passAt (takes_of rfl rfl rfl rfl) σ) (pa_cons (pe_ix ix_list (pv 1) (pe_int) (fun _ _ => rfl)) (pa_cons (pv 2) pa_nil))))
      (pss_cons (ps_expr (pe_callS GCF hr (by rfl) gCF kCF bCF (fun σ => passAt (takes_of rfl rfl rfl rfl) σ) (pa_cons (pe_ix ix_list (pv 1) (pe_int) (fun _ _ => rfl)) (pa_cons (pv 3) pa_nil))))
      (pss_one (ps_ret (pe_call GRP hr1 (by rfl) gRP kRP bRP .nil pass0 (pa_cons (pe_ix ix_list (pv 1) (pe_int) (fun _ _ => rfl)) (pa_cons (pv 2) (pa_cons (pe_tupF (pa_cons (pe_tup (pa_cons (pv 3) (pa_cons (pv 4) pa_nil))) pa_nil)) pa_nil))))))))), ?_⟩
    refine ⟨_, rfl, pi, _, rfl, hi, rfl, _, _, rfl, _, _, rfl, rfl, ?_⟩
    unfold renR at q
    refine ⟨_, rfl, ps, _, (0 : Nat), _, rfl, rfl, hs, atI_nat (j := 0) rfl, _, rfl, a, sh, l, rfl, hS, fun e => (q _ (Same.refl _)).2 1 (by rw [e]), fun z e => ?_⟩
    rw [e] at q
    refine ⟨_, rfl, ps, _, (0 : Nat), _, rfl, rfl, hs, atI_nat (j := 0) rfl, _, rfl, a, sh, n, rfl, hS, by omega, fun H1 s1 => ⟨fun e2 => (q _ s1).2 1 (by dsimp only; rw [if_pos e2]), fun e2 => ?_⟩⟩
    dsimp only at q
    rw [if_neg e2] at q
    have t2 : 2 ≤ sizeLine := by decide
    have t1 : 1 ≤ sizeLine := by decide
    refine ⟨_, rfl, ps, _, (0 : Nat), _, rfl, rfl, sqL_same hs s1, atI_nat (j := 0) rfl, _, rfl, _, rfl, _, rfl, t2, fun t nt => ⟨t1, fun p o np ho => ?_⟩⟩
    obtain ⟨d1, d2, d3⟩ := disp1 (K := K) ho nt np
    exact ⟨a, p, sh, _, l, rfl, (hS.same s1).same d3, d1, d2, by omega, (by show _ + 1 ≤ 16; decide), fun H' p' s' hR hN' => (q _ ((s1.trans d3).trans s')).1 rfl p' hR hN'⟩
def spreadR (sh : Sh) (l : Nat) (z : Int) : Nat × Sh := if l ∈ codes sh then (2, []) else (0, sh ++ [(l, z)])
def spSpread (K : PySem.W.Frag) (C : Nat → Addr) : Sp := fun vs H Q E => ∃ (pi ps a : Addr) (sh : Sh) (l : Nat) (z : Int), vs = [.ref pi, .ref ps] ∧ SqT K H pi [.str (one l), .int z] ∧ One K H ps a sh ∧ ∀ H', Same H H' → ShEnd K C (spreadR sh l z) Q E H'
theorem scSpread : FnScope ["info", "shapes", "axis", "size"] ["info", "shapes"] (defScope s_spread_shape) := ⟨rfl, rfl, rfl, by decide +kernel, rfl, by decide +kernel, by decide +kernel⟩

theorem ok_spread {f : Addr} {C : Nat → Addr} {fd : FuncData} (F : Fun K "_spread_shape" "_spread_shape" s_spread_shape f fd) (A0 : Al P w K mg base C) : FnOk P w K mg base (L2.CX P w) 3 f fd ["info", "shapes"] (spSpread K C) := by
  obtain ⟨fCF, dCF, GCF, kCF, bCF, gCF⟩ := A0.cf
  refine F.okX scSpread (fun vs H Q E h => ?_) (fun cdv A outer s H vs Q E hr h => ?_)
  · obtain ⟨pi, ps, a, sh, l, z, rfl, _⟩ := h
    rfl
  · obtain ⟨pi, ps, a, sh, l, z, rfl, hi, hO, q⟩ := h
    obtain ⟨hs, hS, hN, hl⟩ := id hO
    refine ⟨_, (pss_cons (ps_asg (pv 0) (pg_tup rfl (pgs_cons (pg_name (i := 2) scSpread.nd rfl (.inl rfl)) (pgs_cons (pg_name (i := 3) scSpread.nd rfl (.inl rfl)) pgs_nil))))
      (pss_cons (ps_expr (pe_callS GCF hr (by rfl) gCF kCF bCF (fun σ => passAt (takes_of rfl rfl rfl rfl) σ) (pa_cons (pe_ix ix_list (pv 1) (pe_int) (fun _ _ => rfl)) (pa_cons (pv 2) pa_nil))))
      (pss_one (ps_ret (pe_op op_catF (pe_ix ix_list (pv 1) (pe_int) (fun _ _ => rfl)) (pe_tupF (pa_cons (pe_tup (pa_cons (pv 2) (pa_cons (pv 3) pa_nil))) pa_nil))))))), ?_⟩
    unfold spreadR at q
    refine ⟨_, rfl, pi, _, rfl, hi, rfl, _, _, rfl, _, _, rfl, rfl, ?_⟩
    refine ⟨_, rfl, ps, _, (0 : Nat), _, rfl, rfl, hs, atI_nat (j := 0) rfl, _, rfl, a, sh, l, rfl, hS, by omega, fun H1 s1 => ⟨fun e2 => (q _ s1).2 1 (by rw [if_pos e2]), fun e2 => ?_⟩⟩
    rw [if_neg e2] at q
    have t2 : 2 ≤ sizeLine := by decide
    have t1 : 1 ≤ sizeLine := by decide
    refine ⟨_, rfl, ps, _, (0 : Nat), _, rfl, rfl, sqL_same hs s1, atI_nat (j := 0) rfl, _, rfl, _, rfl, t2, fun t nt => ⟨t1, fun p o np ho => ?_⟩⟩
    obtain ⟨d1, d2, d3⟩ := disp1 (K := K) ho nt np
    have s3 := s1.trans d3
    obtain ⟨ts, ha, hx⟩ := hS.same s3
    obtain ⟨ts2, hb, hx2⟩ := d1
    have e1 : (ts.map V.ref).length = sh.length := by rw [List.length_map, hx.1]
    have e3 : (ts2.map V.ref).length = 1 := by rw [List.length_map, hx2.1]; rfl
    refine ⟨a, p, _, _, rfl, rfl, ha, hb, fit (by omega), fun e => ?_, fun e e5 => ?_, fun e e5 p2 o2 np2 ho2 => ?_⟩
    · have : sh = [] := List.length_eq_zero_iff.mp (by rw [← e1, e]; rfl)
      subst this
      exact (q _ s3).1 rfl p ⟨ts2, hb, hx2⟩ d2
    · rw [e5] at e3
      cases e3
    · have s4 := same_upd (o := .frz o2 (.tup (ts.map V.ref ++ ts2.map V.ref))) np2
      refine (q _ (s3.trans s4)).1 rfl p2 ⟨ts ++ ts2, ?_, (hx.same s4).append (hx2.same s4)⟩ ⟨o2, ho2, .inl ⟨_, upd_same⟩⟩
      rw [List.map_append]
      exact .inl (.inr ⟨o2, upd_same⟩)
def cutR (sh : Sh) (l : Nat) (st ct : Int) : Nat × Sh := match look sh l with | none => (2, []) | some z => if z < st + ct then (3, []) else (0, repl sh l [(l, ct)])
def spCut (K : PySem.W.Frag) (C : Nat → Addr) : Sp := fun vs H Q E => ∃ (pi ps a : Addr) (sh : Sh) (l : Nat) (st ct : Int), vs = [.ref pi, .ref ps] ∧ SqT K H pi [.str (one l), .int st, .int ct] ∧ One K H ps a sh ∧ ∀ H', Same H H' → ShEnd K C (cutR sh l st ct) Q E H'
theorem scCut : FnScope ["info", "shapes", "axis", "start", "count"] ["info", "shapes"] (defScope s_cut_shape) := ⟨rfl, rfl, rfl, by decide +kernel, rfl, by decide +kernel, by decide +kernel⟩

theorem ok_cut {f : Addr} {C : Nat → Addr} {fd : FuncData} (F : Fun K "_cut_shape" "_cut_shape" s_cut_shape f fd) (A0 : Al P w K mg base C) : FnOk P w K mg base (L2.CX P w) 2 f fd ["info", "shapes"] (spCut K C) := by
  obtain ⟨fSA, dSA, GSA, kSA, bSA, gSA⟩ := A0.sa
  obtain ⟨fRP, dRP, GRP, kRP, bRP, gRP⟩ := A0.rp
  refine F.okX scCut (fun vs H Q E h => ?_) (fun cdv A outer s H vs Q E hr h => ?_)
  · obtain ⟨pi, ps, a, sh, l, st, ct, rfl, _⟩ := h
    rfl
  · obtain ⟨pi, ps, a, sh, l, st, ct, rfl, hi, hO, q⟩ := h
    obtain ⟨hs, hS, hN, hl⟩ := id hO
    refine ⟨_, (pss_cons (ps_asg (pv 0) (pg_tup rfl (pgs_cons (pg_name (i := 2) scCut.nd rfl (.inl rfl)) (pgs_cons (pg_name (i := 3) scCut.nd rfl (.inl rfl)) (pgs_cons (pg_name (i := 4) scCut.nd rfl (.inl rfl)) pgs_nil)))))
      (pss_cons (ps_if (pt_cmpR op_gt (pe_op op_add (pv 3) (pv 4)) (pe_callS GSA hr (by rfl) gSA kSA bSA (fun σ => passAt (takes_of rfl rfl rfl rfl) σ) (pa_cons (pe_ix ix_list (pv 1) (pe_int) (fun _ _ => rfl)) (pa_cons (pv 2) pa_nil))) (nomark _)) (pss_one (ps_raise rfl (takes_of rfl rfl rfl rfl) (pmk_own PySem.F.excBase_ValueError A0.rg.x A0.rg.g A0.rg.k (raises_own A0.rg.b A0.rg.t) rfl))) pss_nil)
      (pss_one (ps_ret (pe_call GRP hr (by rfl) gRP kRP bRP .nil pass0 (pa_cons (pe_ix ix_list (pv 1) (pe_int) (fun _ _ => rfl)) (pa_cons (pv 2) (pa_cons (pe_tupF (pa_cons (pe_tup (pa_cons (pv 2) (pa_cons (pv 4) pa_nil))) pa_nil)) pa_nil)))))))), ?_⟩
    refine ⟨_, rfl, pi, _, rfl, hi, rfl, _, _, rfl, _, _, rfl, _, _, rfl, rfl, ?_⟩
    unfold cutR at q
    refine ⟨_, rfl, _, rfl, _, _, rfl, rfl, _, rfl, ps, _, (0 : Nat), _, rfl, rfl, hs, atI_nat (j := 0) rfl, _, rfl, a, sh, l, rfl, hS, fun e => (q _ (Same.refl _)).2 1 (by rw [e]), fun z e => ?_⟩
    rw [e] at q
    dsimp only at q
    refine ⟨_, _, rfl, rfl, _, rfl, ite2 (fun e2 => (q _ (Same.refl _)).2 2 (by rw [if_pos (of_decide_eq_true e2)])) (fun e2 => ?_)⟩
    rw [if_neg (fun x => e2 (decide_eq_true x))] at q
    have t2 : 2 ≤ sizeLine := by decide
    have t1 : 1 ≤ sizeLine := by decide
    refine ⟨_, rfl, ps, _, (0 : Nat), _, rfl, rfl, hs, atI_nat (j := 0) rfl, _, rfl, _, rfl, _, rfl, t2, fun t nt => ⟨t1, fun p o np ho => ?_⟩⟩
    obtain ⟨d1, d2, d3⟩ := disp1 (K := K) ho nt np
    exact ⟨a, p, sh, _, l, rfl, hS.same d3, d1, d2, by omega, (by show _ + 1 ≤ 16; decide), fun H' p' s' hR hN' => (q _ (d3.trans s')).1 rfl p' hR hN'⟩
def padR (sh : Sh) (l : Nat) (b a : Int) : Nat × Sh := match look sh l with | none => (2, []) | some z => (0, repl sh l [(l, b + z + a)])
def spPad (K : PySem.W.Frag) (C : Nat → Addr) : Sp := fun vs H Q E => ∃ (pi ps a : Addr) (sh : Sh) (l : Nat) (st ct : Int), vs = [.ref pi, .ref ps] ∧ SqT K H pi [.str (one l), .int st, .int ct] ∧ One K H ps a sh ∧ ∀ H', Same H H' → ShEnd K C (padR sh l st ct) Q E H'
theorem scPad : FnScope ["info", "shapes", "axis", "before", "after", "size"] ["info", "shapes"] (defScope s_pad_shape) := ⟨rfl, rfl, rfl, by decide +kernel, rfl, by decide +kernel, by decide +kernel⟩

theorem ok_pad {f : Addr} {C : Nat → Addr} {fd : FuncData} (F : Fun K "_pad_shape" "_pad_shape" s_pad_shape f fd) (A0 : Al P w K mg base C) : FnOk P w K mg base (L2.CX P w) 2 f fd ["info", "shapes"] (spPad K C) := by
  obtain ⟨fSA, dSA, GSA, kSA, bSA, gSA⟩ := A0.sa
  obtain ⟨fRP, dRP, GRP, kRP, bRP, gRP⟩ := A0.rp
  refine F.okX scPad (fun vs H Q E h => ?_) (fun cdv A outer s H vs Q E hr h => ?_)
  · obtain ⟨pi, ps, a, sh, l, st, ct, rfl, _⟩ := h
    rfl
  · obtain ⟨pi, ps, a, sh, l, st, ct, rfl, hi, hO, q⟩ := h
    obtain ⟨hs, hS, hN, hl⟩ := id hO
    refine ⟨_, (pss_cons (ps_asg (pv 0) (pg_tup rfl (pgs_cons (pg_name (i := 2) scPad.nd rfl (.inl rfl)) (pgs_cons (pg_name (i := 3) scPad.nd rfl (.inl rfl)) (pgs_cons (pg_name (i := 4) scPad.nd rfl (.inl rfl)) pgs_nil)))))
      (pss_cons (ps_set (i := 5) scPad.nd rfl (.inl rfl) (pe_callS GSA hr (by rfl) gSA kSA bSA (fun σ => passAt (takes_of rfl rfl rfl rfl) σ) (pa_cons (pe_ix ix_list (pv 1) (pe_int) (fun _ _ => rfl)) (pa_cons (pv 2) pa_nil))))
      (pss_one (ps_ret (pe_call GRP hr (by rfl) gRP kRP bRP .nil pass0 (pa_cons (pe_ix ix_list (pv 1) (pe_int) (fun _ _ => rfl)) (pa_cons (pv 2) (pa_cons (pe_tupF (pa_cons (pe_tup (pa_cons (pv 2) (pa_cons (pe_op op_add (pe_op op_add (pv 3) (pv 5)) (pv 4)) pa_nil))) pa_nil)) pa_nil)))))))), ?_⟩
    refine ⟨_, rfl, pi, _, rfl, hi, rfl, _, _, rfl, _, _, rfl, _, _, rfl, rfl, ?_⟩
    unfold padR at q
    refine ⟨_, rfl, ps, _, (0 : Nat), _, rfl, rfl, hs, atI_nat (j := 0) rfl, _, rfl, a, sh, l, rfl, hS, fun e => (q _ (Same.refl _)).2 1 (by rw [e]), fun z e => ?_⟩
    rw [e] at q
    dsimp only at q
    have t2 : 2 ≤ sizeLine := by decide
    have t1 : 1 ≤ sizeLine := by decide
    refine ⟨_, rfl, ps, _, (0 : Nat), _, rfl, rfl, hs, atI_nat (j := 0) rfl, _, rfl, _, rfl, _, rfl, _, rfl, _, _, rfl, rfl, _, rfl, _, _, rfl, rfl, t2, fun t nt => ⟨t1, fun p o np ho => ?_⟩⟩
    obtain ⟨d1, d2, d3⟩ := disp1 (K := K) ho nt np
    exact ⟨a, p, sh, _, l, rfl, hS.same d3, d1, d2, by omega, (by show _ + 1 ≤ 16; decide), fun H' p' s' hR hN' => (q _ (d3.trans s')).1 rfl p' hR hN'⟩
def winR (sh : Sh) (l n : Nat) (wd st : Int) : Nat × Sh := match look sh l with | none => (2, []) | some z => if n ∈ codes sh then (2, []) else if z < wd then (3, []) else (0, repl sh l [(l, (z - wd) / st + 1), (n, wd)])
def spWin (K : PySem.W.Frag) (C : Nat → Addr) : Sp := fun vs H Q E => ∃ (pi ps a : Addr) (sh : Sh) (l n : Nat) (wd st : Int), vs = [.ref pi, .ref ps] ∧ SqT K H pi [.str (one l), .str (one n), .int wd, .int st] ∧ One K H ps a sh ∧ 1 ≤ st ∧ st ≤ 16 ∧ ∀ H', Same H H' → ShEnd K C (winR sh l n wd st) Q E H'
theorem scWin : FnScope ["info", "shapes", "axis", "new", "width", "stride", "size"] ["info", "shapes"] (defScope s_window_shape) := ⟨rfl, rfl, rfl, by decide +kernel, rfl, by decide +kernel, by decide +kernel⟩

theorem ok_win {f : Addr} {C : Nat → Addr} {fd : FuncData} (F : Fun K "_window_shape" "_window_shape" s_window_shape f fd) (A0 : Al P w K mg base C) : FnOk P w K mg base (L2.CX P w) 3 f fd ["info", "shapes"] (spWin K C) := by
  obtain ⟨fSA, dSA, GSA, kSA, bSA, gSA⟩ := A0.sa
  obtain ⟨fRP, dRP, GRP, kRP, bRP, gRP⟩ := A0.rp
  obtain ⟨fCF, dCF, GCF, kCF, bCF, gCF⟩ := A0.cf
  refine F.okX scWin (fun vs H Q E h => ?_) (fun cdv A outer s H vs Q E hr h => ?_)
  · obtain ⟨pi, ps, a, sh, l, n, wd, st, rfl, _⟩ := h
    rfl
  · obtain ⟨pi, ps, a, sh, l, n, wd, st, rfl, hi, hO, st1, st2, q⟩ := h
    obtain ⟨hs, hS, hN, hl⟩ := id hO
    have hr1 : Room 1 _ := hr.mono (by decide)
    refine ⟨_, (pss_cons (ps_asg (pv 0) (pg_tup rfl (pgs_cons (pg_name (i := 2) scWin.nd rfl (.inl rfl)) (pgs_cons (pg_name (i := 3) scWin.nd rfl (.inl rfl)) (pgs_cons (pg_name (i := 4) scWin.nd rfl (.inl rfl)) (pgs_cons (pg_name (i := 5) scWin.nd rfl (.inl rfl)) pgs_nil))))))
      (pss_cons (ps_set (i := 6) scWin.nd rfl (.inl rfl) (pe_callS GSA hr1 (by rfl) gSA kSA bSA (fun σ => passAt (takes_of rfl rfl rfl rfl) σ) (pa_cons (pe_ix ix_list (pv 1) (pe_int) (fun _ _ => rfl)) (pa_cons (pv 2) pa_nil))))
      (pss_cons (ps_expr (pe_callS GCF hr (by rfl) gCF kCF bCF (fun σ => passAt (takes_of rfl rfl rfl rfl) σ) (pa_cons (pe_ix ix_list (pv 1) (pe_int) (fun _ _ => rfl)) (pa_cons (pv 3) pa_nil))))
      (pss_cons (ps_if (pt_cmpR op_gt (pv 4) (pv 6) (nomark _)) (pss_one (ps_raise rfl (takes_of rfl rfl rfl rfl) (pmk_own PySem.F.excBase_ValueError A0.rg.x A0.rg.g A0.rg.k (raises_own A0.rg.b A0.rg.t) rfl))) pss_nil)
      (pss_one (ps_ret (pe_call GRP hr1 (by rfl) gRP kRP bRP .nil pass0 (pa_cons (pe_ix ix_list (pv 1) (pe_int) (fun _ _ => rfl)) (pa_cons (pv 2) (pa_cons (pe_tupF (pa_cons (pe_tup (pa_cons (pv 2) (pa_cons (pe_op op_add (pe_op op_fdiv (pe_op op_sub (pv 6) (pv 4)) (pv 5)) pe_int) pa_nil))) (pa_cons (pe_tup (pa_cons (pv 3) (pa_cons (pv 4) pa_nil))) pa_nil))) pa_nil)))))))))), ?_⟩
    refine ⟨_, rfl, pi, _, rfl, hi, rfl, _, _, rfl, _, _, rfl, _, _, rfl, _, _, rfl, rfl, ?_⟩
    unfold winR at q
    refine ⟨_, rfl, ps, _, (0 : Nat), _, rfl, rfl, hs, atI_nat (j := 0) rfl, _, rfl, a, sh, l, rfl, hS, fun e => (q _ (Same.refl _)).2 1 (by rw [e]), fun z e => ?_⟩
    rw [e] at q
    dsimp only at q
    refine ⟨_, rfl, ps, _, (0 : Nat), _, rfl, rfl, hs, atI_nat (j := 0) rfl, _, rfl, a, sh, n, rfl, hS, by omega, fun H1 s1 => ⟨fun e2 => (q _ s1).2 1 (by rw [if_pos e2]), fun e2 => ?_⟩⟩
    rw [if_neg e2] at q
    refine ⟨_, rfl, _, rfl, _, _, rfl, rfl, _, rfl, ite2 (fun e3 => (q _ s1).2 2 (by rw [if_pos (of_decide_eq_true e3)])) (fun e3 => ?_)⟩
    rw [if_neg (fun x => e3 (decide_eq_true x))] at q
    have t2 : 2 ≤ sizeLine := by decide
    refine ⟨_, rfl, ps, _, (0 : Nat), _, rfl, rfl, sqL_same hs s1, atI_nat (j := 0) rfl, _, rfl, _, rfl, _, rfl, _, rfl, _, _, rfl, rfl, _, rfl, _, _, rfl, rfl, ⟨by omega, by omega⟩, _, _, rfl, rfl, t2, fun t nt => ⟨_, rfl, _, rfl, t2, fun t' nt' => ⟨t2, fun p o np ho => ?_⟩⟩⟩
    obtain ⟨d1, d2, d3⟩ := disp2 (K := K) ho nt nt' np
    exact ⟨a, p, sh, _, l, rfl, (hS.same s1).same d3, d1, d2, by omega, (by show 2 ≤ 16; decide), fun H' p' s' hR hN' => (q _ ((s1.trans d3).trans s')).1 rfl p' hR hN'⟩
end
section
variable {P : Program} {w : World} {K : PySem.W.Frag} {mg : Str → Option Value} {base : Heap}
def foldR (sh : Sh) (l m : Nat) (st sz : Int) : Nat × Sh := match look sh l with | none => (2, []) | some z => match look sh m with | none => (2, []) | some y => if m = l then (2, []) else if sz < st * (z - 1) + y then (3, []) else (0, repl (repl sh m []) l [(l, sz)])
def spFold (K : PySem.W.Frag) (C : Nat → Addr) : Sp := fun vs H Q E => ∃ (pi ps a : Addr) (sh : Sh) (l m : Nat) (st sz : Int), vs = [.ref pi, .ref ps] ∧ SqT K H pi [.str (one l), .str (one m), .int st, .int sz] ∧ One K H ps a sh ∧ Fine sh ∧ 1 ≤ st ∧ st ≤ 16 ∧ ∀ H', Same H H' → ShEnd K C (foldR sh l m st sz) Q E H'
theorem scFold : FnScope ["info", "shapes", "axis", "second", "stride", "size", "many", "width"] ["info", "shapes"] (defScope s_fold_shape) := ⟨rfl, rfl, rfl, by decide +kernel, rfl, by decide +kernel, by decide +kernel⟩

theorem ok_fold {f : Addr} {C : Nat → Addr} {fd : FuncData} (F : Fun K "_fold_shape" "_fold_shape" s_fold_shape f fd) (A0 : Al P w K mg base C) : FnOk P w K mg base (L2.CX P w) 2 f fd ["info", "shapes"] (spFold K C) := by
  obtain ⟨fSA, dSA, GSA, kSA, bSA, gSA⟩ := A0.sa
  obtain ⟨fRP, dRP, GRP, kRP, bRP, gRP⟩ := A0.rp
  refine F.okX scFold (fun vs H Q E h => ?_) (fun cdv A outer s H vs Q E hr h => ?_)
  · obtain ⟨pi, ps, a, sh, l, m, st, sz, rfl, _⟩ := h
    rfl
  · obtain ⟨pi, ps, a, sh, l, m, st, sz, rfl, hi, hO, hf, st1, st2, q⟩ := h
    obtain ⟨hs, hS, hN, hl⟩ := id hO
    refine ⟨_, (pss_cons (ps_asg (pv 0) (pg_tup rfl (pgs_cons (pg_name (i := 2) scFold.nd rfl (.inl rfl)) (pgs_cons (pg_name (i := 3) scFold.nd rfl (.inl rfl)) (pgs_cons (pg_name (i := 4) scFold.nd rfl (.inl rfl)) (pgs_cons (pg_name (i := 5) scFold.nd rfl (.inl rfl)) pgs_nil))))))
      (pss_cons (ps_set (i := 6) scFold.nd rfl (.inl rfl) (pe_callS GSA hr (by rfl) gSA kSA bSA (fun σ => passAt (takes_of rfl rfl rfl rfl) σ) (pa_cons (pe_ix ix_list (pv 1) (pe_int) (fun _ _ => rfl)) (pa_cons (pv 2) pa_nil))))
      (pss_cons (ps_set (i := 7) scFold.nd rfl (.inl rfl) (pe_callS GSA hr (by rfl) gSA kSA bSA (fun σ => passAt (takes_of rfl rfl rfl rfl) σ) (pa_cons (pe_ix ix_list (pv 1) (pe_int) (fun _ _ => rfl)) (pa_cons (pv 3) pa_nil))))
      (pss_cons (ps_if (pt_cmpR op_eq (pv 3) (pv 2) (nomark _)) (pss_one (ps_raise rfl (takes_of rfl rfl rfl rfl) (pmk_own PySem.F.excBase_ValueError A0.ax.x A0.ax.g A0.ax.k (raises_own A0.ax.b A0.ax.t) rfl))) pss_nil)
      (pss_cons (ps_if (pt_cmpR op_gt (pe_op op_add (pe_op op_mul (pv 4) (pe_op op_sub (pv 6) pe_int)) (pv 7)) (pv 5) (nomark _)) (pss_one (ps_raise rfl (takes_of rfl rfl rfl rfl) (pmk_own PySem.F.excBase_ValueError A0.rg.x A0.rg.g A0.rg.k (raises_own A0.rg.b A0.rg.t) rfl))) pss_nil)
      (pss_one (ps_ret (pe_call GRP hr (by rfl) gRP kRP bRP .nil pass0 (pa_cons (pe_call GRP hr (by rfl) gRP kRP bRP .nil pass0 (pa_cons (pe_ix ix_list (pv 1) (pe_int) (fun _ _ => rfl)) (pa_cons (pv 3) (pa_cons (pe_tupF pa_nil) pa_nil)))) (pa_cons (pv 2) (pa_cons (pe_tupF (pa_cons (pe_tup (pa_cons (pv 2) (pa_cons (pv 5) pa_nil))) pa_nil)) pa_nil))))))))))), ?_⟩
    refine ⟨_, rfl, pi, _, rfl, hi, rfl, _, _, rfl, _, _, rfl, _, _, rfl, _, _, rfl, rfl, ?_⟩
    unfold foldR at q
    refine ⟨_, rfl, ps, _, (0 : Nat), _, rfl, rfl, hs, atI_nat (j := 0) rfl, _, rfl, a, sh, l, rfl, hS, fun e => (q _ (Same.refl _)).2 1 (by rw [e]), fun z e => ?_⟩
    have hz := hf _ (look_mem e)
    rw [e] at q
    dsimp only at q hz
    refine ⟨_, rfl, ps, _, (0 : Nat), _, rfl, rfl, hs, atI_nat (j := 0) rfl, _, rfl, a, sh, m, rfl, hS, fun e => (q _ (Same.refl _)).2 1 (by rw [e]), fun y e2 => ?_⟩
    rw [e2] at q
    dsimp only at q
    refine ⟨_, rfl, _, rfl, rfl, _, rfl, ?_⟩
    by_cases e3 : m = l
    · rw [decide_eq_true (show V.str (one m) = V.str (one l) by rw [e3])]
      exact iteT ((q _ (Same.refl _)).2 1 (by rw [if_pos e3]))
    rw [decide_eq_false (fun x => e3 (one_inj (V.str.inj x)))]
    rw [if_neg e3] at q
    refine iteF ⟨_, rfl, _, rfl, _, _, rfl, rfl, _, _, rfl, rfl, .inr ⟨by omega, by omega⟩, _, rfl, _, _, rfl, rfl, _, rfl, _, _, rfl, rfl, _, rfl, ite2 (fun e4 => (q _ (Same.refl _)).2 2 (by rw [if_pos (of_decide_eq_true e4)])) (fun e4 => ?_)⟩
    rw [if_neg (fun x => e4 (decide_eq_true x))] at q
    have t2 : 2 ≤ sizeLine := by decide
    have t1 : 1 ≤ sizeLine := by decide
    refine ⟨_, rfl, ps, _, (0 : Nat), _, rfl, rfl, hs, atI_nat (j := 0) rfl, _, rfl, Nat.zero_le _, fun p0 o0 np0 ho0 => ?_⟩
    obtain ⟨c1, c2, c3⟩ := disp0 (K := K) ho0 np0
    refine ⟨a, p0, sh, [], m, rfl, hS.same c3, c1, c2, by omega, by decide, fun H1 p1 s1 hR1 hN1 => ?_⟩
    have s01 := c3.trans s1
    refine ⟨_, rfl, _, rfl, _, rfl, t2, fun t nt => ⟨t1, fun p o np ho => ?_⟩⟩
    obtain ⟨d1, d2, d3⟩ := disp1 (K := K) ho nt np
    have hl2 := repl_len sh m []
    rw [List.length_nil, Nat.zero_add, Nat.mul_one] at hl2
    exact ⟨p1, p, _, _, l, rfl, hR1.same d3, d1, d2, by omega, (by show _ + 1 ≤ 16; decide), fun H' p' s' hR hN' => (q _ ((s01.trans d3).trans s')).1 rfl p' hR hN'⟩
def anyIn (i a : Sh) : Bool := i.any fun p => decide (p.1 ∈ codes a)
def gathR (a : Sh) (i : Sh) (l : Nat) : Nat × Sh := match look a l with | none => (2, []) | some _ => if anyIn i a = true then (2, []) else (0, repl a l i)
def spGath (K : PySem.W.Frag) (C : Nat → Addr) : Sp := fun vs H Q E => ∃ (pi ps a b : Addr) (sa sb : Sh) (l : Nat) (rest : List V), vs = [.ref pi, .ref ps] ∧ SqT K H pi (.str (one l) :: rest) ∧ Two K H ps a b sa sb ∧ ∀ H', Same H H' → ShEnd K C (gathR sa sb l) Q E H'
theorem scGath : FnScope ["info", "shapes", "a", "i", "letter", "_"] ["info", "shapes"] (defScope s_gather_shape) := ⟨rfl, rfl, rfl, by decide +kernel, rfl, by decide +kernel, by decide +kernel⟩

theorem any_take {i a : Sh} {j : Nat} {p : Nat × Int} (h : i[j]? = some p) (hp : p.1 ∈ codes a) : anyIn i a = true := by
  unfold anyIn
  rw [List.any_eq_true]
  exact ⟨p, List.mem_of_getElem? h, decide_eq_true hp⟩
theorem ok_gath {f : Addr} {C : Nat → Addr} {fd : FuncData} (F : Fun K "_gather_shape" "_gather_shape" s_gather_shape f fd) (A0 : Al P w K mg base C) : FnOk P w K mg base (L2.CX P w) 3 f fd ["info", "shapes"] (spGath K C) := by
  obtain ⟨fSA, dSA, GSA, kSA, bSA, gSA⟩ := A0.sa
  obtain ⟨fRP, dRP, GRP, kRP, bRP, gRP⟩ := A0.rp
  obtain ⟨fCF, dCF, GCF, kCF, bCF, gCF⟩ := A0.cf
  refine F.okX scGath (fun vs H Q E h => ?_) (fun cdv A outer s H vs Q E hr h => ?_)
  · obtain ⟨pi, ps, a, b, sa, sb, l, rest, rfl, _⟩ := h
    rfl
  · obtain ⟨pi, ps, a, b, sa, sb, l, rest, rfl, hi, ⟨hs, hS, hN, hl, hSb, hNb, hlb⟩, q⟩ := h
    have hr1 : Room 1 _ := hr.mono (by decide)
    refine ⟨_, (pss_cons (ps_asg (pv 1) (pg_unl rfl (pgs_cons (pg_name (i := 2) scGath.nd rfl (.inl rfl)) (pgs_cons (pg_name (i := 3) scGath.nd rfl (.inl rfl)) pgs_nil))))
      (pss_cons (ps_expr (pe_callS GSA hr1 (by rfl) gSA kSA bSA (fun σ => passAt (takes_of rfl rfl rfl rfl) σ) (pa_cons (pv 2) (pa_cons (pe_ix ix_tup (pv 0) pe_int (fun _ _ => rfl)) pa_nil))))
      (pss_cons (ps_for (passes_of rfl) rfl (pi_tup (pv 3)) (pg_tup rfl (pgs_cons (pg_name (i := 4) scGath.nd rfl (.inl rfl)) (pgs_cons (pg_name (i := 5) scGath.nd rfl (.inl rfl)) pgs_nil))) (pss_one (ps_expr (pe_callS GCF hr (by rfl) gCF kCF bCF (fun σ => passAt (takes_of rfl rfl rfl rfl) σ) (pa_cons (pv 2) (pa_cons (pv 4) pa_nil))))))
      (pss_one (ps_ret (pe_call GRP hr1 (by rfl) gRP kRP bRP .nil pass0 (pa_cons (pv 2) (pa_cons (pe_ix ix_tup (pv 0) pe_int (fun _ _ => rfl)) (pa_cons (pv 3) pa_nil))))))))), ?_⟩
    refine ⟨_, rfl, ps, _, rfl, hs, rfl, _, _, rfl, _, _, rfl, rfl, ?_⟩
    unfold gathR at q
    refine ⟨_, rfl, _, rfl, pi, _, (0 : Nat), _, rfl, rfl, hi, atI_nat (j := 0) rfl, a, sa, l, rfl, hS, fun e => (q _ (Same.refl _)).2 1 (by rw [e]), fun z e => ?_⟩
    rw [e] at q
    dsimp only at q
    obtain ⟨ts, hb, hx⟩ := id hSb
    refine ⟨_, rfl, b, rfl, ⟨_, hb⟩, for_tup (K := K) (a := b) (xs := ts.map V.ref) (fun i σ H' => ∃ (v4 v5 : Option V), σ = [some (.ref pi), some (.ref ps), some (.ref a), some (.ref b), v4, v5] ∧ Same H H' ∧ ∀ j p, j < i → sb[j]? = some p → p.1 ∉ codes sa)
      ⟨none, none, rfl, Same.refl _, fun j p h => absurd h (Nat.not_lt_zero _)⟩ (fun i σ H' _ ⟨_, _, _, e, _⟩ => sqT_same hb e) ?_ ?_⟩
    · rintro i x σ H' hi ⟨v4, v5, rfl, s1, hno⟩
      obtain ⟨t, p, rfl, g1, g2, g3⟩ := (hx.same s1).at hi
      refine ⟨t, _, rfl, g3, rfl, _, _, rfl, _, _, rfl, rfl, ?_⟩
      refine ⟨_, rfl, _, rfl, a, sa, p.1, rfl, hS.same s1, by omega, fun H2 s2 => ⟨fun e2 => (q _ (s1.trans s2)).2 1 (by rw [if_pos (any_take g2 e2)]), fun e2 => ?_⟩⟩
      refine ⟨_, _, rfl, s1.trans s2, fun j p' hj hp' => ?_⟩
      by_cases ej : j = i
      · subst ej
        rw [g2] at hp'
        cases hp'
        exact e2
      · exact hno j p' (by omega) hp'
    · rintro σ H' ⟨v4, v5, rfl, s1, hno⟩
      rw [show (ts.map V.ref).length = sb.length by rw [List.length_map, hx.1]] at hno
      have hany : anyIn sb sa = false := by
        unfold anyIn
        rw [List.any_eq_false]
        intro p hp hd
        obtain ⟨j, hj⟩ := List.mem_iff_getElem?.mp hp
        exact hno j p (List.getElem?_eq_some_iff.mp hj).1 hj (of_decide_eq_true hd)
      rw [hany, if_neg Bool.false_ne_true] at q
      exact ⟨_, rfl, _, rfl, pi, _, (0 : Nat), _, rfl, rfl, sqT_same hi s1, atI_nat (j := 0) rfl, _, rfl, a, b, sa, sb, l, rfl, hS.same s1, hSb.same s1, hNb.same s1, by omega, by omega, fun H' p' s' hR hN' => (q _ (s1.trans s')).1 rfl p' hR hN'⟩
/-! ### comparing shapes -/
def Low (sh : Sh) : Prop := ∀ p ∈ sh, p.1 < 128
def axD (p : Nat × Int) : PyData := .tuple [.str (one p.1), .int p.2]
def datSh (sh : Sh) : PyData := .tuple (sh.map axD)
theorem one_ok {c : Nat} (h : c < 128) : PyData.strOk (one c) = true := by
  show (#[c].all (· < 0x110000)) = true
  simp
  omega
theorem axD_lay (p : Nat × Int) (h : p.1 < 128) : (axD p).canLay0 = true := by simp [axD, PyData.canLay0, PyData.canLayAll0, one_ok h]
theorem axD_depth (p : Nat × Int) : (axD p).depth = 1 := by simp [axD, PyData.depth, PyData.depthAll]
theorem axDs_lay : ∀ zs : Sh, Low zs → PyData.canLayAll0 (zs.map axD) = true
  | [], _ => by simp [PyData.canLayAll0]
  | z :: zs, h => by simp [PyData.canLayAll0, axD_lay z (h z List.mem_cons_self), axDs_lay zs fun p hp => h p (List.mem_cons_of_mem _ hp)]
theorem axDs_depth : ∀ zs : Sh, PyData.depthAll (zs.map axD) ≤ 2
  | [] => by simp [PyData.depthAll]
  | z :: zs => by
    have h1 := axDs_depth zs
    have h2 := axD_depth z
    simp only [List.map_cons, PyData.depthAll]
    omega
theorem datSh_shaped (sh : Sh) (h : Low sh) : SeqAt.shaped (datSh sh) = true := by
  have h1 := axDs_depth sh
  have h2 : PyData.depth (datSh sh) ≤ 64 := by
    simp only [datSh, PyData.depth]
    omega
  show (PyData.canLay0 (datSh sh) && decide (PyData.depth (datSh sh) ≤ 64)) = true
  rw [Bool.and_eq_true]
  exact ⟨by simp only [datSh, PyData.canLay0]; exact axDs_lay sh h, decide_eq_true h2⟩
theorem eqv_self {d : PyData} (h : SeqAt.shaped d = true) : PyData.eqv d d = true := by
  unfold SeqAt.shaped at h
  rw [Bool.and_eq_true] at h
  exact PySem.SeqAt.eqv_refl d h.1
theorem dpAll_sh {H : Hp} : ∀ {ts : List Addr} {sh : Sh}, Axes K H ts sh → DpAll K H (ts.map V.ref) (sh.map axD)
  | [], [], _ => .nil
  | [], p :: sh, h => nomatch h.1
  | t :: ts, [], h => nomatch h.1
  | t :: ts, p :: sh, h => .cons (.tup (h.2 0 t p rfl rfl) (.cons (.str _) (.cons (.int _) .nil))) (dpAll_sh ⟨Nat.succ.inj h.1, fun i t' p' a b => h.2 (i + 1) t' p' (by simpa using a) (by simpa using b)⟩)
theorem dp_sh {H : Hp} {a : Addr} {sh : Sh} (h : ShT K H a sh) : Dp K H (.ref a) (datSh sh) := by
  obtain ⟨ts, ha, hx⟩ := h
  exact .tup ha (dpAll_sh hx)
theorem axD_eqv (p q : Nat × Int) : PyData.eqv (axD p) (axD q) = decide (p = q) := by
  obtain ⟨a, b⟩ := p
  obtain ⟨c, d⟩ := q
  have e : PyData.eqv (axD (a, b)) (axD (c, d)) = ((one a == one c) && ((b == d) && true)) := by simp only [axD, PyData.eqv, PyData.eqvAll]
  rw [e, Bool.and_true, Bool.eq_iff_iff, Bool.and_eq_true, beq_iff_eq, beq_iff_eq, decide_eq_true_iff]
  constructor
  · rintro ⟨h1, h2⟩
    rw [one_inj h1, h2]
  · intro h
    cases h
    exact ⟨rfl, rfl⟩
theorem axDs_eqv : ∀ s t : Sh, PyData.eqvAll (s.map axD) (t.map axD) = decide (s = t)
  | [], [] => by simp [PyData.eqvAll]
  | [], q :: t => by simp [PyData.eqvAll]
  | p :: s, [] => by simp [PyData.eqvAll]
  | p :: s, q :: t => by
    rw [List.map_cons, List.map_cons, PyData.eqvAll, axD_eqv, axDs_eqv s t, Bool.eq_iff_iff, Bool.and_eq_true, decide_eq_true_iff, decide_eq_true_iff, decide_eq_true_iff, List.cons.injEq]
theorem datSh_eqv (s t : Sh) : PyData.eqv (datSh s) (datSh t) = decide (s = t) := by
  have : PyData.eqv (datSh s) (datSh t) = PyData.eqvAll (s.map axD) (t.map axD) := by simp only [datSh, PyData.eqv]
  rw [this, axDs_eqv]
theorem repl_low {sh ax : Sh} {k : Nat} (h1 : Low sh) (h2 : Low ax) : Low (repl sh k ax) := fun p hp => by
  obtain ⟨q, hq, hp⟩ := List.mem_flatMap.mp hp
  by_cases e : q.1 = k
  · rw [if_pos e] at hp
    exact h2 p hp
  · rw [if_neg e, List.mem_singleton] at hp
    rw [hp]
    exact h1 q hq
theorem lets_eq {s t : Sh} : lets s = lets t ↔ codes s = codes t := by
  constructor
  · intro h
    have : (lets s).cps.toList = (lets t).cps.toList := by rw [h]
    exact this
  · intro h
    unfold lets
    rw [h]
def joinR (a b : Sh) (l : Nat) : Nat × Sh := match look a l with | none => (2, []) | some z => match look b l with | none => (2, []) | some y => if codes a = codes b ∧ repl a l [] = repl b l [] then (0, repl a l [(l, z + y)]) else (2, [])
def spJoin (K : PySem.W.Frag) (C : Nat → Addr) : Sp := fun vs H Q E => ∃ (pi ps a b : Addr) (sa sb : Sh) (l : Nat) (rest : List V), vs = [.ref pi, .ref ps] ∧ SqT K H pi (.str (one l) :: rest) ∧ Two K H ps a b sa sb ∧ Low sa ∧ Low sb ∧ ∀ H', Same H H' → ShEnd K C (joinR sa sb l) Q E H'
theorem scJoin : FnScope ["info", "shapes", "a", "b", "axis", "size"] ["info", "shapes"] (defScope s_join_shape) := ⟨rfl, rfl, rfl, by decide +kernel, rfl, by decide +kernel, by decide +kernel⟩

theorem ok_join {f : Addr} {C : Nat → Addr} {fd : FuncData} (F : Fun K "_join_shape" "_join_shape" s_join_shape f fd) (A0 : Al P w K mg base C) : FnOk P w K mg base (L2.CX P w) 2 f fd ["info", "shapes"] (spJoin K C) := by
  obtain ⟨fSA, dSA, GSA, kSA, bSA, gSA⟩ := A0.sa
  obtain ⟨fRP, dRP, GRP, kRP, bRP, gRP⟩ := A0.rp
  obtain ⟨fLO, dLO, GLO, kLO, bLO, gLO⟩ := A0.lo
  refine F.okX scJoin (fun vs H Q E h => ?_) (fun cdv A outer s H vs Q E hr h => ?_)
  · obtain ⟨pi, ps, a, b, sa, sb, l, rest, rfl, _⟩ := h
    rfl
  · obtain ⟨pi, ps, a, b, sa, sb, l, rest, rfl, hi, ⟨hs, hS, hN, hl, hSb, hNb, hlb⟩, wa, wb, q⟩ := h
    refine ⟨_, (pss_cons (ps_asg (pv 1) (pg_unl rfl (pgs_cons (pg_name (i := 2) scJoin.nd rfl (.inl rfl)) (pgs_cons (pg_name (i := 3) scJoin.nd rfl (.inl rfl)) pgs_nil))))
      (pss_cons (ps_set (i := 4) scJoin.nd rfl (.inl rfl) (pe_ix ix_tup (pv 0) pe_int (fun _ _ => rfl)))
      (pss_cons (ps_set (i := 5) scJoin.nd rfl (.inl rfl) (pe_op op_add (pe_callS GSA hr (by rfl) gSA kSA bSA (fun σ => passAt (takes_of rfl rfl rfl rfl) σ) (pa_cons (pv 2) (pa_cons (pv 4) pa_nil))) (pe_callS GSA hr (by rfl) gSA kSA bSA (fun σ => passAt (takes_of rfl rfl rfl rfl) σ) (pa_cons (pv 3) (pa_cons (pv 4) pa_nil)))))
      (pss_cons (ps_if (PW.pt (pw_or (pt_cmpR op_ne (pe_call GLO hr (by rfl) gLO kLO bLO .nil pass0 (pa_cons (pv 2) pa_nil)) (pe_call GLO hr (by rfl) gLO kLO bLO .nil pass0 (pa_cons (pv 3) pa_nil)) (nomark _)) (pw_or1 (pt_cmpR (op_neD hr.units) (pe_call GRP hr (by rfl) gRP kRP bRP .nil pass0 (pa_cons (pv 2) (pa_cons (pv 4) (pa_cons (pe_tupF pa_nil) pa_nil)))) (pe_call GRP hr (by rfl) gRP kRP bRP .nil pass0 (pa_cons (pv 3) (pa_cons (pv 4) (pa_cons (pe_tupF pa_nil) pa_nil)))) (nomark _))))) (pss_one (ps_raise rfl (takes_of rfl rfl rfl rfl) (pmk_own PySem.F.excBase_ValueError A0.ax.x A0.ax.g A0.ax.k (raises_own A0.ax.b A0.ax.t) rfl))) pss_nil)
      (pss_one (ps_ret (pe_call GRP hr (by rfl) gRP kRP bRP .nil pass0 (pa_cons (pv 2) (pa_cons (pv 4) (pa_cons (pe_tupF (pa_cons (pe_tup (pa_cons (pv 4) (pa_cons (pv 5) pa_nil))) pa_nil)) pa_nil)))))))))), ?_⟩
    refine ⟨_, rfl, ps, _, rfl, hs, rfl, _, _, rfl, _, _, rfl, rfl, ?_⟩
    unfold joinR at q
    refine ⟨_, rfl, pi, _, (0 : Nat), _, rfl, rfl, hi, atI_nat (j := 0) rfl, ?_⟩
    refine ⟨_, rfl, _, rfl, a, sa, l, rfl, hS, fun e => (q _ (Same.refl _)).2 1 (by rw [e]), fun z e => ?_⟩
    rw [e] at q
    dsimp only at q
    refine ⟨_, rfl, _, rfl, b, sb, l, rfl, hSb, fun e => (q _ (Same.refl _)).2 1 (by rw [e]), fun y e2 => ⟨_, _, rfl, rfl, ?_⟩⟩
    rw [e2] at q
    dsimp only at q
    refine ⟨_, rfl, a, sa, rfl, hS, by omega, fun H1 s1 => ⟨_, rfl, b, sb, rfl, hSb.same s1, by omega, fun H2 s2 => ⟨rfl, _, rfl, ?_⟩⟩⟩
    have s12 := s1.trans s2
    by_cases e3 : codes sa = codes sb
    · rw [decide_eq_true (show V.str (lets sa) = V.str (lets sb) by rw [lets_eq.mpr e3])]
      refine iteF ⟨_, rfl, _, rfl, Nat.zero_le _, fun p o np ho => ?_⟩
      obtain ⟨c1, c2, c3⟩ := disp0 (K := K) ho np
      have s3 := s12.trans c3
      refine ⟨a, p, sa, [], l, rfl, hS.same s3, c1, c2, by omega, by decide, fun H4 p4 s4 hR4 hN4 => ?_⟩
      refine ⟨_, rfl, _, rfl, Nat.zero_le _, fun p' o' np' ho' => ?_⟩
      obtain ⟨c1', c2', c3'⟩ := disp0 (K := K) ho' np'
      have s5 := (s3.trans s4).trans c3'
      refine ⟨b, p', sb, [], l, rfl, hSb.same s5, c1', c2', by omega, by decide, fun H6 p6 s6 hR6 hN6 => ?_⟩
      have nl : Low [] := fun p h => nomatch h
      refine ⟨_, _, dp_sh (hR4.same (c3'.trans s6)), dp_sh hR6, datSh_shaped _ (repl_low wa nl), datSh_shaped _ (repl_low wb nl), _, rfl, ?_⟩
      rw [datSh_eqv]
      have s7 := s5.trans s6
      by_cases e4 : repl sa l [] = repl sb l []
      · rw [decide_eq_true e4]
        rw [if_pos ⟨e3, e4⟩] at q
        have t2 : 2 ≤ sizeLine := by decide
        have t1 : 1 ≤ sizeLine := by decide
        refine iteF ⟨_, rfl, _, rfl, _, rfl, _, rfl, t2, fun t nt => ⟨t1, fun p8 o8 np8 ho8 => ?_⟩⟩
        obtain ⟨d1, d2, d3⟩ := disp1 (K := K) ho8 nt np8
        exact ⟨a, p8, sa, _, l, rfl, (hS.same s7).same d3, d1, d2, by omega, (by show _ + 1 ≤ 16; decide), fun H' p' s' hR hN' => (q _ ((s7.trans d3).trans s')).1 rfl p' hR hN'⟩
      · rw [decide_eq_false e4]
        exact iteT ((q _ s7).2 1 (by rw [if_neg (fun h => e4 h.2)]))
    · rw [decide_eq_false (fun h => e3 (lets_eq.mp (V.str.inj h)))]
      exact iteT ((q _ s12).2 1 (by rw [if_neg (fun h => e3 h.1)]))
def dotR (a b : Sh) (l : Nat) : Nat × Sh := match look a l with | none => (2, []) | some _ => match look b l with | none => (2, []) | some _ => match cast a b with | none => (2, []) | some ad => (0, repl (a ++ ad) l [])
def spDot (K : PySem.W.Frag) (C : Nat → Addr) : Sp := fun vs H Q E => ∃ (pi ps a b : Addr) (sa sb : Sh) (l : Nat) (rest : List V), vs = [.ref pi, .ref ps] ∧ SqT K H pi (.str (one l) :: rest) ∧ Two K H ps a b sa sb ∧ (codes sa).Nodup ∧ ∀ H', Same H H' → ShEnd K C (dotR sa sb l) Q E H'
theorem scDot : FnScope ["info", "shapes", "a", "b"] ["info", "shapes"] (defScope s_dot_shape) := ⟨rfl, rfl, rfl, by decide +kernel, rfl, by decide +kernel, by decide +kernel⟩

theorem ok_dot {f : Addr} {C : Nat → Addr} {fd : FuncData} (F : Fun K "_dot_shape" "_dot_shape" s_dot_shape f fd) (A0 : Al P w K mg base C) : FnOk P w K mg base (L2.CX P w) 2 f fd ["info", "shapes"] (spDot K C) := by
  obtain ⟨fSA, dSA, GSA, kSA, bSA, gSA⟩ := A0.sa
  obtain ⟨fRP, dRP, GRP, kRP, bRP, gRP⟩ := A0.rp
  obtain ⟨fME, dME, GME, kME, bME, gME⟩ := A0.me
  refine F.okX scDot (fun vs H Q E h => ?_) (fun cdv A outer s H vs Q E hr h => ?_)
  · obtain ⟨pi, ps, a, b, sa, sb, l, rest, rfl, _⟩ := h
    rfl
  · obtain ⟨pi, ps, a, b, sa, sb, l, rest, rfl, hi, ⟨hs, hS, hN, hl, hSb, hNb, hlb⟩, hn, q⟩ := h
    refine ⟨_, (pss_cons (ps_asg (pv 1) (pg_unl rfl (pgs_cons (pg_name (i := 2) scDot.nd rfl (.inl rfl)) (pgs_cons (pg_name (i := 3) scDot.nd rfl (.inl rfl)) pgs_nil))))
      (pss_cons (ps_expr (pe_callS GSA hr (by rfl) gSA kSA bSA (fun σ => passAt (takes_of rfl rfl rfl rfl) σ) (pa_cons (pv 2) (pa_cons (pe_ix ix_tup (pv 0) pe_int (fun _ _ => rfl)) pa_nil))))
      (pss_cons (ps_expr (pe_callS GSA hr (by rfl) gSA kSA bSA (fun σ => passAt (takes_of rfl rfl rfl rfl) σ) (pa_cons (pv 3) (pa_cons (pe_ix ix_tup (pv 0) pe_int (fun _ _ => rfl)) pa_nil))))
      (pss_one (ps_ret (pe_call GRP hr (by rfl) gRP kRP bRP .nil pass0 (pa_cons (pe_callS GME hr (by rfl) gME kME bME (fun σ => passAt (takes_of rfl rfl rfl rfl) σ) (pa_cons (pv 2) (pa_cons (pv 3) pa_nil))) (pa_cons (pe_ix ix_tup (pv 0) pe_int (fun _ _ => rfl)) (pa_cons (pe_tupF pa_nil) pa_nil))))))))), ?_⟩
    refine ⟨_, rfl, ps, _, rfl, hs, rfl, _, _, rfl, _, _, rfl, rfl, ?_⟩
    unfold dotR at q
    refine ⟨_, rfl, _, rfl, pi, _, (0 : Nat), _, rfl, rfl, hi, atI_nat (j := 0) rfl, a, sa, l, rfl, hS, fun e => (q _ (Same.refl _)).2 1 (by rw [e]), fun z e => ?_⟩
    rw [e] at q
    dsimp only at q
    refine ⟨_, rfl, _, rfl, pi, _, (0 : Nat), _, rfl, rfl, hi, atI_nat (j := 0) rfl, b, sb, l, rfl, hSb, fun e => (q _ (Same.refl _)).2 1 (by rw [e]), fun y e2 => ?_⟩
    rw [e2] at q
    dsimp only at q
    refine ⟨_, rfl, _, rfl, a, b, sa, sb, rfl, hS, hN, hSb, by omega, by omega, hn, fun e3 H' s' => (q _ s').2 1 (by rw [e3]), fun ad e3 H' p s' hR hN' => ?_⟩
    rw [e3] at q
    dsimp only at q
    have hal := cast_len e3
    refine ⟨_, rfl, pi, _, (0 : Nat), _, rfl, rfl, sqT_same hi s', atI_nat (j := 0) rfl, Nat.zero_le _, fun p0 o np ho => ?_⟩
    obtain ⟨c1, c2, c3⟩ := disp0 (K := K) ho np
    exact ⟨p, p0, _, [], l, rfl, hR.same c3, c1, c2, by rw [List.length_append]; omega, by decide, fun H2 p2 s2 hR2 hN2 => (q _ ((s'.trans c3).trans s2)).1 rfl p2 hR2 hN2⟩
/-- several shapes broadcast, one by one -/
def rcAll : Sh → List Sh → Nat × Sh
  | sh, [] => (0, sh)
  | sh, o :: r => match rc sh o with | (0, s) => rcAll s r | (k + 1, _) => (k + 1, [])
end
section
variable {P : Program} {w : World} {K : PySem.W.Frag} {mg : Str → Option Value} {base : Heap}
theorem chk_zero {sh : Sh} : chk sh = 0 ↔ sh.length ≤ 4 ∧ (codes sh).Nodup ∧ Fine sh ∧ prod (sizes sh) ≤ 256 := by
  unfold chk
  by_cases h1 : 4 < sh.length
  · rw [if_pos h1]
    exact ⟨fun z => (by cases z), fun z => absurd z.1 (by omega)⟩
  · rw [if_neg h1]
    by_cases h2 : (codes sh).Nodup
    · rw [if_pos h2]
      by_cases h3 : fineB sh = true
      · rw [if_pos h3]
        have h3' := fineB_iff.mp h3
        by_cases h4 : 256 < prod (sizes sh)
        · rw [if_pos h4]
          exact ⟨fun z => (by cases z), fun z => absurd z.2.2.2 (by omega)⟩
        · rw [if_neg h4]
          exact ⟨fun _ => ⟨by omega, h2, h3', by omega⟩, fun _ => rfl⟩
      · rw [if_neg h3]
        exact ⟨fun z => (by cases z), fun z => absurd (fineB_iff.mpr z.2.2.1) h3⟩
    · rw [if_neg h2]
      exact ⟨fun z => (by cases z), fun z => absurd z.2.1 h2⟩
theorem chk_fine {sh : Sh} (h2 : (codes sh).Nodup) (h3 : Fine sh) : chk sh = if 4 < sh.length then 1 else if 256 < prod (sizes sh) then 4 else 0 := by
  unfold chk
  rw [if_pos h2, if_pos (fineB_iff.mpr h3)]
theorem rc_cases {sh1 sh2 : Sh} (h1 : chk sh1 = 0) (h2 : chk sh2 = 0) : (rc sh1 sh2).1 = 0 ∨ (rc sh1 sh2).1 = 1 ∨ (rc sh1 sh2).1 = 2 ∨ (rc sh1 sh2).1 = 4 := by
  obtain ⟨_, n1, f1, _⟩ := chk_zero.mp h1
  obtain ⟨_, n2, f2, _⟩ := chk_zero.mp h2
  cases e : cast sh1 sh2 with
  | none => rw [rc_none e]; exact .inr (.inr (.inl rfl))
  | some ad =>
    rw [rc_some e]
    show chk (sh1 ++ ad) = 0 ∨ chk (sh1 ++ ad) = 1 ∨ chk (sh1 ++ ad) = 2 ∨ chk (sh1 ++ ad) = 4
    rw [chk_fine (cast_nodup e n1 n2) (cast_fine e f1 f2)]
    split
    · exact .inr (.inl rfl)
    · split
      · exact .inr (.inr (.inr rfl))
      · exact .inl rfl

theorem rc_ok {a b : Sh} (h : (rc a b).1 = 0) : chk (rc a b).2 = 0 := by
  cases e : cast a b with
  | none => rw [rc_none e] at h; cases h
  | some ad =>
    rw [rc_some e] at h ⊢
    exact h
def Many (K : PySem.W.Frag) (H : Hp) (as : List Addr) (shs : List Sh) : Prop := as.length = shs.length ∧ ∀ (i : Nat) (a : Addr) (sh : Sh), as[i]? = some a → shs[i]? = some sh → ShT K H a sh ∧ NoD K H a ∧ chk sh = 0
theorem Many.same {H H' : Hp} {as : List Addr} {shs : List Sh} (h : Many K H as shs) (s : Same H H') : Many K H' as shs := ⟨h.1, fun i a sh h1 h2 => ⟨(h.2 i a sh h1 h2).1.same s, (h.2 i a sh h1 h2).2.1.same s, (h.2 i a sh h1 h2).2.2⟩⟩
def spBc (K : PySem.W.Frag) (C : Nat → Addr) : Sp := fun vs H Q E => ∃ (pi ps a0 : Addr) (as : List Addr) (sh0 : Sh) (shs : List Sh), vs = [.ref pi, .ref ps] ∧ SqL K H ps ((a0 :: as).map V.ref) ∧ Many K H (a0 :: as) (sh0 :: shs) ∧ ∀ H', Same H H' → ShEnd K C (rcAll sh0 shs) Q E H'
theorem scBc : FnScope ["info", "shapes", "shape", "other"] ["info", "shapes"] (defScope s_broadcast_shape) := ⟨rfl, rfl, rfl, by decide +kernel, rfl, by decide +kernel, by decide +kernel⟩

theorem cut_tail (x : V) (xs : List V) : cutV (x :: xs) (some 1) none = xs := by
  show ((x :: xs).drop (HT.sIx (x :: xs).length 0 (some ((1 : Nat) : Int)))).take (HT.sIx (x :: xs).length (x :: xs).length none - HT.sIx (x :: xs).length 0 (some ((1 : Nat) : Int))) = xs
  rw [HT.sIx_nat, HT.sIx_none, Nat.min_eq_left (by simp), List.length_cons, Nat.add_sub_cancel]
  exact List.take_length
theorem ok_bc {f : Addr} {C : Nat → Addr} {fd : FuncData} (F : Fun K "_broadcast_shape" "_broadcast_shape" s_broadcast_shape f fd) (A0 : Al P w K mg base C) : FnOk P w K mg base (L2.CX P w) 4 f fd ["info", "shapes"] (spBc K C) := by
  obtain ⟨fBR, dBR, GBR, kBR, bBR, gBR⟩ := A0.br
  refine F.okX scBc (fun vs H Q E h => ?_) (fun cdv A outer s H vs Q E hr h => ?_)
  · obtain ⟨pi, ps, a0, as, sh0, shs, rfl, _⟩ := h
    rfl
  · obtain ⟨pi, ps, a0, as, sh0, shs, rfl, hs, hM, q⟩ := h
    refine ⟨_, (pss_cons (ps_set (i := 2) scBc.nd rfl (.inl rfl) (pe_ix ix_list (pv 1) (pe_int) (fun _ _ => rfl)))
      (pss_cons (ps_for (passes_of rfl) rfl (pi_list (pe_slice sl_list (pv 1) (po_some pe_int) po_none)) (pg_name (i := 3) scBc.nd rfl (.inl rfl)) (pss_one (ps_set (i := 2) scBc.nd rfl (.inl rfl) (pe_callS GBR hr (by rfl) gBR kBR bBR (fun σ => passAt (takes_of rfl rfl rfl rfl) σ) (pa_cons (pv 2) (pa_cons (pv 3) pa_nil))))))
      (pss_one (ps_ret (pv 2))))), ?_⟩
    refine ⟨_, rfl, ps, _, (0 : Nat), _, rfl, rfl, hs, atI_nat (j := 0) rfl, ?_⟩
    refine ⟨_, rfl, 1, rfl, ps, _, rfl, hs, fun p np => ?_⟩
    have e1 : cutV ((a0 :: as).map V.ref) (some 1) none = as.map V.ref := cut_tail (V.ref a0) (as.map V.ref)
    rw [e1]
    have s1 := same_upd (o := .lst (as.map V.ref)) np
    have hp : (upd H p (.lst (as.map V.ref))) p = some (.lst (as.map V.ref)) := upd_same
    generalize upd H p (.lst (as.map V.ref)) = H1 at *
    obtain ⟨h1, h2, h3⟩ := hM.2 0 a0 sh0 rfl rfl
    refine ⟨p, rfl, ⟨_, SqL.of hp⟩, for_list (K := K) (a := p) (xs := as.map V.ref) (fun i σ H' => ∃ (a' : Addr) (sh' : Sh) (v3 : Option V), σ = [some (.ref pi), some (.ref ps), some (.ref a'), v3] ∧ Same H1 H' ∧ ShT K H' a' sh' ∧ NoD K H' a' ∧ chk sh' = 0 ∧ rcAll sh0 shs = rcAll sh' (shs.drop i))
      ⟨a0, sh0, none, rfl, Same.refl _, h1.same s1, h2.same s1, h3, rfl⟩ (fun i σ H' _ ⟨_, _, _, _, e, _⟩ => SqL.of (e _ _ hp)) ?_ ?_⟩
    · rintro i x σ H' hi ⟨a', sh', v3, rfl, s2, hS, hN, hk, hr'⟩
      rw [List.getElem?_map] at hi
      obtain ⟨b, hb, rfl⟩ := Option.map_eq_some_iff.mp hi
      have hil : i < shs.length := by
        have h4 := (List.getElem?_eq_some_iff.mp hb).1
        have h5 := hM.1
        rw [List.length_cons, List.length_cons] at h5
        omega
      have hsb : shs[i]? = some shs[i] := List.getElem?_eq_getElem hil
      obtain ⟨g1, g2, g3⟩ := hM.2 (i + 1) b shs[i] (by simpa using hb) (by simpa using hsb)
      obtain ⟨k1, k2, k3, _⟩ := chk_zero.mp hk
      obtain ⟨k4, k5, k6, _⟩ := chk_zero.mp g3
      have s12 := s1.trans s2
      rw [drop_at hsb] at hr'
      refine ⟨_, rfl, _, rfl, a', b, sh', shs[i], rfl, hS, hN, g1.same s12, by omega, by omega, k2, k3.mod, k6.mod, fun H3 s3 => ⟨fun e p3 hS3 hN3 => ?_, fun k ek => ?_⟩⟩
      · refine ⟨p3, _, _, rfl, s2.trans s3, hS3, hN3, rc_ok e, ?_⟩
        rw [hr']
        show (match rc sh' shs[i] with | (0, s) => rcAll s (shs.drop (i + 1)) | (k + 1, _) => (k + 1, [])) = _
        cases er : rc sh' shs[i] with
        | mk c sc =>
          rw [er] at e
          have e' : c = 0 := e
          subst e'
          rfl
      · refine (q _ (s12.trans s3)).2 k ?_
        rw [hr']
        show (match rc sh' shs[i] with | (0, s) => rcAll s (shs.drop (i + 1)) | (k + 1, _) => (k + 1, [])).1 = k + 1
        cases er : rc sh' shs[i] with
        | mk c sc =>
          rw [er] at ek
          have e' : c = k + 1 := ek
          subst e'
          rfl
    · rintro σ H' ⟨a', sh', v3, rfl, s2, hS, hN, hk, hr'⟩
      have hl : (as.map V.ref).length = shs.length := by
        have h5 := hM.1
        rw [List.length_cons, List.length_cons] at h5
        rw [List.length_map]
        omega
      rw [hl, List.drop_length] at hr'
      have hq := (q _ (s1.trans s2)).1
      rw [hr'] at hq
      exact ⟨_, rfl, hq rfl a' hS hN⟩
end
/-! ### sorted(text) -/
theorem strs_signs {x : Str} : ∀ {l : List Value} {cs : List Nat}, l.length = cs.length → (∀ (j : Nat) (v : Value), l[j]? = some v → ∃ c u, cs[j]? = some c ∧ v = .str ⟨#[c]⟩ u) → PyProof.Rows.StrsAre l (cs.map one)
  | [], [], _, _ => .nil
  | [], _ :: _, h, _ => nomatch h
  | _ :: _, [], h, _ => nomatch h
  | v :: l, c :: cs, h, q => by
    obtain ⟨c', u, e1, rfl⟩ := q 0 v rfl
    cases e1
    exact .cons _ _ (strs_signs (x := x) (Nat.succ.inj h) fun j v' e => q (j + 1) v' (by simpa using e))
def rSortTxt : List V → Hp → VK → Prop := fun vs H Q => ∃ x : Str, vs = [.str x] ∧ x.length < 64 ∧
  ∀ (ys : List Str) (p : Addr), ys.Perm (x.cps.toList.map one) → PyProof.Rows.sortedS ys = true → H p = none → Q (.ref p) (upd H p (.lst (ys.map V.str)))
theorem cr_sortedTxt {X : Cx} (hcalm : X.calm = true) : CallR X (.builtin "sorted") rSortTxt := by
  intro pins s σ H vs us Q I r h
  obtain ⟨x, rfl, h64, q⟩ := h
  obtain ⟨u, eu, ru⟩ := vals1 r
  subst eu
  obtain ⟨t, rfl⟩ := ru
  refine Calls.call_function_entry PyProof.Rows.kind_sorted PyProof.Rows.plain_sorted PyProof.Rows.entry_sorted (PyProof.Rows.args_sorted1 _) ?_
  unfold Builtin.«sorted»
  refine wpAny_bind (m := PySem.checkCount "sorted" 1 1 _) (wpAny_pure ?_)
  refine wpAny_bind (wpAny_collect_str (show X.A.in1.handled = none from I.ok.hd hcalm) x t (fun s1 acc hk hg hd ho hacc => ?_) (Nat.le_trans (Nat.le_of_lt h64) (by decide)))
  have hal : acc.toList.length = x.cps.toList.length := by rw [Array.length_toList, Array.length_toList]; exact hacc.1
  have hS : PyProof.Rows.StrsAre acc.toList (x.cps.toList.map one) := strs_signs (x := x) hal fun j v e => by
    obtain ⟨c, u, e1, e2⟩ := hacc.2 j v (by rw [← Array.getElem?_toList]; exact e)
    exact ⟨c, u, by rw [Array.getElem?_toList]; exact e1, e2⟩
  obtain ⟨hp1, g1, d1, tk1, os1⟩ := s1
  dsimp only at hk hg hd ho
  subst hg hd ho
  have I1 : Inv X pins σ H { s with heap := hp1, toks := tk1 } := I.kept (t' := tk1) hk
  refine wpAny_bind (wpAny_newList (hsz := by rw [hal, Array.length_toList]; exact Nat.le_trans (Nat.le_of_lt h64) (by decide)) ?_)
  have hoL : (hp1.push (PyProof.Rows.seqObj "list" acc.toList.toArray 0)).get? hp1.objs.size = some (PyProof.Rows.seqObj "list" acc.toList.toArray 0) := Heap.get?_push_size _ rfl
  refine wpAny_bind (wpAny_holding (wpAny_call_entry PySem.F.slot_list_sort ⟨_, hoL, rfl⟩ PyProof.Rows.entry_list_sort (PyProof.Rows.list_sort_treeK PyProof.Rows.strKind_oneLt hoL hS.keysOf (fun v₁ v₂ rest e => PyProof.Rows.keyKind_strs (by rw [← e]; exact hS)) (by rw [hal, Array.length_toList]; exact h64) fun st' a1 a2 => ⟨_, rfl, ?_⟩) (PyProof.Rows.args_list_sort _)))
  refine wpAny_pure ⟨_, rfl, ?_⟩
  obtain ⟨ys, b1, b2, b3⟩ := PyProof.Rows.sorted_out_str hS a1 a2
  obtain ⟨ep, he⟩ := PyProof.Rows.sortedHeap_at (out := ((PyProof.Rows.arrOf st').map (·.2))) hoL
  have hlen : (ys.map V.str).length ≤ sizeLine := by
    rw [List.length_map, b2.length_eq, List.length_map, Array.length_toList]
    exact small64 h64
  refine ⟨.ref hp1.objs.size, upd H hp1.objs.size (.lst (ys.map V.str)), I1.laid (t' := tk1) (fun b o e => ?_) (Nat.le_refl _) ⟨hlen, _, ep, vals_of_strs b1, he⟩, rfl, q ys _ b2 b3 (I1.hok.fresh (Nat.le_refl _))⟩
  have hlt := Heap.lt_size e
  rw [PyProof.Rows.sortedHeap_old (Nat.ne_of_lt hlt) (by rw [Heap.size_push]; exact Nat.lt_succ_of_lt hlt)]
  exact Heap.get?_push_of_some _ e

open PyProof.Rows PySem.Spec in
theorem rising_le : ∀ (p : Nat) (cs : List Nat), risingS (one p) (cs.map one) = true → (∀ c ∈ cs, p ≤ c) ∧ cs.Pairwise (· ≤ ·)
  | p, [], _ => ⟨fun _ h => (by cases h), .nil⟩
  | p, c :: cs, h => by
    have h' : (!ltCps (one c).cps.toList (one p).cps.toList && risingS (one c) (cs.map one)) = true := h
    rw [Bool.and_eq_true] at h'
    obtain ⟨h1, h2⟩ := rising_le c cs h'.2
    have h3 : ltCps (one c).cps.toList (one p).cps.toList = false := by
      have := h'.1
      cases e : ltCps (one c).cps.toList (one p).cps.toList with
      | true => rw [e] at this; cases this
      | false => rfl
    rw [ltCps_eq, decide_eq_false_iff_not] at h3
    have hpc : p ≤ c := by
      refine Classical.byContradiction fun e => h3 ?_
      show [c] < [p]
      exact List.Lex.rel (by omega)
    refine ⟨fun d hd => ?_, .cons h1 h2⟩
    rcases List.mem_cons.mp hd with rfl | hd
    · exact hpc
    · exact Nat.le_trans hpc (h1 d hd)
theorem sorted_le {cs : List Nat} (h : PyProof.Rows.sortedS (cs.map one) = true) : cs.Pairwise (· ≤ ·) := by
  cases cs with
  | nil => exact .nil
  | cons c cs =>
    obtain ⟨h1, h2⟩ := rising_le c cs h
    exact .cons h1 h2
theorem hd_one (l : List Nat) : (l.map one).map (fun s => s.cps.toList.headD 0) = l := by
  rw [List.map_map]
  exact List.map_id l
theorem perm_codes {ys : List Str} {l : List Nat} (h : ys.Perm (l.map one)) : ∃ cs : List Nat, ys = cs.map one ∧ cs.Perm l := by
  refine ⟨ys.map (fun s => s.cps.toList.headD 0), ?_, ?_⟩
  · rw [List.map_map]
    have : ∀ y ∈ ys, (one ∘ fun s : Str => s.cps.toList.headD 0) y = y := fun y hy => by
      obtain ⟨c, _, rfl⟩ := List.mem_map.mp (h.mem_iff.mp hy)
      rfl
    exact (List.map_congr_left this).trans (List.map_id ys) |>.symm
  · have := h.map (fun s : Str => s.cps.toList.headD 0)
    rwa [hd_one] at this
theorem sorted_iff {ys ys' : List Str} {l l' : List Nat} (h : ys.Perm (l.map one)) (s : PyProof.Rows.sortedS ys = true) (h' : ys'.Perm (l'.map one)) (s' : PyProof.Rows.sortedS ys' = true) : ys = ys' ↔ l.Perm l' := by
  obtain ⟨cs, rfl, hc⟩ := perm_codes h
  obtain ⟨cs', rfl, hc'⟩ := perm_codes h'
  constructor
  · intro e
    have : cs = cs' := by
      have : (cs.map one).map (fun s => s.cps.toList.headD 0) = (cs'.map one).map (fun s => s.cps.toList.headD 0) := congrArg (fun x : List Str => x.map fun s => s.cps.toList.headD 0) e
      rwa [hd_one, hd_one] at this
    subst this
    exact hc.symm.trans hc'
  · intro e
    have : cs = cs' := ((hc.trans e).trans hc'.symm).eq_of_pairwise (fun a b _ _ h1 h2 => Nat.le_antisymm h1 h2) (sorted_le s) (sorted_le s')
    rw [this]
section
variable {P : Program} {w : World} {K : PySem.W.Frag} {mg : Str → Option Value} {base : Heap}
theorem dpAll_strs {H : Hp} : ∀ ys : List Str, DpAll K H (ys.map V.str) (ys.map PyData.str)
  | [] => .nil
  | y :: ys => .cons (.str y) (dpAll_strs ys)
theorem strs_eqv : ∀ s t : List Str, PyData.eqvAll (s.map PyData.str) (t.map PyData.str) = decide (s = t)
  | [], [] => by simp [PyData.eqvAll]
  | [], q :: t => by simp [PyData.eqvAll]
  | p :: s, [] => by simp [PyData.eqvAll]
  | p :: s, q :: t => by
    have e : PyData.eqv (.str p) (.str q) = (p == q) := by simp only [PyData.eqv]
    rw [List.map_cons, List.map_cons, PyData.eqvAll, e, strs_eqv s t, Bool.eq_iff_iff, Bool.and_eq_true, beq_iff_eq, decide_eq_true_iff, decide_eq_true_iff, List.cons.injEq]
theorem strs_lay : ∀ zs : List Str, (∀ z ∈ zs, PyData.strOk z = true) → PyData.canLayAll0 (zs.map PyData.str) = true
  | [], _ => by simp [PyData.canLayAll0]
  | z :: zs, h => by simp [PyData.canLayAll0, PyData.canLay0, h z List.mem_cons_self, strs_lay zs fun p hp => h p (List.mem_cons_of_mem _ hp)]
theorem strs_depth : ∀ zs : List Str, PyData.depthAll (zs.map PyData.str) ≤ 1
  | [] => by simp [PyData.depthAll]
  | z :: zs => by
    have h1 := strs_depth zs
    simp only [List.map_cons, PyData.depthAll, PyData.depth]
    omega
theorem strs_shaped (zs : List Str) (h : ∀ z ∈ zs, PyData.strOk z = true) : SeqAt.shaped (.list (zs.map PyData.str)) = true := by
  have h1 := strs_depth zs
  have h2 : PyData.depth (.list (zs.map PyData.str)) ≤ 64 := by
    simp only [PyData.depth]
    omega
  show (PyData.canLay0 (.list (zs.map PyData.str)) && decide (PyData.depth (.list (zs.map PyData.str)) ≤ 64)) = true
  rw [Bool.and_eq_true]
  exact ⟨by simp only [PyData.canLay0]; exact strs_lay zs h, decide_eq_true h2⟩
theorem perm_ok {ys : List Str} {l : List Nat} (h : ys.Perm (l.map one)) (hl : ∀ c ∈ l, c < 128) : ∀ z ∈ ys, PyData.strOk z = true := fun z hz => by
  obtain ⟨c, hc, rfl⟩ := List.mem_map.mp (h.mem_iff.mp hz)
  exact one_ok (hl c hc)
def sized (sh : Sh) (l : Nat) : Nat × Int := (l, (look sh l).getD 0)
def orderR (sh : Sh) (ls : List Nat) : Nat × Sh := if ls.Perm (codes sh) then (0, ls.map (sized sh)) else (2, [])
def spOrder (K : PySem.W.Frag) (C : Nat → Addr) : Sp := fun vs H Q E => ∃ (pi ps a : Addr) (sh : Sh) (ls : List Nat) (rest : List V), vs = [.ref pi, .ref ps] ∧ SqT K H pi (.str ⟨ls.toArray⟩ :: rest) ∧ One K H ps a sh ∧ (codes sh).Nodup ∧ Low sh ∧ ls.length < 64 ∧ (∀ c ∈ ls, c < 128) ∧ ∀ H', Same H H' → ShEnd K C (orderR sh ls) Q E H'
abbrev nOrder : List Str := ["info", "shapes", "letters", "sizes", "letter"]
theorem scOrder : FnScope nOrder ["info", "shapes"] (defScope s_order_shape) := ⟨rfl, rfl, rfl, by decide +kernel, rfl, by decide +kernel, by decide +kernel⟩
theorem ok_order {f : Addr} {C : Nat → Addr} {fd : FuncData} (F : Fun K "_order_shape" "_order_shape" s_order_shape f fd) (A0 : Al P w K mg base C) (ms : mg "sorted" = none) (md : mg "dict" = none) (mt : mg "tuple" = none) :
    FnOk P w K mg base (L2.CX P w) 2 f fd ["info", "shapes"] (spOrder K C) := by
  obtain ⟨fLO, dLO, GLO, kLO, bLO, gLO⟩ := A0.lo
  refine F.okX scOrder (fun vs H Q E h => ?_) (fun cdv A outer s H vs Q E hr h => ?_)
  · obtain ⟨pi, ps, a, sh, ls, rest, rfl, _⟩ := h
    rfl
  · obtain ⟨pi, ps, a, sh, ls, rest, rfl, hi, ⟨hs, hS, hN, hl⟩, hn, hw, h64, hlow, q⟩ := h
    refine ⟨_, (pss_cons (ps_set (i := 2) scOrder.nd rfl (.inl rfl) (pe_ix ix_tup (pv 0) pe_int (fun _ _ => rfl)))
      (pss_cons (ps_if (pt_cmpR (op_neD hr.units) (pe_callB (cr_sortedTxt (by rfl)) (by rfl) ms (by decide +kernel) (pa_cons (pv 2) pa_nil)) (pe_callB (cr_sortedTxt (by rfl)) (by rfl) ms (by decide +kernel) (pa_cons (pe_call GLO hr (by rfl) gLO kLO bLO .nil pass0 (pa_cons (pe_ix ix_list (pv 1) (pe_int) (fun _ _ => rfl)) pa_nil)) pa_nil)) (nomark _)) (pss_one (ps_raise rfl (takes_of rfl rfl rfl rfl) (pmk_own PySem.F.excBase_ValueError A0.ax.x A0.ax.g A0.ax.k (raises_own A0.ax.b A0.ax.t) rfl))) pss_nil)
      (pss_cons (ps_set (i := 3) scOrder.nd rfl (.inr rfl) (pe_callTy (call_dictT (by rfl)) (by rfl) md (by decide +kernel) (pa_cons (pe_ix ix_list (pv 1) (pe_int) (fun _ _ => rfl)) pa_nil)))
      (pss_one (ps_ret (pe_callTy call_tuple_ofF (by rfl) mt (by decide +kernel) (pa_cons (pe_lc (own := [("letter", 4)]) (g := gName 4) (tt := tYes) (te := tTup (tCons (tVar 4) (tCons (tDGet (tVar 3) (tVar 4)) tNil))) rfl scOrder.nd (pi_str (pv 2)) (blkOk_by (N := nOrder) (sc := defScope s_order_shape) (by decide +kernel)) (fun _ _ _ _ _ => pg_name (i := 4) scOrder.nd rfl (.inl rfl) (hf := Or.inr rfl)) (fun _ _ _ _ _ => pts_nil) (fun _ _ _ _ _ => pe_tup (pa_cons (pv 4) (pa_cons (pe_dget (Nat.lt_of_le_of_lt (Nat.add_le_add_left (by decide) _) hr.units) (pv 3) (pv 4) (fun _ _ => rfl)) pa_nil)))) pa_nil))))))), ?_⟩
    unfold orderR at q
    refine ⟨_, rfl, pi, _, (0 : Nat), _, rfl, rfl, hi, atI_nat (j := 0) rfl, ?_⟩
    refine ⟨_, rfl, _, rfl, by show ls.toArray.size < 64; simpa using h64, fun ys p1 hy1 hy2 np1 => ?_⟩
    have s1 := same_upd (o := .lst (ys.map V.str)) np1
    have hp1 : (upd H p1 (.lst (ys.map V.str))) p1 = some (.lst (ys.map V.str)) := upd_same
    generalize upd H p1 (.lst (ys.map V.str)) = H1 at *
    refine ⟨_, rfl, ps, _, (0 : Nat), _, rfl, rfl, sqL_same hs s1, atI_nat (j := 0) rfl, a, sh, rfl, hS.same s1, by omega, fun H2 s2 => ?_⟩
    have hcl : (codes sh).length = sh.length := by rw [codes, List.length_map]
    refine ⟨_, rfl, by show (codes sh).toArray.size < 64; simp; omega, fun ys' p2 hy3 hy4 np2 => ?_⟩
    have s3 := same_upd (o := .lst (ys'.map V.str)) np2
    have s123 := (s1.trans s2).trans s3
    have d1 : Dp K (upd H2 p2 (.lst (ys'.map V.str))) (.ref p1) (.list (ys.map PyData.str)) := .lst (SqL.of (s3 _ _ (s2 _ _ hp1))) (dpAll_strs ys)
    have d2 : Dp K (upd H2 p2 (.lst (ys'.map V.str))) (.ref p2) (.list (ys'.map PyData.str)) := .lst (SqL.of upd_same) (dpAll_strs ys')
    generalize upd H2 p2 (.lst (ys'.map V.str)) = H3 at *
    have hy1' : ys.Perm (ls.map one) := hy1
    have hy3' : ys'.Perm ((codes sh).map one) := hy3
    have hlc : ∀ c ∈ codes sh, c < 128 := fun c hc => by
      obtain ⟨p, hp, rfl⟩ := List.mem_map.mp hc
      exact hw p hp
    refine ⟨_, _, d1, d2, strs_shaped _ (perm_ok hy1' hlow), strs_shaped _ (perm_ok hy3' hlc), _, rfl, ?_⟩
    have ee : PyData.eqv (.list (ys.map PyData.str)) (.list (ys'.map PyData.str)) = decide (ys = ys') := by
      have : PyData.eqv (.list (ys.map PyData.str)) (.list (ys'.map PyData.str)) = PyData.eqvAll (ys.map PyData.str) (ys'.map PyData.str) := by simp only [PyData.eqv]
      rw [this, strs_eqv]
    rw [ee]
    have hiff := sorted_iff hy1' hy2 hy3' hy4
    by_cases hp : ls.Perm (codes sh)
    · rw [decide_eq_true (hiff.mpr hp)]
      rw [if_pos hp] at q
      obtain ⟨ts, ha, hx⟩ := hS.same s123
      refine iteF ⟨_, rfl, ps, _, (0 : Nat), _, rfl, rfl, sqL_same hs s123, atI_nat (j := 0) rfl, a, ts, kvsOf sh, rfl, ha, hN.same s123, paired_kvs hx, fun dd ndd => ?_⟩
      rw [mergeK_kvs hn]
      have s4 := same_upd (o := .dK (kvsOf sh)) ndd
      have hd : (upd H3 dd (.dK (kvsOf sh))) dd = some (.dK (kvsOf sh)) := upd_same
      generalize upd H3 dd (.dK (kvsOf sh)) = H4 at *
      have s14 := s123.trans s4
      refine ⟨_, rfl, ⟨ls.toArray⟩, rfl, fun D nD => lc_it walk_str (fun i H' => ∃ us : List Addr, Same H4 H' ∧ H' D = some (.lst (us.map V.ref)) ∧ Axes K H' us ((ls.take i).map (sized sh)))
        ⟨[], same_upd nD, upd_same, Axes.nil⟩ (fun _ _ _ _ => trivial) ?_ ?_⟩
      · rintro i x H5 _ hi5 ⟨us, sm, hD, hax⟩ ⟨rfl, c, hc, rfl⟩
        have hc' : ls[i]? = some c := by
          have : ls.toArray[i]? = some c := hc
          simpa using this
        have hcm : c ∈ codes sh := hp.mem_iff.mp (List.mem_of_getElem? hc')
        obtain ⟨z, hz⟩ : ∃ z, look sh c = some z := by
          cases e : look sh c with
          | some z => exact ⟨z, rfl⟩
          | none => exact absurd hcm (look_none.mp e)
        refine ⟨rfl, ?_⟩
        unfold tYes
        dsimp only
        rw [if_pos rfl]
        have hg : ∀ Hx : Hp, Hx dd = some (.dK (kvsOf sh)) → DGet Hx dd (.str (one c)) (some (.int z)) := fun Hx hx => by
          have := DGet.k (k := .inr (one c)) hx
          rw [valV_kvs, hz] at this
          exact this
        have t2 : 2 ≤ sizeLine := by decide
        refine ⟨_, rfl, _, rfl, _, rfl, dd, .int z, rfl, hg _ (sm _ _ hd), t2, fun t nt => ?_⟩
        have s6 := same_upd (o := .tup [.str (one c), .int z]) nt
        refine ⟨_, s6 _ _ hD, ?_, us ++ [t], ?_, ?_, ?_⟩
        · rw [List.length_map, hax.1, List.length_map, List.length_take]
          exact small1000 (by omega)
        · exact fun b o e => by rw [upd_ne (ne_of_none e nD)]; exact s6 _ _ (sm _ _ e)
        · rw [upd_same, List.map_append]
          rfl
        · rw [take_snoc hc', List.map_append]
          have e2 : [c].map (sized sh) = [(c, z)] := by
            show [(c, (look sh c).getD 0)] = _
            rw [hz]
            rfl
          rw [e2]
          exact ((hax.same s6).snoc (SqT.of upd_same)).keep (nl_upd (s6 _ _ hD))
      · rintro H5 ⟨us, sm, hD, hax⟩
        have hsz : (⟨ls.toArray⟩ : Str).cps.size = ls.length := by show ls.toArray.size = ls.length; simp
        rw [hsz, List.take_length] at hax
        refine ⟨D, _, rfl, SqL.of hD, fun l o nl ho => ?_⟩
        have s7 := same_upd (o := .frz o (.tup (us.map V.ref))) nl
        exact (q _ ((s14.trans sm).trans s7)).1 rfl l ⟨us, .inl (.inr ⟨o, upd_same⟩), hax.same s7⟩ ⟨o, ho, .inl ⟨_, upd_same⟩⟩
    · rw [decide_eq_false (fun e => hp (hiff.mp e))]
      exact iteT ((q _ s123).2 1 (by rw [if_neg hp]))
end
/-! ### min(t), max(t) of a tuple of ints -/
section
variable {prog : Program} {w : World} {A : Around} {E : Value → Shared → Prop} {s : Shared} {l : Addr} {xs : Array (Int × Tok)}
theorem iter_intTup {Q : Value → Shared → Prop} (hl : s.heap.IsTuple l (intItems xs))
    (h : ∀ s₂ : Shared, s₂ = { s with heap := s.heap.push { cls := .type "tuple_iterator", data := .fields #[.ref l, .int 0 0] } } →
      (s₂.heap.IsTupleIter s.heap.objs.size l 0 ∧ s₂.heap.IsTuple l (intItems xs)) → (∀ b ∈ [s.heap.objs.size, l], b < s₂.heap.objs.size) → l ≠ s.heap.objs.size → Q (.ref s.heap.objs.size) s₂) :
    wpAny (model prog w) A (pyIter (.ref l)) Q E s := by
  have hlt : l < s.heap.objs.size := by obtain ⟨_, e, _⟩ := hl; exact Heap.lt_size e
  refine wpAny_pyIter_tuple hl (h _ rfl ⟨⟨_, Heap.get?_push_size _ rfl, rfl, rfl⟩, hl.at fun o e => Heap.get?_push_of_some _ e⟩ (fun b hb => ?_) (Nat.ne_of_lt hlt))
  show b < (s.heap.push _).objs.size
  rw [Heap.size_push]
  rcases List.mem_cons.mp hb with rfl | hb
  · exact Nat.lt_succ_self _
  · rcases List.mem_cons.mp hb with rfl | hb
    · exact Nat.lt_succ_of_lt hlt
    · cases hb
theorem old_keptT {h' : Heap} (hk : ∀ b o, b ∉ [s.heap.objs.size] → (s.heap.push { cls := .type "tuple_iterator", data := .fields #[.ref l, .int 0 0] }).get? b = some o → h'.get? b = some o) :
    ∀ b o, s.heap.get? b = some o → h'.get? b = some o := fun b o e => by
  refine hk b o (fun hm => ?_) (Heap.get?_push_of_some _ e)
  rcases List.mem_cons.mp hm with e1 | hm
  · exact absurd (e1 ▸ Heap.lt_size e) (Nat.lt_irrefl _)
  · cases hm
theorem max_rawT {its : List Value} {ns : List Int} {Q : Value → Shared → Prop} (hh : A.handled = none) (hl : s.heap.IsTuple l its.toArray) (hi : PyProof.Rows.IntsAre its ns) (hne : 0 < ns.length)
    (h : ∀ h' tk M t', (∀ b o, s.heap.get? b = some o → h'.get? b = some o) → M ∈ ns → (∀ a, a ∈ ns → a ≤ M) → Q (.int M t') { s with heap := h', toks := tk }) : wpAny (model prog w) A (call (.builtin "max") [.ref l]) Q E s := by
  obtain ⟨xs, e⟩ := hi.allInts.items
  have hn : PySem.numsOf (intItems xs).toList = ns := by rw [← e]; exact hi.numsOf
  rw [PySem.nums_intItems] at hn
  subst hn
  rw [e] at hl
  have hsz : 0 < xs.size := by simpa using hne
  refine call_max_walk (iter_intTup hl fun s₂ e st hfp hlI => ?_)
  subst e
  refine ⟨_, _, _, _, _, _, _, rfl, Walks.tuple (A := A.in1) hh _ l hlI (intItems xs), st, hfp, by simpa [intItems] using hsz, CmpOf.ints_gt (numAt xs) (fun _ _ => intItems_at), fun v h' tk hP hk => ?_⟩
  have hv : (intItems xs)[argBest (fun i j => decide (numAt xs i > numAt xs j)) (xs.size - 1)]? = some v := by simpa [intItems] using hP
  obtain ⟨t, rfl⟩ := intItems_at hv
  obtain ⟨h1, h2⟩ := argBest_gt (numAt xs) (xs.size - 1)
  refine h h' tk _ t (old_keptT hk) ?_ fun a ha => ?_
  · rw [PySem.numAt_eq]; exact PySem.getD_mem (by rw [List.length_map, Array.length_toList]; omega)
  · obtain ⟨j, hj, rfl⟩ := PySem.mem_getD ha
    rw [List.length_map, Array.length_toList] at hj
    rw [← PySem.numAt_eq]; exact h2 j (by omega)
theorem min_rawT {its : List Value} {ns : List Int} {Q : Value → Shared → Prop} (hh : A.handled = none) (hl : s.heap.IsTuple l its.toArray) (hi : PyProof.Rows.IntsAre its ns) (hne : 0 < ns.length)
    (h : ∀ h' tk M t', (∀ b o, s.heap.get? b = some o → h'.get? b = some o) → M ∈ ns → (∀ a, a ∈ ns → M ≤ a) → Q (.int M t') { s with heap := h', toks := tk }) : wpAny (model prog w) A (call (.builtin "min") [.ref l]) Q E s := by
  obtain ⟨xs, e⟩ := hi.allInts.items
  have hn : PySem.numsOf (intItems xs).toList = ns := by rw [← e]; exact hi.numsOf
  rw [PySem.nums_intItems] at hn
  subst hn
  rw [e] at hl
  have hsz : 0 < xs.size := by simpa using hne
  refine call_min_walk (iter_intTup hl fun s₂ e st hfp hlI => ?_)
  subst e
  refine ⟨_, _, _, _, _, _, _, rfl, Walks.tuple (A := A.in1) hh _ l hlI (intItems xs), st, hfp, by simpa [intItems] using hsz, CmpOf.ints_lt (numAt xs) (fun _ _ => intItems_at), fun v h' tk hP hk => ?_⟩
  have hv : (intItems xs)[argBest (fun i j => decide (numAt xs i < numAt xs j)) (xs.size - 1)]? = some v := by simpa [intItems] using hP
  obtain ⟨t, rfl⟩ := intItems_at hv
  obtain ⟨h1, h2⟩ := argBest_lt (numAt xs) (xs.size - 1)
  refine h h' tk _ t (old_keptT hk) ?_ fun a ha => ?_
  · rw [PySem.numAt_eq]; exact PySem.getD_mem (by rw [List.length_map, Array.length_toList]; omega)
  · obtain ⟨j, hj, rfl⟩ := PySem.mem_getD ha
    rw [List.length_map, Array.length_toList] at hj
    rw [← PySem.numAt_eq]; exact h2 j (by omega)
end
section
variable {X : Cx}
def rMaxT (K : PySem.W.Frag) : List V → Hp → VK → Prop := fun vs H Q => ∃ (a : Addr) (ns : List Int), vs = [V.ref a] ∧ SqT K H a (ns.map V.int) ∧ 0 < ns.length ∧ ∀ m, m ∈ ns → (∀ y, y ∈ ns → y ≤ m) → Q (.int m) H
def rMinT (K : PySem.W.Frag) : List V → Hp → VK → Prop := fun vs H Q => ∃ (a : Addr) (ns : List Int), vs = [V.ref a] ∧ SqT K H a (ns.map V.int) ∧ 0 < ns.length ∧ ∀ m, m ∈ ns → (∀ y, y ∈ ns → m ≤ y) → Q (.int m) H
theorem cr_maxT (hc : X.calm = true) : CallR X (.builtin "max") (rMaxT X.K) := by
  intro pins s σ H vs us Q I r h
  obtain ⟨a, ns, rfl, hs, hne, q⟩ := h
  obtain ⟨its, rv, hl, _⟩ := I.tuple hs
  rw [Vals.ref1 r]
  exact max_rawT (I.ok.hd hc) hl rv.ints hne fun h' tk m t' hk h1 h2 => ⟨.int _, H, I.kept hk, ⟨_, rfl⟩, q m h1 h2⟩
theorem cr_minT (hc : X.calm = true) : CallR X (.builtin "min") (rMinT X.K) := by
  intro pins s σ H vs us Q I r h
  obtain ⟨a, ns, rfl, hs, hne, q⟩ := h
  obtain ⟨its, rv, hl, _⟩ := I.tuple hs
  rw [Vals.ref1 r]
  exact min_rawT (I.ok.hd hc) hl rv.ints hne fun h' tk m t' hk h1 h2 => ⟨.int _, H, I.kept hk, ⟨_, rfl⟩, q m h1 h2⟩
end
section
variable {P : Program} {w : World} {K : PySem.W.Frag} {mg : Str → Option Value} {base : Heap}

/-! ### the makers -/
abbrev VI : List Str := ["values", "info"]
theorem g0 {a : V} {r : List V} : atI (a :: r) (0 : Int) = some a := atI_nat (j := 0) rfl
theorem g1 {a b : V} {r : List V} : atI (a :: b :: r) (1 : Int) = some b := atI_nat (j := 1) rfl
theorem g2 {a b c : V} {r : List V} : atI (a :: b :: c :: r) (2 : Int) = some c := atI_nat (j := 2) rfl
/-- of two numbers -/
def sp2 (K : PySem.W.Frag) (C : Int → Int → Prop) (g : Int → Int → Int) : Sp := fun vs H Q _ => ∃ (p i : Addr) (a b : Int), vs = [.ref p, .ref i] ∧ SqT K H p [.int a, .int b] ∧ C a b ∧ Q (.int (g a b)) H
def mx (a b : Int) : Int := if b > a then b else a
def mn (a b : Int) : Int := if b < a then b else a
def sc (st : Stmt) : Prop := FnScope VI VI (defScope st)
theorem scsAdd : FnScope VI VI (defScope sAdd) := ⟨rfl, rfl, rfl, by decide +kernel, rfl, by decide +kernel, by decide +kernel⟩
theorem ok_add {f : Addr} {fd : FuncData} (F : Fun K "_add" "_add" sAdd f fd) : FnOk P w K mg base CX0 1 f fd VI (sp2 K (fun _ _ => True) (fun a b => a + b)) := by
  refine F.ok scsAdd (fun vs H Q E h => ?_) (fun cdv A outer s H vs Q E hr h => ?_)
  · obtain ⟨p, i, _, _, rfl, _⟩ := h
    rfl
  · obtain ⟨p, i, a, b, rfl, hp, hc, q⟩ := h
    refine ⟨_, pss_one (ps_ret (pe_op op_add (pe_ix ix_tup (pv 0) pe_int (fun _ _ => rfl)) (pe_ix ix_tup (pv 0) pe_int (fun _ _ => rfl)))), ?_⟩
    exact ⟨_, rfl, p, _, _, _, rfl, rfl, hp, g0, _, rfl, p, _, _, _, rfl, rfl, hp, g1, _, _, rfl, rfl, q⟩
theorem scsSub : FnScope VI VI (defScope sSub) := ⟨rfl, rfl, rfl, by decide +kernel, rfl, by decide +kernel, by decide +kernel⟩
theorem ok_sub {f : Addr} {fd : FuncData} (F : Fun K "_sub" "_sub" sSub f fd) : FnOk P w K mg base CX0 1 f fd VI (sp2 K (fun _ _ => True) (fun a b => a - b)) := by
  refine F.ok scsSub (fun vs H Q E h => ?_) (fun cdv A outer s H vs Q E hr h => ?_)
  · obtain ⟨p, i, _, _, rfl, _⟩ := h
    rfl
  · obtain ⟨p, i, a, b, rfl, hp, hc, q⟩ := h
    refine ⟨_, pss_one (ps_ret (pe_op op_sub (pe_ix ix_tup (pv 0) pe_int (fun _ _ => rfl)) (pe_ix ix_tup (pv 0) pe_int (fun _ _ => rfl)))), ?_⟩
    exact ⟨_, rfl, p, _, _, _, rfl, rfl, hp, g0, _, rfl, p, _, _, _, rfl, rfl, hp, g1, _, _, rfl, rfl, q⟩
theorem scsMul : FnScope VI VI (defScope sMul) := ⟨rfl, rfl, rfl, by decide +kernel, rfl, by decide +kernel, by decide +kernel⟩
theorem ok_mul {f : Addr} {fd : FuncData} (F : Fun K "_mul" "_mul" sMul f fd) : FnOk P w K mg base CX0 1 f fd VI (sp2 K (CMulW) (fun a b => a * b)) := by
  refine F.ok scsMul (fun vs H Q E h => ?_) (fun cdv A outer s H vs Q E hr h => ?_)
  · obtain ⟨p, i, _, _, rfl, _⟩ := h
    rfl
  · obtain ⟨p, i, a, b, rfl, hp, hc, q⟩ := h
    refine ⟨_, pss_one (ps_ret (pe_op op_mulW (pe_ix ix_tup (pv 0) pe_int (fun _ _ => rfl)) (pe_ix ix_tup (pv 0) pe_int (fun _ _ => rfl)))), ?_⟩
    exact ⟨_, rfl, p, _, _, _, rfl, rfl, hp, g0, _, rfl, p, _, _, _, rfl, rfl, hp, g1, _, _, rfl, rfl, hc, q⟩
theorem scsMax : FnScope VI VI (defScope sMax) := ⟨rfl, rfl, rfl, by decide +kernel, rfl, by decide +kernel, by decide +kernel⟩
theorem ok_max {f : Addr} {fd : FuncData} (F : Fun K "_max" "_max" sMax f fd) (m : mg "max" = none) : FnOk P w K mg base CX0 1 f fd VI (sp2 K (fun _ _ => True) mx) := by
  refine F.ok scsMax (fun vs H Q E h => ?_) (fun cdv A outer s H vs Q E hr h => ?_)
  · obtain ⟨p, i, _, _, rfl, _⟩ := h
    rfl
  · obtain ⟨p, i, a, b, rfl, hp, hc, q⟩ := h
    refine ⟨_, pss_one (ps_ret (pe_callB (call_max2 rfl) (by rfl) m (by decide +kernel) (pa_cons (pe_ix ix_tup (pv 0) pe_int (fun _ _ => rfl)) (pa_cons (pe_ix ix_tup (pv 0) pe_int (fun _ _ => rfl)) pa_nil)))), ?_⟩
    exact ⟨_, rfl, p, _, _, _, rfl, rfl, hp, g0, _, rfl, p, _, _, _, rfl, rfl, hp, g1, a, b, rfl, q⟩
theorem scsMin : FnScope VI VI (defScope sMin) := ⟨rfl, rfl, rfl, by decide +kernel, rfl, by decide +kernel, by decide +kernel⟩
theorem ok_min {f : Addr} {fd : FuncData} (F : Fun K "_min" "_min" sMin f fd) (m : mg "min" = none) : FnOk P w K mg base CX0 1 f fd VI (sp2 K (fun _ _ => True) mn) := by
  refine F.ok scsMin (fun vs H Q E h => ?_) (fun cdv A outer s H vs Q E hr h => ?_)
  · obtain ⟨p, i, _, _, rfl, _⟩ := h
    rfl
  · obtain ⟨p, i, a, b, rfl, hp, hc, q⟩ := h
    refine ⟨_, pss_one (ps_ret (pe_callB (call_min2 rfl) (by rfl) m (by decide +kernel) (pa_cons (pe_ix ix_tup (pv 0) pe_int (fun _ _ => rfl)) (pa_cons (pe_ix ix_tup (pv 0) pe_int (fun _ _ => rfl)) pa_nil)))), ?_⟩
    exact ⟨_, rfl, p, _, _, _, rfl, rfl, hp, g0, _, rfl, p, _, _, _, rfl, rfl, hp, g1, a, b, rfl, q⟩
theorem scsLess : FnScope VI VI (defScope sLess) := ⟨rfl, rfl, rfl, by decide +kernel, rfl, by decide +kernel, by decide +kernel⟩
theorem ok_less {f : Addr} {fd : FuncData} (F : Fun K "_less" "_less" sLess f fd) : FnOk P w K mg base CX0 1 f fd VI (sp2 K (fun _ _ => True) (fun a b => if a < b then 1 else 0)) := by
  refine F.ok scsLess (fun vs H Q E h => ?_) (fun cdv A outer s H vs Q E hr h => ?_)
  · obtain ⟨p, i, _, _, rfl, _⟩ := h
    rfl
  · obtain ⟨p, i, a, b, rfl, hp, hc, q⟩ := h
    refine ⟨_, pss_one (ps_ret (pe_ifExp (pt_cmpR op_lt (pe_ix ix_tup (pv 0) pe_int (fun _ _ => rfl)) (pe_ix ix_tup (pv 0) pe_int (fun _ _ => rfl)) (nomark _)) pe_int pe_int)), ?_⟩
    refine ⟨_, rfl, p, _, _, _, rfl, rfl, hp, g0, _, rfl, p, _, _, _, rfl, rfl, hp, g1, _, _, rfl, rfl, _, rfl, ite2 (fun e => ?_) (fun e => ?_)⟩
    · have q : Q (V.int (if a < b then 1 else 0)) H := q
      rw [if_pos (of_decide_eq_true e)] at q
      exact q
    · have q : Q (V.int (if a < b then 1 else 0)) H := q
      rw [if_neg (fun z => e (decide_eq_true z))] at q
      exact q
theorem scsEqual : FnScope VI VI (defScope sEqual) := ⟨rfl, rfl, rfl, by decide +kernel, rfl, by decide +kernel, by decide +kernel⟩
theorem ok_equal {f : Addr} {fd : FuncData} (F : Fun K "_equal" "_equal" sEqual f fd) : FnOk P w K mg base CX0 1 f fd VI (sp2 K (fun _ _ => True) (fun a b => if a = b then 1 else 0)) := by
  refine F.ok scsEqual (fun vs H Q E h => ?_) (fun cdv A outer s H vs Q E hr h => ?_)
  · obtain ⟨p, i, _, _, rfl, _⟩ := h
    rfl
  · obtain ⟨p, i, a, b, rfl, hp, hc, q⟩ := h
    refine ⟨_, pss_one (ps_ret (pe_ifExp (pt_cmpR op_eq (pe_ix ix_tup (pv 0) pe_int (fun _ _ => rfl)) (pe_ix ix_tup (pv 0) pe_int (fun _ _ => rfl)) (nomark _)) pe_int pe_int)), ?_⟩
    refine ⟨_, rfl, p, _, _, _, rfl, rfl, hp, g0, _, rfl, p, _, _, _, rfl, rfl, hp, g1, rfl, _, rfl, ite2 (fun e => ?_) (fun e => ?_)⟩
    · have q : Q (V.int (if a = b then 1 else 0)) H := q
      rw [if_pos (V.int.inj (of_decide_eq_true e))] at q
      exact q
    · have q : Q (V.int (if a = b then 1 else 0)) H := q
      rw [if_neg (fun z => e (decide_eq_true (congrArg V.int z)))] at q
      exact q

def sp1 (K : PySem.W.Frag) (g : Int → Int) : Sp := fun vs H Q _ => ∃ (p i : Addr) (a : Int), vs = [.ref p, .ref i] ∧ SqT K H p [.int a] ∧ Q (.int (g a)) H
theorem scsNeg : FnScope VI VI (defScope sNeg) := ⟨rfl, rfl, rfl, by decide +kernel, rfl, by decide +kernel, by decide +kernel⟩
theorem ok_neg {f : Addr} {fd : FuncData} (F : Fun K "_neg" "_neg" sNeg f fd) : FnOk P w K mg base CX0 1 f fd VI (sp1 K fun a => -a) := by
  refine F.ok scsNeg (fun vs H Q E h => ?_) (fun cdv A outer s H vs Q E hr h => ?_)
  · obtain ⟨p, i, _, rfl, _⟩ := h
    rfl
  · obtain ⟨p, i, a, rfl, hp, q⟩ := h
    exact ⟨_, pss_one (ps_ret (pe_un un_neg (pe_ix ix_tup (pv 0) pe_int (fun _ _ => rfl)))), _, rfl, p, _, _, _, rfl, rfl, hp, g0, _, rfl, q⟩
def lim (n low high : Int) : Int := if n < low then low else if high < n then high else n
def spLimit : Sp := fun vs H Q _ => ∃ n l h : Int, vs = [.int n, .int l, .int h] ∧ Q (.int (lim n l h)) H
theorem scsLimit : FnScope ["n", "low", "high"] ["n", "low", "high"] (defScope sLimit) := ⟨rfl, rfl, rfl, by decide +kernel, rfl, by decide +kernel, by decide +kernel⟩
theorem ok_limit {f : Addr} {fd : FuncData} (F : Fun K "limit" "limit" sLimit f fd) : FnOk P w K mg base CX0 1 f fd ["n", "low", "high"] spLimit := by
  refine F.ok scsLimit (fun vs H Q E h => ?_) (fun cdv A outer s H vs Q E hr h => ?_)
  · obtain ⟨_, _, _, rfl, _⟩ := h
    rfl
  · obtain ⟨n, l, u, rfl, q⟩ := h
    refine ⟨_, pss_cons (ps_if (pt_cmpR op_lt (pv 0) (pv 1) (nomark _)) (pss_one (ps_ret (pv 1))) pss_nil) (pss_cons (ps_if (pt_cmpR op_gt (pv 0) (pv 2) (nomark _)) (pss_one (ps_ret (pv 2))) pss_nil) (pss_one (ps_ret (pv 0)))), ?_⟩
    unfold lim at q
    refine ⟨_, rfl, _, rfl, _, _, rfl, rfl, _, rfl, ite2 (fun e => ?_) (fun e => ?_)⟩
    · rw [if_pos (of_decide_eq_true e)] at q
      exact ⟨_, rfl, q⟩
    · rw [if_neg (fun z => e (decide_eq_true z))] at q
      refine ⟨_, rfl, _, rfl, _, _, rfl, rfl, _, rfl, ite2 (fun e => ?_) (fun e => ?_)⟩
      · rw [if_pos (of_decide_eq_true e)] at q
        exact ⟨_, rfl, q⟩
      · rw [if_neg (fun z => e (decide_eq_true z))] at q
        exact ⟨_, rfl, q⟩
def spClamp (K : PySem.W.Frag) : Sp := fun vs H Q _ => ∃ (p i : Addr) (a l h : Int), vs = [.ref p, .ref i] ∧ SqT K H p [.int a] ∧ SqT K H i [.int l, .int h] ∧ Q (.int (lim a l h)) H
theorem scsClamp : FnScope VI VI (defScope sClamp) := ⟨rfl, rfl, rfl, by decide +kernel, rfl, by decide +kernel, by decide +kernel⟩
theorem ok_clamp {f fL : Addr} {fd fdL : FuncData} (F : Fun K "_clamp" "_clamp" sClamp f fd) (FL : Fun K "limit" "limit" sLimit fL fdL) (bL : Binds K fdL ["n", "low", "high"] []) (gL : mg "limit" = some (.ref fL)) : FnOk P w K mg base CX0 2 f fd VI (spClamp K) := by
  have GL : FnOk P w K mg base CX0 1 fL fdL ["n", "low", "high"] spLimit := ok_limit FL
  refine F.ok scsClamp (fun vs H Q E h => ?_) (fun cdv A outer s H vs Q E hr h => ?_)
  · obtain ⟨p, i, _, _, _, rfl, _⟩ := h
    rfl
  · obtain ⟨p, i, a, l, u, rfl, hp, hi, q⟩ := h
    refine ⟨_, pss_one (ps_ret (pe_call GL hr (by rfl) gL FL.kp bL .nil pass0 (pa_cons (pe_ix ix_tup (pv 0) pe_int (fun _ _ => rfl)) (pa_cons (pe_ix ix_tup (pv 1) pe_int (fun _ _ => rfl)) (pa_cons (pe_ix ix_tup (pv 1) pe_int (fun _ _ => rfl)) pa_nil))))), ?_⟩
    exact ⟨_, rfl, p, _, _, _, rfl, rfl, hp, g0, _, rfl, i, _, _, _, rfl, rfl, hi, g0, _, rfl, i, _, _, _, rfl, rfl, hi, g1, a, l, u, rfl, q⟩
def shf (x : Int) (n : Nat) : Int := (x + 2 ^ (n - 1)) / 2 ^ n
def spShift (K : PySem.W.Frag) : Sp := fun vs H Q _ => ∃ (p i : Addr) (a : Int) (n : Nat), vs = [.ref p, .ref i] ∧ SqT K H p [.int a] ∧ SqT K H i [.int (n : Int)] ∧ 1 ≤ n ∧ n ≤ 30 ∧ Q (.int (shf a n)) H
theorem scsShift : FnScope VI VI (defScope sShift) := ⟨rfl, rfl, rfl, by decide +kernel, rfl, by decide +kernel, by decide +kernel⟩
theorem ok_shift {f : Addr} {fd : FuncData} (F : Fun K "_shift" "_shift" sShift f fd) : FnOk P w K mg base CX0 1 f fd VI (spShift K) := by
  refine F.ok scsShift (fun vs H Q E h => ?_) (fun cdv A outer s H vs Q E hr h => ?_)
  · obtain ⟨p, i, _, _, rfl, _⟩ := h
    rfl
  · obtain ⟨p, i, a, n, rfl, hp, hi, n1, n2, q⟩ := h
    refine ⟨_, pss_one (ps_ret (pe_op op_shr (pe_op op_add (pe_ix ix_tup (pv 0) pe_int (fun _ _ => rfl)) (pe_op op_shl pe_int (pe_op op_sub (pe_ix ix_tup (pv 1) pe_int (fun _ _ => rfl)) pe_int))) (pe_ix ix_tup (pv 1) pe_int (fun _ _ => rfl)))), ?_⟩
    refine ⟨_, rfl, p, _, _, _, rfl, rfl, hp, g0, _, rfl, i, _, _, _, rfl, rfl, hi, g0, _, _, rfl, rfl, _, _, rfl, rfl, ⟨by omega, by omega, by decide⟩, _, _, rfl, rfl, _, rfl, i, _, _, _, rfl, rfl, hi, g0, _, _, rfl, rfl, (by show (0 : Int) ≤ n; omega), ?_⟩
    show Q (.int ((a + 1 * 2 ^ ((n : Int) - 1).toNat) / 2 ^ (n : Int).toNat)) H
    rw [Int.one_mul, show ((n : Int) - 1).toNat = n - 1 by omega, Int.toNat_natCast]
    exact q
def spWhere (K : PySem.W.Frag) : Sp := fun vs H Q _ => ∃ (p i : Addr) (c a b : Int), vs = [.ref p, .ref i] ∧ SqT K H p [.int c, .int a, .int b] ∧ Q (.int (if c = 0 then b else a)) H
theorem scsWhere : FnScope VI VI (defScope sWhere) := ⟨rfl, rfl, rfl, by decide +kernel, rfl, by decide +kernel, by decide +kernel⟩
theorem ok_where {f : Addr} {fd : FuncData} (F : Fun K "_where" "_where" sWhere f fd) : FnOk P w K mg base CX0 1 f fd VI (spWhere K) := by
  refine F.ok scsWhere (fun vs H Q E h => ?_) (fun cdv A outer s H vs Q E hr h => ?_)
  · obtain ⟨p, i, _, _, _, rfl, _⟩ := h
    rfl
  · obtain ⟨p, i, c, a, b, rfl, hp, q⟩ := h
    refine ⟨_, pss_one (ps_ret (pe_ifExp (pt_cmpR op_ne (pe_ix ix_tup (pv 0) pe_int (fun _ _ => rfl)) pe_int (nomark _)) (pe_ix ix_tup (pv 0) pe_int (fun _ _ => rfl)) (pe_ix ix_tup (pv 0) pe_int (fun _ _ => rfl)))), ?_⟩
    refine ⟨_, rfl, p, _, _, _, rfl, rfl, hp, g0, rfl, _, rfl, ?_⟩
    by_cases e : c = 0
    · subst e
      rw [if_pos rfl] at q
      exact iteF ⟨_, rfl, p, _, _, _, rfl, rfl, hp, g2, q⟩
    · rw [if_neg e] at q
      rw [decide_eq_false (fun z => e (V.int.inj z))]
      exact iteT ⟨_, rfl, p, _, _, _, rfl, rfl, hp, g1, q⟩
/-! ### pointwise -/
/-- the table has a maker with this promise -/
def Mak (P : Program) (w : World) (K : PySem.W.Frag) (mg : Str → Option Value) (base : Heap) (aM : Addr) (kind : Str) (sp : Sp) : Prop :=
  ∃ (f : Addr) (fd : FuncData), FnOk P w K mg base CX0 2 f fd VI sp ∧ PySem.W.keepIn K (.ref f) = true ∧ Binds K fd VI [] ∧ KDct K w aM kind (.ref f)
def spPw (P : Program) (w : World) (K : PySem.W.Frag) (mg : Str → Option Value) (base : Heap) (aM : Addr) : Sp := fun vs H Q _ => ∃ (kind : Str) (p i : Addr) (sp : Sp), vs = [.str kind, .ref p, .ref i] ∧ Mak P w K mg base aM kind sp ∧ sp [.ref p, .ref i] H Q E0
theorem scsPw : FnScope ["kind", "values", "info", "maker"] ["kind", "values", "info"] (defScope sPw) := ⟨rfl, rfl, rfl, by decide +kernel, rfl, by decide +kernel, by decide +kernel⟩
theorem ok_pw {f aM : Addr} {fd : FuncData} (F : Fun K "pointwise" "pointwise" sPw f fd) (gM : mg "_MAKERS" = some (.ref aM)) : FnOk P w K mg base CX0 3 f fd ["kind", "values", "info"] (spPw P w K mg base aM) := by
  refine F.ok scsPw (fun vs H Q E h => ?_) (fun cdv A outer s H vs Q E hr h => ?_)
  · obtain ⟨kind, p, i, sp, rfl, _⟩ := h
    rfl
  · obtain ⟨kind, p, i, sp, rfl, ⟨fm, fdm, G, km, bm, kd⟩, q⟩ := h
    refine ⟨_, pss_cons (ps_set (i := 3) scsPw.nd rfl (.inl rfl) (pe_ix ix_kdict (pe_glob (v := .ref aM) (by rfl) gM rfl) (pv 0) (fun _ _ => rfl)))
      (pss_one (ps_ret (pe_callL (i := 3) (f := fm) (sp := sp) (dvs := []) (E := E0) G hr rfl (Or.inl rfl) km bm .nil pass0 (pa_cons (pv 1) (pa_cons (pv 2) pa_nil))))), ?_⟩
    exact ⟨_, rfl, aM, kind, _, rfl, rfl, kd, rfl, _, rfl, _, rfl, q⟩

end

/-! ### shape_of_result -/
section
variable {P : Program} {w : World} {K : PySem.W.Frag} {mg : Str → Option Value} {base : Heap}
abbrev VS : List Str := ["info", "shapes"]
/-- the table has a def with this promise -/
def MakE (P : Program) (w : World) (K : PySem.W.Frag) (mg : Str → Option Value) (base : Heap) (CX : CXT) (ps : List Str) (k : Nat) (aM : Addr) (kind : Str) (sp : Sp) : Prop :=
  ∃ (f : Addr) (fd : FuncData), FnOk P w K mg base CX k f fd ps sp ∧ PySem.W.keepIn K (.ref f) = true ∧ Binds K fd ps [] ∧ KDct K w aM kind (.ref f)
def spSof (P : Program) (w : World) (K : PySem.W.Frag) (mg : Str → Option Value) (base : Heap) (C : Nat → Addr) (aM : Addr) : Sp := fun vs H Q E => ∃ (kind : Str) (pi ps : Addr) (sp : Sp), vs = [.str kind, .ref pi, .ref ps] ∧ MakE P w K mg base (L2.CX P w) VS 4 aM kind sp ∧
  ∀ Q' : VK, (∀ H' p sh, ShT K H' p sh → sh.length ≤ 16 → Mod sh → (∀ H2, Same H' H2 → CkEnd C (chk sh) Q E (.ref p) H2) → Q' (.ref p) H') → sp [.ref pi, .ref ps] H Q' (fun c d H' => E c d H')
theorem scSof : FnScope ["kind", "info", "shapes", "maker", "shape"] ["kind", "info", "shapes"] (defScope sshape_of_result) := ⟨rfl, rfl, rfl, by decide +kernel, rfl, by decide +kernel, by decide +kernel⟩

theorem ok_sof {f aM : Addr} {C : Nat → Addr} {fd : FuncData} (F : Fun K "shape_of_result" "shape_of_result" sshape_of_result f fd) (gM : mg "_SHAPES" = some (.ref aM))
    (GCK : FnOk P w K mg base (L2.CX P w) 2 fCK fdCK ["shape"] (spCheck K C)) (kCK : PySem.W.keepIn K (.ref fCK) = true) (bCK : Binds K fdCK ["shape"] []) (gCK : mg "check_shape" = some (.ref fCK))
    : FnOk P w K mg base (L2.CX P w) 5 f fd ["kind", "info", "shapes"] (spSof P w K mg base C aM) := by
  refine F.okX scSof (fun vs H Q E h => ?_) (fun cdv A outer s H vs Q E hr h => ?_)
  · obtain ⟨kind, pi, ps, sp, rfl, _⟩ := h
    rfl
  · obtain ⟨kind, pi, ps, sp, rfl, ⟨fm, fdm, G, km, bm, kd⟩, q⟩ := h
    have hr2 : Room 2 _ := hr.mono (by decide)
    refine ⟨_, pss_cons (ps_set (i := 3) scSof.nd rfl (.inl rfl) (pe_ix ix_kdict (pe_glob (v := .ref aM) (by rfl) gM rfl) (pv 0) (fun _ _ => rfl)))
      (pss_cons (ps_set (i := 4) scSof.nd rfl (.inl rfl) (pe_callL (i := 3) (f := fm) (sp := sp) (dvs := []) (E := fun c d H' => E c d H') G hr rfl (Or.inl rfl) km bm .nil (fun pins σ H s e s' I c => passAt (takes_of rfl rfl rfl rfl) σ pins H s e s' I c) (pa_cons (pv 1) (pa_cons (pv 2) pa_nil))))
      (pss_cons (ps_expr (pe_callS GCK hr2 (by rfl) gCK kCK bCK (fun σ => passAt (takes_of rfl rfl rfl rfl) σ) (pa_cons (pv 4) pa_nil)))
      (pss_one (ps_ret (pv 4))))), ?_⟩
    refine ⟨_, rfl, aM, kind, _, rfl, rfl, kd, rfl, _, rfl, _, rfl, q _ fun H1 p sh hS hl hm hq => ?_⟩
    refine ⟨_, rfl, p, sh, rfl, hS, hl, hm, fun H2 s2 => ⟨fun e => ⟨_, rfl, (hq _ s2).1 e⟩, fun k e => (hq _ s2).2 k e⟩⟩
end

/-! ### intervals -/
structure Dom where
  sh : Sh
  lo : Int
  hi : Int
theorem i0 {a : V} {r : List V} : atI (a :: r) ((0 : Nat) : Int) = some a := atI_nat rfl
theorem i1 {a b : V} {r : List V} : atI (a :: b :: r) ((1 : Nat) : Int) = some b := atI_nat rfl
theorem i2 {a b c : V} {r : List V} : atI (a :: b :: c :: r) ((2 : Nat) : Int) = some c := atI_nat rfl
section
variable {P : Program} {w : World} {K : PySem.W.Frag} {mg : Str → Option Value} {base : Heap}
/-- a domain: its shape, its interval -/
def DmAt (K : PySem.W.Frag) (H : Hp) (v : V) (d : Dom) : Prop := ∃ p a, v = .ref p ∧ SqT K H p [.ref a, .int d.lo, .int d.hi] ∧ ShT K H a d.sh ∧ NoD K H a
theorem DmAt.same {H H' : Hp} {v : V} {d : Dom} (h : DmAt K H v d) (s : Same H H') : DmAt K H' v d := by
  obtain ⟨p, a, e, h1, h2, h3⟩ := h
  exact ⟨p, a, e, sqT_same h1 s, h2.same s, h3.same s⟩
theorem DmAt.keep {H H' : Hp} {v : V} {d : Dom} (h : DmAt K H v d) (s : NL H H') : DmAt K H' v d := by
  obtain ⟨p, a, e, h1, h2, h3⟩ := h
  exact ⟨p, a, e, sqT_nl h1 s, h2.keep s, h3.keep s⟩
/-- the domains stand in a list -/
def Dms (K : PySem.W.Frag) (H : Hp) (vs : List V) (ds : List Dom) : Prop := vs.length = ds.length ∧ ∀ (i : Nat) (v : V) (d : Dom), vs[i]? = some v → ds[i]? = some d → DmAt K H v d
theorem Dms.same {H H' : Hp} {vs : List V} {ds : List Dom} (h : Dms K H vs ds) (s : Same H H') : Dms K H' vs ds := ⟨h.1, fun i v d a b => (h.2 i v d a b).same s⟩
theorem Dms.keep {H H' : Hp} {vs : List V} {ds : List Dom} (h : Dms K H vs ds) (s : NL H H') : Dms K H' vs ds := ⟨h.1, fun i v d a b => (h.2 i v d a b).keep s⟩
theorem Dms.one {H : Hp} {vs : List V} {d : Dom} (h : Dms K H vs [d]) : ∃ v, vs = [v] ∧ DmAt K H v d := by
  match vs, h with
  | [v], h => exact ⟨v, rfl, h.2 0 v d rfl rfl⟩
  | [], h => nomatch h.1
  | _ :: _ :: _, h => nomatch h.1
theorem Dms.two {H : Hp} {vs : List V} {d e : Dom} (h : Dms K H vs [d, e]) : ∃ v u, vs = [v, u] ∧ DmAt K H v d ∧ DmAt K H u e := by
  match vs, h with
  | [v, u], h => exact ⟨v, u, rfl, h.2 0 v d rfl rfl, h.2 1 u e rfl rfl⟩
  | [], h => nomatch h.1
  | [_], h => nomatch h.1
  | _ :: _ :: _ :: _, h => nomatch h.1
theorem Dms.three {H : Hp} {vs : List V} {d e g : Dom} (h : Dms K H vs [d, e, g]) : ∃ v u x, vs = [v, u, x] ∧ DmAt K H v d ∧ DmAt K H u e ∧ DmAt K H x g := by
  match vs, h with
  | [v, u, x], h => exact ⟨v, u, x, rfl, h.2 0 v d rfl rfl, h.2 1 u e rfl rfl, h.2 2 x g rfl rfl⟩
  | [], h => nomatch h.1
  | [_], h => nomatch h.1
  | [_, _], h => nomatch h.1
  | _ :: _ :: _ :: _ :: _, h => nomatch h.1
/-- a new pair of two ints -/
def IvQ (K : PySem.W.Frag) (lo hi : Int) (Q : VK) (H : Hp) : Prop := ∀ H' p, Same H H' → SqT K H' p [.int lo, .int hi] → Q (.ref p) H'
theorem two_line : 2 ≤ sizeLine := by decide
theorem scI_truth : FnScope ["kind", "info", "given"] ["kind", "info", "given"] (defScope s_truth_interval) := ⟨rfl, rfl, rfl, by decide +kernel, rfl, by decide +kernel, by decide +kernel⟩
theorem scI_same : FnScope ["kind", "info", "given"] ["kind", "info", "given"] (defScope s_same_interval) := ⟨rfl, rfl, rfl, by decide +kernel, rfl, by decide +kernel, by decide +kernel⟩
theorem scI_neg : FnScope ["kind", "info", "given"] ["kind", "info", "given"] (defScope s_neg_interval) := ⟨rfl, rfl, rfl, by decide +kernel, rfl, by decide +kernel, by decide +kernel⟩
theorem scI_pad : FnScope ["kind", "info", "given"] ["kind", "info", "given"] (defScope s_pad_interval) := ⟨rfl, rfl, rfl, by decide +kernel, rfl, by decide +kernel, by decide +kernel⟩
theorem scI_sub : FnScope ["kind", "info", "given"] ["kind", "info", "given"] (defScope s_sub_interval) := ⟨rfl, rfl, rfl, by decide +kernel, rfl, by decide +kernel, by decide +kernel⟩
theorem scI_join : FnScope ["kind", "info", "given"] ["kind", "info", "given"] (defScope s_join_interval) := ⟨rfl, rfl, rfl, by decide +kernel, rfl, by decide +kernel, by decide +kernel⟩
theorem scI_where : FnScope ["kind", "info", "given"] ["kind", "info", "given"] (defScope s_where_interval) := ⟨rfl, rfl, rfl, by decide +kernel, rfl, by decide +kernel, by decide +kernel⟩
theorem scI_input : FnScope ["kind", "info", "given"] ["kind", "info", "given"] (defScope s_input_interval) := ⟨rfl, rfl, rfl, by decide +kernel, rfl, by decide +kernel, by decide +kernel⟩
theorem scI_const : FnScope ["kind", "info", "given"] ["kind", "info", "given"] (defScope s_const_interval) := ⟨rfl, rfl, rfl, by decide +kernel, rfl, by decide +kernel, by decide +kernel⟩
theorem scI_mul : FnScope ["kind", "info", "given"] ["kind", "info", "given"] (defScope s_mul_interval) := ⟨rfl, rfl, rfl, by decide +kernel, rfl, by decide +kernel, by decide +kernel⟩
theorem scI_sum : FnScope ["kind", "info", "given", "size"] ["kind", "info", "given"] (defScope s_sum_interval) := ⟨rfl, rfl, rfl, by decide +kernel, rfl, by decide +kernel, by decide +kernel⟩
theorem scI_fold : FnScope ["kind", "info", "given", "width"] ["kind", "info", "given"] (defScope s_fold_interval) := ⟨rfl, rfl, rfl, by decide +kernel, rfl, by decide +kernel, by decide +kernel⟩
theorem scI_dot : FnScope ["kind", "info", "given", "size", "low", "high"] ["kind", "info", "given"] (defScope s_dot_interval) := ⟨rfl, rfl, rfl, by decide +kernel, rfl, by decide +kernel, by decide +kernel⟩

def spTruth (K : PySem.W.Frag) : Sp := fun vs H Q _ => ∃ (kind : Str) (pi pg : Addr), vs = [.str kind, .ref pi, .ref pg] ∧ IvQ K 0 1 Q H
theorem ok_truth {f : Addr} {fd : FuncData} (F : Fun K "_truth_interval" "_truth_interval" s_truth_interval f fd) : FnOk P w K mg base CX0 1 f fd ["kind", "info", "given"] (spTruth K) := by
  refine F.ok scI_truth (fun vs H Q E h => ?_) (fun cdv A outer s H vs Q E hr h => ?_)
  · obtain ⟨kind, pi, pg, rfl, _⟩ := h
    rfl
  · obtain ⟨kind, pi, pg, rfl, q⟩ := h
    exact ⟨_, (pss_one (ps_ret (pe_tup (pa_cons (pe_int) (pa_cons (pe_int) pa_nil))))), two_line, fun p np => q _ p (same_upd np) (SqT.of upd_same)⟩
theorem sc_ends : FnScope ["domain"] ["domain"] (defScope s_ends) := ⟨rfl, rfl, rfl, by decide +kernel, rfl, by decide +kernel, by decide +kernel⟩
def spEnds (K : PySem.W.Frag) : Sp := fun vs H Q _ => ∃ (v : V) (d : Dom), vs = [v] ∧ DmAt K H v d ∧ IvQ K d.lo d.hi Q H
theorem ok_ends {f : Addr} {fd : FuncData} (F : Fun K "_ends" "_ends" s_ends f fd) : FnOk P w K mg base CX0 1 f fd ["domain"] (spEnds K) := by
  refine F.ok sc_ends (fun vs H Q E h => ?_) (fun cdv A outer s H vs Q E hr h => ?_)
  · obtain ⟨v, d, rfl, _⟩ := h
    rfl
  · obtain ⟨v, d, rfl, ⟨p, a, rfl, h1, h2, h3⟩, q⟩ := h
    refine ⟨_, (pss_one (ps_ret (pe_tup (pa_cons (pe_ix ix_tup (pv 0) pe_int (fun _ _ => rfl)) (pa_cons (pe_ix ix_tup (pv 0) pe_int (fun _ _ => rfl)) pa_nil))))), ?_⟩
    exact ⟨_, rfl, p, _, (1 : Nat), _, rfl, rfl, h1, i1, _, rfl, p, _, (2 : Nat), _, rfl, rfl, h1, i2, two_line, fun p np => q _ p (same_upd np) (SqT.of upd_same)⟩
theorem sc_size : FnScope ["domain", "axis", "sizes"] ["domain", "axis"] (defScope s_size) := ⟨rfl, rfl, rfl, by decide +kernel, rfl, by decide +kernel, by decide +kernel⟩
def spSize_ (K : PySem.W.Frag) : Sp := fun vs H Q _ => ∃ (v : V) (d : Dom) (l : Nat) (z : Int), vs = [v, .str (one l)] ∧ DmAt K H v d ∧ (codes d.sh).Nodup ∧ look d.sh l = some z ∧ ∀ H', Same H H' → Q (.int z) H'
theorem ok_size_ {f : Addr} {fd : FuncData} (F : Fun K "_size" "_size" s_size f fd) (md : mg "dict" = none) : FnOk P w K mg base CX0 1 f fd ["domain", "axis"] (spSize_ K) := by
  refine F.ok sc_size (fun vs H Q E h => ?_) (fun cdv A outer s H vs Q E hr h => ?_)
  · obtain ⟨v, d, l, z, rfl, _⟩ := h
    rfl
  · obtain ⟨v, d, l, z, rfl, ⟨p, a, rfl, h1, ⟨ts, ha, hx⟩, h3⟩, hn, hz, q⟩ := h
    refine ⟨_, (pss_cons (ps_set (i := 2) sc_size.nd rfl (.inl rfl) (pe_callTy (call_dictT (by rfl)) (by rfl) md (by decide +kernel) (pa_cons (pe_ix ix_tup (pv 0) pe_int (fun _ _ => rfl)) pa_nil)))
      (pss_one (ps_ret (pe_dget (Nat.lt_of_le_of_lt (Nat.add_le_add_left (by decide) _) hr.units) (pv 2) (pv 1) (fun _ _ => rfl))))), ?_⟩
    refine ⟨_, rfl, p, _, (0 : Nat), _, rfl, rfl, h1, i0, a, ts, kvsOf d.sh, rfl, ha, h3, paired_kvs hx, fun dd ndd => ?_⟩
    rw [mergeK_kvs hn]
    refine ⟨_, rfl, _, rfl, dd, .int z, rfl, ?_, q _ (same_upd ndd)⟩
    have := DGet.k (k := .inr (one l)) (upd_same (H := H) (a := dd) (o := .dK (kvsOf d.sh)))
    rw [valV_kvs, hz] at this
    exact this
def spSame (K : PySem.W.Frag) : Sp := fun vs H Q _ => ∃ (kind : Str) (pi pg : Addr) (v : V) (rest : List V) (d : Dom), vs = [.str kind, .ref pi, .ref pg] ∧ SqL K H pg (v :: rest) ∧ DmAt K H v d ∧ IvQ K d.lo d.hi Q H
theorem ok_same {f fE : Addr} {fd fdE : FuncData} (F : Fun K "_same_interval" "_same_interval" s_same_interval f fd)
    (GE : FnOk P w K mg base CX0 1 fE fdE ["domain"] (spEnds K)) (kE : PySem.W.keepIn K (.ref fE) = true) (bE : Binds K fdE ["domain"] []) (gE : mg "_ends" = some (.ref fE))
    : FnOk P w K mg base CX0 2 f fd ["kind", "info", "given"] (spSame K) := by
  refine F.ok scI_same (fun vs H Q E h => ?_) (fun cdv A outer s H vs Q E hr h => ?_)
  · obtain ⟨kind, pi, pg, v, rest, d, rfl, _⟩ := h
    rfl
  · obtain ⟨kind, pi, pg, v, rest, d, rfl, hg, hd, q⟩ := h
    exact ⟨_, (pss_one (ps_ret (pe_call GE hr (by rfl) gE kE bE .nil pass0 (pa_cons (pe_ix ix_list (pv 2) (pe_int) (fun _ _ => rfl)) pa_nil)))), _, rfl, pg, _, (0 : Nat), _, rfl, rfl, hg, i0, v, d, rfl, hd, q⟩
/-- of one domain -/
def spIv1 (K : PySem.W.Frag) (g : Int → Int → Int × Int) : Sp := fun vs H Q _ => ∃ (kind : Str) (pi pg : Addr) (v : V) (d : Dom), vs = [.str kind, .ref pi, .ref pg] ∧ SqL K H pg [v] ∧ DmAt K H v d ∧ IvQ K (g d.lo d.hi).1 (g d.lo d.hi).2 Q H
theorem ok_negI {f : Addr} {fd : FuncData} (F : Fun K "_neg_interval" "_neg_interval" s_neg_interval f fd) : FnOk P w K mg base CX0 1 f fd ["kind", "info", "given"] (spIv1 K fun l h => (-h, -l)) := by
  refine F.ok scI_neg (fun vs H Q E h => ?_) (fun cdv A outer s H vs Q E hr h => ?_)
  · obtain ⟨kind, pi, pg, v, d, rfl, _⟩ := h
    rfl
  · obtain ⟨kind, pi, pg, v, d, rfl, hg, ⟨p, a, rfl, h1, h2, h3⟩, q⟩ := h
    exact ⟨_, (pss_one (ps_ret (pe_tup (pa_cons (pe_un un_neg (pe_ix ix_tup (pe_ix ix_list (pv 2) (pe_int) (fun _ _ => rfl)) (pe_int) (fun _ _ => rfl))) (pa_cons (pe_un un_neg (pe_ix ix_tup (pe_ix ix_list (pv 2) (pe_int) (fun _ _ => rfl)) (pe_int) (fun _ _ => rfl))) pa_nil))))), _, rfl, pg, _, (0 : Nat), _, rfl, rfl, hg, i0, p, _, (2 : Nat), _, rfl, rfl, h1, i2, _, rfl, _, rfl, pg, _, (0 : Nat), _, rfl, rfl, hg, i0, p, _, (1 : Nat), _, rfl, rfl, h1, i1, _, rfl, two_line, fun p np => q _ p (same_upd np) (SqT.of upd_same)⟩
theorem ok_padI {f : Addr} {fd : FuncData} (F : Fun K "_pad_interval" "_pad_interval" s_pad_interval f fd) (mi : mg "min" = none) (ma : mg "max" = none) : FnOk P w K mg base CX0 1 f fd ["kind", "info", "given"] (spIv1 K fun l h => (mn l 0, mx h 0)) := by
  refine F.ok scI_pad (fun vs H Q E h => ?_) (fun cdv A outer s H vs Q E hr h => ?_)
  · obtain ⟨kind, pi, pg, v, d, rfl, _⟩ := h
    rfl
  · obtain ⟨kind, pi, pg, v, d, rfl, hg, ⟨p, a, rfl, h1, h2, h3⟩, q⟩ := h
    exact ⟨_, (pss_one (ps_ret (pe_tup (pa_cons (pe_callB (call_min2 rfl) (by rfl) mi (by decide +kernel) (pa_cons (pe_ix ix_tup (pe_ix ix_list (pv 2) (pe_int) (fun _ _ => rfl)) (pe_int) (fun _ _ => rfl)) (pa_cons (pe_int) pa_nil))) (pa_cons (pe_callB (call_max2 rfl) (by rfl) ma (by decide +kernel) (pa_cons (pe_ix ix_tup (pe_ix ix_list (pv 2) (pe_int) (fun _ _ => rfl)) (pe_int) (fun _ _ => rfl)) (pa_cons (pe_int) pa_nil))) pa_nil))))), _, rfl, pg, _, (0 : Nat), _, rfl, rfl, hg, i0, p, _, (1 : Nat), _, rfl, rfl, h1, i1, _, _, rfl, _, rfl, pg, _, (0 : Nat), _, rfl, rfl, hg, i0, p, _, (2 : Nat), _, rfl, rfl, h1, i2, _, _, rfl, two_line, fun p np => q _ p (same_upd np) (SqT.of upd_same)⟩
/-- of two domains -/
def spIv2 (K : PySem.W.Frag) (g : Int → Int → Int → Int → Int × Int) : Sp := fun vs H Q _ => ∃ (kind : Str) (pi pg : Addr) (v u : V) (d e : Dom), vs = [.str kind, .ref pi, .ref pg] ∧ SqL K H pg [v, u] ∧ DmAt K H v d ∧ DmAt K H u e ∧ Bg 300 d.lo ∧ Bg 300 d.hi ∧ Bg 300 e.lo ∧ Bg 300 e.hi ∧ IvQ K (g d.lo d.hi e.lo e.hi).1 (g d.lo d.hi e.lo e.hi).2 Q H
theorem ok_subI {f : Addr} {fd : FuncData} (F : Fun K "_sub_interval" "_sub_interval" s_sub_interval f fd) : FnOk P w K mg base CX0 1 f fd ["kind", "info", "given"] (spIv2 K fun l h p q => (l - q, h - p)) := by
  refine F.ok scI_sub (fun vs H Q E h => ?_) (fun cdv A outer s H vs Q E hr h => ?_)
  · obtain ⟨kind, pi, pg, v, u, d, e, rfl, _⟩ := h
    rfl
  · obtain ⟨kind, pi, pg, v, u, d, e, rfl, hg, ⟨p, a, rfl, h1, h2, h3⟩, ⟨p', a', rfl, k1, k2, k3⟩, _, _, _, _, q⟩ := h
    exact ⟨_, (pss_one (ps_ret (pe_tup (pa_cons (pe_op op_sub (pe_ix ix_tup (pe_ix ix_list (pv 2) (pe_int) (fun _ _ => rfl)) (pe_int) (fun _ _ => rfl)) (pe_ix ix_tup (pe_ix ix_list (pv 2) (pe_int) (fun _ _ => rfl)) (pe_int) (fun _ _ => rfl))) (pa_cons (pe_op op_sub (pe_ix ix_tup (pe_ix ix_list (pv 2) (pe_int) (fun _ _ => rfl)) (pe_int) (fun _ _ => rfl)) (pe_ix ix_tup (pe_ix ix_list (pv 2) (pe_int) (fun _ _ => rfl)) (pe_int) (fun _ _ => rfl))) pa_nil))))), _, rfl, pg, _, (0 : Nat), _, rfl, rfl, hg, i0, p, _, (1 : Nat), _, rfl, rfl, h1, i1, _, rfl, pg, _, (1 : Nat), _, rfl, rfl, hg, i1, p', _, (2 : Nat), _, rfl, rfl, k1, i2, _, _, rfl, rfl,
      _, rfl, pg, _, (0 : Nat), _, rfl, rfl, hg, i0, p, _, (2 : Nat), _, rfl, rfl, h1, i2, _, rfl, pg, _, (1 : Nat), _, rfl, rfl, hg, i1, p', _, (1 : Nat), _, rfl, rfl, k1, i1, _, _, rfl, rfl, two_line, fun p np => q _ p (same_upd np) (SqT.of upd_same)⟩
theorem ok_joinI {f : Addr} {fd : FuncData} (F : Fun K "_join_interval" "_join_interval" s_join_interval f fd) (mi : mg "min" = none) (ma : mg "max" = none) : FnOk P w K mg base CX0 1 f fd ["kind", "info", "given"] (spIv2 K fun l h p q => (mn l p, mx h q)) := by
  refine F.ok scI_join (fun vs H Q E h => ?_) (fun cdv A outer s H vs Q E hr h => ?_)
  · obtain ⟨kind, pi, pg, v, u, d, e, rfl, _⟩ := h
    rfl
  · obtain ⟨kind, pi, pg, v, u, d, e, rfl, hg, ⟨p, a, rfl, h1, h2, h3⟩, ⟨p', a', rfl, k1, k2, k3⟩, _, _, _, _, q⟩ := h
    exact ⟨_, (pss_one (ps_ret (pe_tup (pa_cons (pe_callB (call_min2 rfl) (by rfl) mi (by decide +kernel) (pa_cons (pe_ix ix_tup (pe_ix ix_list (pv 2) (pe_int) (fun _ _ => rfl)) (pe_int) (fun _ _ => rfl)) (pa_cons (pe_ix ix_tup (pe_ix ix_list (pv 2) (pe_int) (fun _ _ => rfl)) (pe_int) (fun _ _ => rfl)) pa_nil))) (pa_cons (pe_callB (call_max2 rfl) (by rfl) ma (by decide +kernel) (pa_cons (pe_ix ix_tup (pe_ix ix_list (pv 2) (pe_int) (fun _ _ => rfl)) (pe_int) (fun _ _ => rfl)) (pa_cons (pe_ix ix_tup (pe_ix ix_list (pv 2) (pe_int) (fun _ _ => rfl)) (pe_int) (fun _ _ => rfl)) pa_nil))) pa_nil))))), _, rfl, pg, _, (0 : Nat), _, rfl, rfl, hg, i0, p, _, (1 : Nat), _, rfl, rfl, h1, i1, _, rfl, pg, _, (1 : Nat), _, rfl, rfl, hg, i1, p', _, (1 : Nat), _, rfl, rfl, k1, i1, _, _, rfl,
      _, rfl, pg, _, (0 : Nat), _, rfl, rfl, hg, i0, p, _, (2 : Nat), _, rfl, rfl, h1, i2, _, rfl, pg, _, (1 : Nat), _, rfl, rfl, hg, i1, p', _, (2 : Nat), _, rfl, rfl, k1, i2, _, _, rfl, two_line, fun p np => q _ p (same_upd np) (SqT.of upd_same)⟩
def spWhereI (K : PySem.W.Frag) : Sp := fun vs H Q _ => ∃ (kind : Str) (pi pg : Addr) (x v u : V) (c d e : Dom), vs = [.str kind, .ref pi, .ref pg] ∧ SqL K H pg [x, v, u] ∧ DmAt K H x c ∧ DmAt K H v d ∧ DmAt K H u e ∧ IvQ K (mn d.lo e.lo) (mx d.hi e.hi) Q H
theorem ok_whereI {f : Addr} {fd : FuncData} (F : Fun K "_where_interval" "_where_interval" s_where_interval f fd) (mi : mg "min" = none) (ma : mg "max" = none) : FnOk P w K mg base CX0 1 f fd ["kind", "info", "given"] (spWhereI K) := by
  refine F.ok scI_where (fun vs H Q E h => ?_) (fun cdv A outer s H vs Q E hr h => ?_)
  · obtain ⟨kind, pi, pg, x, v, u, c, d, e, rfl, _⟩ := h
    rfl
  · obtain ⟨kind, pi, pg, x, v, u, c, d, e, rfl, hg, _, ⟨p, a, rfl, h1, h2, h3⟩, ⟨p', a', rfl, k1, k2, k3⟩, q⟩ := h
    exact ⟨_, (pss_one (ps_ret (pe_tup (pa_cons (pe_callB (call_min2 rfl) (by rfl) mi (by decide +kernel) (pa_cons (pe_ix ix_tup (pe_ix ix_list (pv 2) (pe_int) (fun _ _ => rfl)) (pe_int) (fun _ _ => rfl)) (pa_cons (pe_ix ix_tup (pe_ix ix_list (pv 2) (pe_int) (fun _ _ => rfl)) (pe_int) (fun _ _ => rfl)) pa_nil))) (pa_cons (pe_callB (call_max2 rfl) (by rfl) ma (by decide +kernel) (pa_cons (pe_ix ix_tup (pe_ix ix_list (pv 2) (pe_int) (fun _ _ => rfl)) (pe_int) (fun _ _ => rfl)) (pa_cons (pe_ix ix_tup (pe_ix ix_list (pv 2) (pe_int) (fun _ _ => rfl)) (pe_int) (fun _ _ => rfl)) pa_nil))) pa_nil))))), _, rfl, pg, _, (1 : Nat), _, rfl, rfl, hg, i1, p, _, (1 : Nat), _, rfl, rfl, h1, i1, _, rfl, pg, _, (2 : Nat), _, rfl, rfl, hg, i2, p', _, (1 : Nat), _, rfl, rfl, k1, i1, _, _, rfl,
      _, rfl, pg, _, (1 : Nat), _, rfl, rfl, hg, i1, p, _, (2 : Nat), _, rfl, rfl, h1, i2, _, rfl, pg, _, (2 : Nat), _, rfl, rfl, hg, i2, p', _, (2 : Nat), _, rfl, rfl, k1, i2, _, _, rfl, two_line, fun p np => q _ p (same_upd np) (SqT.of upd_same)⟩
def spInputI (K : PySem.W.Frag) : Sp := fun vs H Q _ => ∃ (kind : Str) (pi pg : Addr) (x : V) (lo hi : Int), vs = [.str kind, .ref pi, .ref pg] ∧ SqT K H pi [x, .int lo, .int hi] ∧ IvQ K lo hi Q H
theorem ok_inputI {f : Addr} {fd : FuncData} (F : Fun K "_input_interval" "_input_interval" s_input_interval f fd) : FnOk P w K mg base CX0 1 f fd ["kind", "info", "given"] (spInputI K) := by
  refine F.ok scI_input (fun vs H Q E h => ?_) (fun cdv A outer s H vs Q E hr h => ?_)
  · obtain ⟨kind, pi, pg, x, lo, hi, rfl, _⟩ := h
    rfl
  · obtain ⟨kind, pi, pg, x, lo, hi, rfl, hi', q⟩ := h
    exact ⟨_, (pss_one (ps_ret (pe_tup (pa_cons (pe_ix ix_tup (pv 1) pe_int (fun _ _ => rfl)) (pa_cons (pe_ix ix_tup (pv 1) pe_int (fun _ _ => rfl)) pa_nil))))), _, rfl, pi, _, (1 : Nat), _, rfl, rfl, hi', i1, _, rfl, pi, _, (2 : Nat), _, rfl, rfl, hi', i2, two_line, fun p np => q _ p (same_upd np) (SqT.of upd_same)⟩
/-- the least, the greatest -/
def lst : List Int → Int
  | [] => 0
  | [a] => a
  | a :: l => mn a (lst l)
def grt : List Int → Int
  | [] => 0
  | [a] => a
  | a :: l => mx a (grt l)
theorem lst_le : ∀ (l : List Int), ∀ y ∈ l, lst l ≤ y
  | [], y, h => by cases h
  | [a], y, h => by
    rw [List.mem_singleton] at h
    rw [h]
    exact Int.le_refl _
  | a :: b :: l, y, h => by
    show mn a (lst (b :: l)) ≤ y
    unfold mn
    rcases List.mem_cons.mp h with rfl | h
    · split <;> omega
    · have := lst_le (b :: l) y h
      split <;> omega
theorem lst_mem : ∀ (l : List Int), l ≠ [] → lst l ∈ l
  | [], h => absurd rfl h
  | [a], _ => List.mem_cons_self
  | a :: b :: l, _ => by
    show mn a (lst (b :: l)) ∈ _
    unfold mn
    split
    · exact List.mem_cons_of_mem _ (lst_mem (b :: l) (List.cons_ne_nil _ _))
    · exact List.mem_cons_self
theorem le_grt : ∀ (l : List Int), ∀ y ∈ l, y ≤ grt l
  | [], y, h => by cases h
  | [a], y, h => by
    rw [List.mem_singleton] at h
    rw [h]
    exact Int.le_refl _
  | a :: b :: l, y, h => by
    show y ≤ mx a (grt (b :: l))
    unfold mx
    rcases List.mem_cons.mp h with rfl | h
    · split <;> omega
    · have := le_grt (b :: l) y h
      split <;> omega
theorem grt_mem : ∀ (l : List Int), l ≠ [] → grt l ∈ l
  | [], h => absurd rfl h
  | [a], _ => List.mem_cons_self
  | a :: b :: l, _ => by
    show mx a (grt (b :: l)) ∈ _
    unfold mx
    split
    · exact List.mem_cons_of_mem _ (grt_mem (b :: l) (List.cons_ne_nil _ _))
    · exact List.mem_cons_self
theorem lst_is {l : List Int} {m : Int} (h : m ∈ l) (h2 : ∀ y ∈ l, m ≤ y) : m = lst l := by
  have h0 : l ≠ [] := fun e => by rw [e] at h; cases h
  have := lst_le l m h
  have := h2 _ (lst_mem l h0)
  omega
theorem grt_is {l : List Int} {m : Int} (h : m ∈ l) (h2 : ∀ y ∈ l, y ≤ m) : m = grt l := by
  have h0 : l ≠ [] := fun e => by rw [e] at h; cases h
  have := le_grt l m h
  have := h2 _ (grt_mem l h0)
  omega
def spConstI (K : PySem.W.Frag) : Sp := fun vs H Q _ => ∃ (kind : Str) (pi pg pd : Addr) (x : V) (ns : List Int), vs = [.str kind, .ref pi, .ref pg] ∧ SqT K H pi [x, .ref pd] ∧ SqT K H pd (ns.map V.int) ∧ ns ≠ [] ∧ IvQ K (lst ns) (grt ns) Q H
theorem ok_constI {f : Addr} {fd : FuncData} (F : Fun K "_const_interval" "_const_interval" s_const_interval f fd) (mi : mg "min" = none) (ma : mg "max" = none) : FnOk P w K mg base CX0 1 f fd ["kind", "info", "given"] (spConstI K) := by
  refine F.ok scI_const (fun vs H Q E h => ?_) (fun cdv A outer s H vs Q E hr h => ?_)
  · obtain ⟨kind, pi, pg, pd, x, ns, rfl, _⟩ := h
    rfl
  · obtain ⟨kind, pi, pg, pd, x, ns, rfl, hi', hd, hne, q⟩ := h
    have hl : 0 < ns.length := List.length_pos_iff.mpr hne
    refine ⟨_, (pss_one (ps_ret (pe_tup (pa_cons (pe_callB (cr_minT (by rfl)) (by rfl) mi (by decide +kernel) (pa_cons (pe_ix ix_tup (pv 1) pe_int (fun _ _ => rfl)) pa_nil)) (pa_cons (pe_callB (cr_maxT (by rfl)) (by rfl) ma (by decide +kernel) (pa_cons (pe_ix ix_tup (pv 1) pe_int (fun _ _ => rfl)) pa_nil)) pa_nil))))), _, rfl, pi, _, (1 : Nat), _, rfl, rfl, hi', i1, pd, ns, rfl, hd, hl, fun m1 e1 e2 => ⟨_, rfl, pi, _, (1 : Nat), _, rfl, rfl, hi', i1, pd, ns, rfl, hd, hl, fun m2 e3 e4 => ⟨two_line, fun p np => q _ p (same_upd np) ?_⟩⟩⟩
    rw [lst_is e1 e2, grt_is e3 e4]
    exact SqT.of upd_same
def corn (l h p q : Int) : List Int := [l * p, l * q, h * p, h * q]
theorem sc_corners : FnScope ["one", "other", "ends"] ["one", "other"] (defScope scorners) := ⟨rfl, rfl, rfl, by decide +kernel, rfl, by decide +kernel, by decide +kernel⟩
def spCorners (K : PySem.W.Frag) : Sp := fun vs H Q _ => ∃ (p1 p2 : Addr) (l h p q : Int), vs = [.ref p1, .ref p2] ∧ SqT K H p1 [.int l, .int h] ∧ SqT K H p2 [.int p, .int q] ∧ Bg 300 l ∧ Bg 300 h ∧ Bg 300 p ∧ Bg 300 q ∧ IvQ K (lst (corn l h p q)) (grt (corn l h p q)) Q H
theorem ok_corners {f : Addr} {fd : FuncData} (F : Fun K "corners" "corners" scorners f fd) (mi : mg "min" = none) (ma : mg "max" = none) : FnOk P w K mg base CX0 1 f fd ["one", "other"] (spCorners K) := by
  refine F.ok sc_corners (fun vs H Q E h => ?_) (fun cdv A outer s H vs Q E hr h => ?_)
  · obtain ⟨p1, p2, l, h, p, q, rfl, _⟩ := h
    rfl
  · obtain ⟨p1, p2, l, h, p, q, rfl, hp1, hp2, b1, b2, b3, b4, hq⟩ := h
    have c : ∀ {x y : Int}, Bg 300 x → Bg 300 y → CMulW x y := fun a b => Bg.cmul a b (by decide) (by decide) (by decide)
    refine ⟨_, (pss_cons (ps_set (i := 2) sc_corners.nd rfl (.inl rfl) (pe_lst (pa_cons (pe_op op_mulW (pe_ix ix_tup (pv 0) pe_int (fun _ _ => rfl)) (pe_ix ix_tup (pv 1) pe_int (fun _ _ => rfl))) (pa_cons (pe_op op_mulW (pe_ix ix_tup (pv 0) pe_int (fun _ _ => rfl)) (pe_ix ix_tup (pv 1) pe_int (fun _ _ => rfl))) (pa_cons (pe_op op_mulW (pe_ix ix_tup (pv 0) pe_int (fun _ _ => rfl)) (pe_ix ix_tup (pv 1) pe_int (fun _ _ => rfl))) (pa_cons (pe_op op_mulW (pe_ix ix_tup (pv 0) pe_int (fun _ _ => rfl)) (pe_ix ix_tup (pv 1) pe_int (fun _ _ => rfl))) pa_nil))))))
      (pss_one (ps_ret (pe_tup (pa_cons (pe_callB (cr_min (by rfl)) (by rfl) mi (by decide +kernel) (pa_cons (pv 2) pa_nil)) (pa_cons (pe_callB (cr_max (by rfl)) (by rfl) ma (by decide +kernel) (pa_cons (pv 2) pa_nil)) pa_nil)))))), ?_⟩
    refine ⟨_, rfl, p1, _, (0 : Nat), _, rfl, rfl, hp1, i0, _, rfl, p2, _, (0 : Nat), _, rfl, rfl, hp2, i0, _, _, rfl, rfl, c b1 b3, ?_⟩
    refine ⟨_, rfl, p1, _, (0 : Nat), _, rfl, rfl, hp1, i0, _, rfl, p2, _, (1 : Nat), _, rfl, rfl, hp2, i1, _, _, rfl, rfl, c b1 b4, ?_⟩
    refine ⟨_, rfl, p1, _, (1 : Nat), _, rfl, rfl, hp1, i1, _, rfl, p2, _, (0 : Nat), _, rfl, rfl, hp2, i0, _, _, rfl, rfl, c b2 b3, ?_⟩
    refine ⟨_, rfl, p1, _, (1 : Nat), _, rfl, rfl, hp1, i1, _, rfl, p2, _, (1 : Nat), _, rfl, rfl, hp2, i1, _, _, rfl, rfl, c b2 b4, by show 4 ≤ sizeLine; decide, fun pe npe => ?_⟩
    have hpe : SqL K (upd H pe (.lst ((corn l h p q).map V.int))) pe ((corn l h p q).map V.int) := SqL.of upd_same
    have s1 := same_upd (o := .lst ((corn l h p q).map V.int)) npe
    refine ⟨_, rfl, pe, corn l h p q, rfl, hpe, (by show 0 < 4; decide), fun m1 e1 e2 => ⟨_, rfl, pe, corn l h p q, rfl, hpe, (by show 0 < 4; decide), fun m2 e3 e4 => ⟨two_line, fun p5 np5 => hq _ p5 (s1.trans (same_upd np5)) ?_⟩⟩⟩
    rw [lst_is e1 e2, grt_is e3 e4]
    exact SqT.of upd_same
theorem ok_mulI {f fE fCo : Addr} {fd fdE fdCo : FuncData} (F : Fun K "_mul_interval" "_mul_interval" s_mul_interval f fd)
    (GE : FnOk P w K mg base CX0 1 fE fdE ["domain"] (spEnds K)) (kE : PySem.W.keepIn K (.ref fE) = true) (bE : Binds K fdE ["domain"] []) (gE : mg "_ends" = some (.ref fE))
    (GCo : FnOk P w K mg base CX0 1 fCo fdCo ["one", "other"] (spCorners K)) (kCo : PySem.W.keepIn K (.ref fCo) = true) (bCo : Binds K fdCo ["one", "other"] []) (gCo : mg "corners" = some (.ref fCo))
    : FnOk P w K mg base CX0 2 f fd ["kind", "info", "given"] (spIv2 K fun l h p q => (lst (corn l h p q), grt (corn l h p q))) := by
  refine F.ok scI_mul (fun vs H Q E h => ?_) (fun cdv A outer s H vs Q E hr h => ?_)
  · obtain ⟨kind, pi, pg, v, u, d, e, rfl, _⟩ := h
    rfl
  · obtain ⟨kind, pi, pg, v, u, d, e, rfl, hg, hd, he, b1, b2, b3, b4, q⟩ := h
    exact ⟨_, (pss_one (ps_ret (pe_call GCo hr (by rfl) gCo kCo bCo .nil pass0 (pa_cons (pe_call GE hr (by rfl) gE kE bE .nil pass0 (pa_cons (pe_ix ix_list (pv 2) (pe_int) (fun _ _ => rfl)) pa_nil)) (pa_cons (pe_call GE hr (by rfl) gE kE bE .nil pass0 (pa_cons (pe_ix ix_list (pv 2) (pe_int) (fun _ _ => rfl)) pa_nil)) pa_nil))))), _, rfl, pg, _, (0 : Nat), _, rfl, rfl, hg, i0, v, d, rfl, hd, fun H1 p1 s1 hp1 => ⟨_, rfl, pg, _, (1 : Nat), _, rfl, rfl, sqL_same hg s1, i1, u, e, rfl, he.same s1, fun H2 p2 s2 hp2 =>
      ⟨p1, p2, _, _, _, _, rfl, sqT_same hp1 s2, hp2, b1, b2, b3, b4, fun H3 p3 s3 hp3 => q H3 p3 ((s1.trans s2).trans s3) hp3⟩⟩⟩
def spSumI (K : PySem.W.Frag) : Sp := fun vs H Q _ => ∃ (kind : Str) (pi pg : Addr) (v : V) (d : Dom) (l : Nat) (z : Int) (rest : List V), vs = [.str kind, .ref pi, .ref pg] ∧ SqL K H pg [v] ∧ DmAt K H v d ∧ SqT K H pi (.str (one l) :: rest) ∧ (codes d.sh).Nodup ∧ look d.sh l = some z ∧ Bg 300 z ∧ Bg 300 d.lo ∧ Bg 300 d.hi ∧ IvQ K (z * d.lo) (z * d.hi) Q H
theorem ok_sumI {f fZ : Addr} {fd fdZ : FuncData} (F : Fun K "_sum_interval" "_sum_interval" s_sum_interval f fd)
    (GZ : FnOk P w K mg base CX0 1 fZ fdZ ["domain", "axis"] (spSize_ K)) (kZ : PySem.W.keepIn K (.ref fZ) = true) (bZ : Binds K fdZ ["domain", "axis"] []) (gZ : mg "_size" = some (.ref fZ))
    : FnOk P w K mg base CX0 2 f fd ["kind", "info", "given"] (spSumI K) := by
  refine F.ok scI_sum (fun vs H Q E h => ?_) (fun cdv A outer s H vs Q E hr h => ?_)
  · obtain ⟨kind, pi, pg, v, d, l, z, rest, rfl, _⟩ := h
    rfl
  · obtain ⟨kind, pi, pg, v, d, l, z, rest, rfl, hg, hd, hi', hn, hz, b0, b1, b2, q⟩ := h
    have c : ∀ {x y : Int}, Bg 300 x → Bg 300 y → CMulW x y := fun a b => Bg.cmul a b (by decide) (by decide) (by decide)
    refine ⟨_, (pss_cons (ps_set (i := 3) scI_sum.nd rfl (.inl rfl) (pe_call GZ hr (by rfl) gZ kZ bZ .nil pass0 (pa_cons (pe_ix ix_list (pv 2) (pe_int) (fun _ _ => rfl)) (pa_cons (pe_ix ix_tup (pv 1) pe_int (fun _ _ => rfl)) pa_nil))))
      (pss_one (ps_ret (pe_tup (pa_cons (pe_op op_mulW (pv 3) (pe_ix ix_tup (pe_ix ix_list (pv 2) (pe_int) (fun _ _ => rfl)) (pe_int) (fun _ _ => rfl))) (pa_cons (pe_op op_mulW (pv 3) (pe_ix ix_tup (pe_ix ix_list (pv 2) (pe_int) (fun _ _ => rfl)) (pe_int) (fun _ _ => rfl))) pa_nil)))))), _, rfl, pg, _, (0 : Nat), _, rfl, rfl, hg, i0, _, rfl, pi, _, (0 : Nat), _, rfl, rfl, hi', i0, v, d, l, z, rfl, hd, hn, hz, fun H1 s1 => ?_⟩
    obtain ⟨p, a, rfl, h1, h2, h3⟩ := hd.same s1
    have hg1 := sqL_same hg s1
    exact ⟨_, rfl, _, rfl, pg, _, (0 : Nat), _, rfl, rfl, hg1, i0, p, _, (1 : Nat), _, rfl, rfl, h1, i1, _, _, rfl, rfl, c b0 b1, _, rfl, _, rfl, pg, _, (0 : Nat), _, rfl, rfl, hg1, i0, p, _, (2 : Nat), _, rfl, rfl, h1, i2, _, _, rfl, rfl, c b0 b2, two_line, fun p np => q _ p (s1.trans (same_upd np)) (SqT.of upd_same)⟩
def spFoldI (K : PySem.W.Frag) : Sp := fun vs H Q _ => ∃ (kind : Str) (pi pg : Addr) (v : V) (d : Dom) (l : Nat) (z : Int) (x : V) (rest : List V), vs = [.str kind, .ref pi, .ref pg] ∧ SqL K H pg [v] ∧ DmAt K H v d ∧ SqT K H pi (x :: .str (one l) :: rest) ∧ (codes d.sh).Nodup ∧ look d.sh l = some z ∧ Bg 300 z ∧ Bg 300 d.lo ∧ Bg 300 d.hi ∧ IvQ K (mn (z * d.lo) 0) (mx (z * d.hi) 0) Q H
theorem ok_foldI {f fZ : Addr} {fd fdZ : FuncData} (F : Fun K "_fold_interval" "_fold_interval" s_fold_interval f fd) (mi : mg "min" = none) (ma : mg "max" = none)
    (GZ : FnOk P w K mg base CX0 1 fZ fdZ ["domain", "axis"] (spSize_ K)) (kZ : PySem.W.keepIn K (.ref fZ) = true) (bZ : Binds K fdZ ["domain", "axis"] []) (gZ : mg "_size" = some (.ref fZ))
    : FnOk P w K mg base CX0 2 f fd ["kind", "info", "given"] (spFoldI K) := by
  refine F.ok scI_fold (fun vs H Q E h => ?_) (fun cdv A outer s H vs Q E hr h => ?_)
  · obtain ⟨kind, pi, pg, v, d, l, z, x, rest, rfl, _⟩ := h
    rfl
  · obtain ⟨kind, pi, pg, v, d, l, z, x, rest, rfl, hg, hd, hi', hn, hz, b0, b1, b2, q⟩ := h
    have c : ∀ {x y : Int}, Bg 300 x → Bg 300 y → CMulW x y := fun a b => Bg.cmul a b (by decide) (by decide) (by decide)
    refine ⟨_, (pss_cons (ps_set (i := 3) scI_fold.nd rfl (.inl rfl) (pe_call GZ hr (by rfl) gZ kZ bZ .nil pass0 (pa_cons (pe_ix ix_list (pv 2) (pe_int) (fun _ _ => rfl)) (pa_cons (pe_ix ix_tup (pv 1) pe_int (fun _ _ => rfl)) pa_nil))))
      (pss_one (ps_ret (pe_tup (pa_cons (pe_callB (call_min2 rfl) (by rfl) mi (by decide +kernel) (pa_cons (pe_op op_mulW (pv 3) (pe_ix ix_tup (pe_ix ix_list (pv 2) (pe_int) (fun _ _ => rfl)) (pe_int) (fun _ _ => rfl))) (pa_cons (pe_int) pa_nil))) (pa_cons (pe_callB (call_max2 rfl) (by rfl) ma (by decide +kernel) (pa_cons (pe_op op_mulW (pv 3) (pe_ix ix_tup (pe_ix ix_list (pv 2) (pe_int) (fun _ _ => rfl)) (pe_int) (fun _ _ => rfl))) (pa_cons (pe_int) pa_nil))) pa_nil)))))), _, rfl, pg, _, (0 : Nat), _, rfl, rfl, hg, i0, _, rfl, pi, _, (1 : Nat), _, rfl, rfl, hi', i1, v, d, l, z, rfl, hd, hn, hz, fun H1 s1 => ?_⟩
    obtain ⟨p, a, rfl, h1, h2, h3⟩ := hd.same s1
    have hg1 := sqL_same hg s1
    exact ⟨_, rfl, _, rfl, pg, _, (0 : Nat), _, rfl, rfl, hg1, i0, p, _, (1 : Nat), _, rfl, rfl, h1, i1, _, _, rfl, rfl, c b0 b1, _, _, rfl, _, rfl, _, rfl, pg, _, (0 : Nat), _, rfl, rfl, hg1, i0, p, _, (2 : Nat), _, rfl, rfl, h1, i2, _, _, rfl, rfl, c b0 b2, _, _, rfl, two_line, fun p np => q _ p (s1.trans (same_upd np)) (SqT.of upd_same)⟩
def spDotI (K : PySem.W.Frag) : Sp := fun vs H Q _ => ∃ (kind : Str) (pi pg : Addr) (v u : V) (d e : Dom) (l : Nat) (z : Int) (rest : List V), vs = [.str kind, .ref pi, .ref pg] ∧ SqL K H pg [v, u] ∧ DmAt K H v d ∧ DmAt K H u e ∧ SqT K H pi (.str (one l) :: rest) ∧ (codes d.sh).Nodup ∧ look d.sh l = some z ∧ Bg 300 z ∧ Bg 300 d.lo ∧ Bg 300 d.hi ∧ Bg 300 e.lo ∧ Bg 300 e.hi ∧
  IvQ K (z * lst (corn d.lo d.hi e.lo e.hi)) (z * grt (corn d.lo d.hi e.lo e.hi)) Q H
theorem corn_bg {l h p q x : Int} (b1 : Bg 300 l) (b2 : Bg 300 h) (b3 : Bg 300 p) (b4 : Bg 300 q) (hx : x ∈ corn l h p q) : Bg 600 x := by
  unfold corn at hx
  simp only [List.mem_cons, List.not_mem_nil, or_false] at hx
  rcases hx with rfl | rfl | rfl | rfl
  · exact b1.mul b3
  · exact b1.mul b4
  · exact b2.mul b3
  · exact b2.mul b4
theorem ok_dotI {f fE fCo fZ : Addr} {fd fdE fdCo fdZ : FuncData} (F : Fun K "_dot_interval" "_dot_interval" s_dot_interval f fd)
    (GE : FnOk P w K mg base CX0 1 fE fdE ["domain"] (spEnds K)) (kE : PySem.W.keepIn K (.ref fE) = true) (bE : Binds K fdE ["domain"] []) (gE : mg "_ends" = some (.ref fE))
    (GCo : FnOk P w K mg base CX0 1 fCo fdCo ["one", "other"] (spCorners K)) (kCo : PySem.W.keepIn K (.ref fCo) = true) (bCo : Binds K fdCo ["one", "other"] []) (gCo : mg "corners" = some (.ref fCo))
    (GZ : FnOk P w K mg base CX0 1 fZ fdZ ["domain", "axis"] (spSize_ K)) (kZ : PySem.W.keepIn K (.ref fZ) = true) (bZ : Binds K fdZ ["domain", "axis"] []) (gZ : mg "_size" = some (.ref fZ))
    : FnOk P w K mg base CX0 2 f fd ["kind", "info", "given"] (spDotI K) := by
  refine F.ok scI_dot (fun vs H Q E h => ?_) (fun cdv A outer s H vs Q E hr h => ?_)
  · obtain ⟨kind, pi, pg, v, u, d, e, l, z, rest, rfl, _⟩ := h
    rfl
  · obtain ⟨kind, pi, pg, v, u, d, e, l, z, rest, rfl, hg, hd, he, hi', hn, hz, b0, b1, b2, b3, b4, q⟩ := h
    have c : ∀ {y : Int}, Bg 600 y → CMulW z y := fun b => Bg.cmul b0 b (by decide) (by decide) (by decide)
    have hne : corn d.lo d.hi e.lo e.hi ≠ [] := List.cons_ne_nil _ _
    refine ⟨_, (pss_cons (ps_set (i := 3) scI_dot.nd rfl (.inl rfl) (pe_call GZ hr (by rfl) gZ kZ bZ .nil pass0 (pa_cons (pe_ix ix_list (pv 2) (pe_int) (fun _ _ => rfl)) (pa_cons (pe_ix ix_tup (pv 1) pe_int (fun _ _ => rfl)) pa_nil))))
      (pss_cons (ps_asg (pe_call GCo hr (by rfl) gCo kCo bCo .nil pass0 (pa_cons (pe_call GE hr (by rfl) gE kE bE .nil pass0 (pa_cons (pe_ix ix_list (pv 2) (pe_int) (fun _ _ => rfl)) pa_nil)) (pa_cons (pe_call GE hr (by rfl) gE kE bE .nil pass0 (pa_cons (pe_ix ix_list (pv 2) (pe_int) (fun _ _ => rfl)) pa_nil)) pa_nil))) (pg_tup rfl (pgs_cons (pg_name (i := 4) scI_dot.nd rfl (.inl rfl)) (pgs_cons (pg_name (i := 5) scI_dot.nd rfl (.inl rfl)) pgs_nil))))
      (pss_one (ps_ret (pe_tup (pa_cons (pe_op op_mulW (pv 3) (pv 4)) (pa_cons (pe_op op_mulW (pv 3) (pv 5)) pa_nil))))))), _, rfl, pg, _, (0 : Nat), _, rfl, rfl, hg, i0, _, rfl, pi, _, (0 : Nat), _, rfl, rfl, hi', i0, v, d, l, z, rfl, hd, hn, hz, fun H1 s1 => ?_⟩
    refine ⟨_, rfl, pg, _, (0 : Nat), _, rfl, rfl, sqL_same hg s1, i0, v, d, rfl, hd.same s1, fun H2 p2 s2 hp2 => ⟨_, rfl, pg, _, (1 : Nat), _, rfl, rfl, sqL_same hg (s1.trans s2), i1, u, e, rfl, he.same (s1.trans s2), fun H3 p3 s3 hp3 => ?_⟩⟩
    refine ⟨p2, p3, _, _, _, _, rfl, sqT_same hp2 s3, hp3, b1, b2, b3, b4, fun H4 p4 s4 hp4 => ?_⟩
    have s14 := ((s1.trans s2).trans s3).trans s4
    refine ⟨p4, _, rfl, hp4, rfl, _, _, rfl, _, _, rfl, rfl, ?_⟩
    exact ⟨_, rfl, _, rfl, _, _, rfl, rfl, c (corn_bg b1 b2 b3 b4 (lst_mem _ hne)), _, rfl, _, rfl, _, _, rfl, rfl, c (corn_bg b1 b2 b3 b4 (grt_mem _ hne)), two_line, fun p np => q _ p (s14.trans (same_upd np)) (SqT.of upd_same)⟩
end

section
variable {P : Program} {w : World} {K : PySem.W.Frag} {mg : Str → Option Value} {base : Heap}
abbrev nRis : List Str := ["kind", "info", "given", "lows", "highs", "domain"]
theorem scRis : FnScope nRis ["kind", "info", "given"] (defScope s_rising_interval) := ⟨rfl, rfl, rfl, by decide +kernel, rfl, by decide +kernel, by decide +kernel⟩
def spRising (P : Program) (w : World) (K : PySem.W.Frag) (mg : Str → Option Value) (base : Heap) (aM : Addr) : Sp := fun vs H Q _ => ∃ (kind : Str) (pi pg : Addr) (us : List V) (ds : List Dom) (sp : Sp) (g : List Int → Int), vs = [.str kind, .ref pi, .ref pg] ∧ SqL K H pg us ∧ Dms K H us ds ∧ ds.length ≤ 3 ∧
  Mak P w K mg base aM kind sp ∧ (∀ (ns : List Int) (H' : Hp) (p : Addr) (Q' : VK), (ns = ds.map (·.lo) ∨ ns = ds.map (·.hi)) → Same H H' → SqT K H' p (ns.map V.int) → Q' (.int (g ns)) H' → sp [.ref p, .ref pi] H' Q' E0) ∧ IvQ K (g (ds.map (·.lo))) (g (ds.map (·.hi))) Q H
theorem ok_rising {f fPW aM : Addr} {fd fdPW : FuncData} (F : Fun K "_rising_interval" "_rising_interval" s_rising_interval f fd) (mt : mg "tuple" = none)
    (GPW : FnOk P w K mg base CX0 3 fPW fdPW ["kind", "values", "info"] (spPw P w K mg base aM)) (kPW : PySem.W.keepIn K (.ref fPW) = true) (bPW : Binds K fdPW ["kind", "values", "info"] []) (gPW : mg "pointwise" = some (.ref fPW))
    : FnOk P w K mg base CX0 4 f fd ["kind", "info", "given"] (spRising P w K mg base aM) := by
  refine F.ok scRis (fun vs H Q E h => ?_) (fun cdv A outer s H vs Q E hr h => ?_)
  · obtain ⟨kind, pi, pg, us, ds, sp, g, rfl, _⟩ := h
    rfl
  · obtain ⟨kind, pi, pg, us, ds, sp, g, rfl, hg, hD, hl3, hM, hsp, q⟩ := h
    refine ⟨_, (pss_cons (ps_set (i := 3) scRis.nd rfl (.inl rfl) (pe_callTy call_tuple_ofF (by rfl) mt (by decide +kernel) (pa_cons (pe_lc (own := [("domain", 5)]) (g := gName 5) (tt := tYes) (te := tOp (rIxT K) (tVar 5) (tC (.int 1))) rfl scRis.nd (pi_list (pv 2)) (blkOk_by (N := nRis) (sc := defScope s_rising_interval) (by decide +kernel)) (fun _ _ _ _ _ => pg_name (i := 5) scRis.nd rfl (.inl rfl) (hf := Or.inr rfl)) (fun _ _ _ _ _ => pts_nil) (fun _ _ _ _ _ => pe_ix ix_tup (pv 5) pe_int (fun _ _ => rfl))) pa_nil)))
      (pss_cons (ps_set (i := 4) scRis.nd rfl (.inl rfl) (pe_callTy call_tuple_ofF (by rfl) mt (by decide +kernel) (pa_cons (pe_lc (own := [("domain", 5)]) (g := gName 5) (tt := tYes) (te := tOp (rIxT K) (tVar 5) (tC (.int 2))) rfl scRis.nd (pi_list (pv 2)) (blkOk_by (N := nRis) (sc := defScope s_rising_interval) (by decide +kernel)) (fun _ _ _ _ _ => pg_name (i := 5) scRis.nd rfl (.inl rfl) (hf := Or.inr rfl)) (fun _ _ _ _ _ => pts_nil) (fun _ _ _ _ _ => pe_ix ix_tup (pv 5) pe_int (fun _ _ => rfl))) pa_nil)))
      (pss_one (ps_ret (pe_tup (pa_cons (pe_call GPW hr (by rfl) gPW kPW bPW .nil pass0 (pa_cons (pv 0) (pa_cons (pv 3) (pa_cons (pv 1) pa_nil)))) (pa_cons (pe_call GPW hr (by rfl) gPW kPW bPW .nil pass0 (pa_cons (pv 0) (pa_cons (pv 4) (pa_cons (pv 1) pa_nil)))) pa_nil))))))), ?_⟩
    have hlen := hD.1
    refine ⟨_, rfl, pg, rfl, ⟨_, hg⟩, fun D nD => lc_list (K := K) (a := pg) (xs := us) (fun i H' => Same H H' ∧ H' D = some (.lst (((ds.map (·.lo)).take i).map V.int)))
      ⟨same_upd nD, upd_same⟩ (fun i H' _ h => sqL_same hg h.1) ?_ ?_⟩
    · rintro i x H' hi ⟨sm, hDl⟩
      have hil : i < ds.length := by rw [← hlen]; exact (List.getElem?_eq_some_iff.mp hi).1
      have hdi : ds[i]? = some ds[i] := List.getElem?_eq_getElem hil
      obtain ⟨p, a, rfl, h1, h2, h3⟩ := (hD.2 i x ds[i] hi hdi).same sm
      refine ⟨rfl, ?_⟩
      unfold tYes
      dsimp only
      rw [if_pos rfl]
      refine ⟨_, rfl, p, _, (1 : Nat), _, rfl, rfl, h1, i1, _, hDl, ?_, fun b o e => by rw [upd_ne (ne_of_none e nD)]; exact sm _ _ e, ?_⟩
      · rw [List.length_map, List.length_take]
        exact small1000 (by omega)
      · rw [upd_same, take_snoc (show (ds.map (·.lo))[i]? = some ds[i].lo by rw [List.getElem?_map, hdi]; rfl), List.map_append]
        rfl
    · rintro H1 ⟨sm1, hDl⟩
      rw [hlen, List.take_of_length_le (by rw [List.length_map]; exact Nat.le_refl _)] at hDl
      refine ⟨D, _, rfl, SqL.of hDl, fun p1 o1 np1 ho1 => ?_⟩
      have s2 := sm1.trans (same_upd (o := .frz o1 (.tup ((ds.map (·.lo)).map V.int))) np1)
      have hp1 : SqT K (upd H1 p1 (.frz o1 (.tup ((ds.map (·.lo)).map V.int)))) p1 ((ds.map (·.lo)).map V.int) := .inl (.inr ⟨o1, upd_same⟩)
      generalize upd H1 p1 (.frz o1 (.tup ((ds.map (·.lo)).map V.int))) = H2 at *
      refine ⟨_, rfl, pg, rfl, ⟨_, sqL_same hg s2⟩, fun D2 nD2 => lc_list (K := K) (a := pg) (xs := us) (fun i H' => Same H2 H' ∧ H' D2 = some (.lst (((ds.map (·.hi)).take i).map V.int)))
        ⟨same_upd nD2, upd_same⟩ (fun i H' _ h => sqL_same hg (s2.trans h.1)) ?_ ?_⟩
      · rintro i x H' hi ⟨sm, hDl2⟩
        have hil : i < ds.length := by rw [← hlen]; exact (List.getElem?_eq_some_iff.mp hi).1
        have hdi : ds[i]? = some ds[i] := List.getElem?_eq_getElem hil
        obtain ⟨p, a, rfl, h1, h2, h3⟩ := (hD.2 i x ds[i] hi hdi).same (s2.trans sm)
        refine ⟨rfl, ?_⟩
        unfold tYes
        dsimp only
        rw [if_pos rfl]
        refine ⟨_, rfl, p, _, (2 : Nat), _, rfl, rfl, h1, i2, _, hDl2, ?_, fun b o e => by rw [upd_ne (ne_of_none e nD2)]; exact sm _ _ e, ?_⟩
        · rw [List.length_map, List.length_take]
          exact small1000 (by omega)
        · rw [upd_same, take_snoc (show (ds.map (·.hi))[i]? = some ds[i].hi by rw [List.getElem?_map, hdi]; rfl), List.map_append]
          rfl
      · rintro H3 ⟨sm3, hDl3⟩
        rw [hlen, List.take_of_length_le (by rw [List.length_map]; exact Nat.le_refl _)] at hDl3
        refine ⟨D2, _, rfl, SqL.of hDl3, fun p2 o2 np2 ho2 => ?_⟩
        have s3 := sm3.trans (same_upd (o := .frz o2 (.tup ((ds.map (·.hi)).map V.int))) np2)
        have hp2 : SqT K (upd H3 p2 (.frz o2 (.tup ((ds.map (·.hi)).map V.int)))) p2 ((ds.map (·.hi)).map V.int) := .inl (.inr ⟨o2, upd_same⟩)
        have hp1' := sqT_same hp1 s3
        generalize upd H3 p2 (.frz o2 (.tup ((ds.map (·.hi)).map V.int))) = H4 at *
        have s4 := s2.trans s3
        refine ⟨_, rfl, _, rfl, _, rfl, kind, p1, pi, sp, rfl, hM, hsp _ _ _ _ (.inl rfl) s4 hp1' ?_⟩
        refine ⟨_, rfl, _, rfl, _, rfl, kind, p2, pi, sp, rfl, hM, hsp _ _ _ _ (.inr rfl) s4 hp2 ?_⟩
        exact ⟨two_line, fun p np => q _ p (s4.trans (same_upd np)) (SqT.of upd_same)⟩
def spIvOf (P : Program) (w : World) (K : PySem.W.Frag) (mg : Str → Option Value) (base : Heap) (aI : Addr) : Sp := fun vs H Q _ => ∃ (kind : Str) (pi pg : Addr) (sp : Sp), vs = [.str kind, .ref pi, .ref pg] ∧ MakE P w K mg base CX0 ["kind", "info", "given"] 4 aI kind sp ∧ sp [.str kind, .ref pi, .ref pg] H Q E0
theorem scIo : FnScope ["kind", "info", "given", "maker"] ["kind", "info", "given"] (defScope sinterval_of) := ⟨rfl, rfl, rfl, by decide +kernel, rfl, by decide +kernel, by decide +kernel⟩

theorem ok_ivof {f aI : Addr} {fd : FuncData} (F : Fun K "interval_of" "interval_of" sinterval_of f fd) (gM : mg "_INTERVALS" = some (.ref aI)) : FnOk P w K mg base CX0 5 f fd ["kind", "info", "given"] (spIvOf P w K mg base aI) := by
  refine F.ok scIo (fun vs H Q E h => ?_) (fun cdv A outer s H vs Q E hr h => ?_)
  · obtain ⟨kind, pi, pg, sp, rfl, _⟩ := h
    rfl
  · obtain ⟨kind, pi, pg, sp, rfl, ⟨fm, fdm, G, km, bm, kd⟩, q⟩ := h
    refine ⟨_, pss_cons (ps_set (i := 3) scIo.nd rfl (.inl rfl) (pe_ix ix_kdict (pe_glob (v := .ref aI) (by rfl) gM rfl) (pv 0) (fun _ _ => rfl)))
      (pss_one (ps_ret (pe_callL (i := 3) (f := fm) (sp := sp) (dvs := []) (E := E0) G hr rfl (Or.inl rfl) km bm .nil pass0 (pa_cons (pv 0) (pa_cons (pv 1) (pa_cons (pv 2) pa_nil)))))), ?_⟩
    exact ⟨_, rfl, aI, kind, _, rfl, rfl, kd, rfl, _, rfl, _, rfl, _, rfl, q⟩
/-! ### the checks of a node -/
theorem scCC : FnScope ["low", "high", "widest"] ["low", "high"] (defScope s_check_clamp) := ⟨rfl, rfl, rfl, by decide +kernel, rfl, by decide +kernel, by decide +kernel⟩
def W200 : Int := 1 * 2 ^ (200 : Int).toNat
def clampR (lo hi : Int) : Nat := if hi < lo then 3 else if lo < -W200 ∨ W200 < hi then 3 else 0
def spCClamp (C : Nat → Addr) : Sp := fun vs H Q E => ∃ lo hi : Int, vs = [.int lo, .int hi] ∧ (clampR lo hi = 0 → Q .non H) ∧ (clampR lo hi = 3 → E (.ref (C 3)) none H)
theorem ok_cclamp {f : Addr} {C : Nat → Addr} {fd : FuncData} (F : Fun K "_check_clamp" "_check_clamp" s_check_clamp f fd) (R : ErrR K mg "RangeError" (C 3)) (l1 : ∃ u, mg "WIDTH_LIMIT" = some u ∧ RelV (.int 200) u) :
    FnOk P w K mg base (L2.CX P w) 1 f fd ["low", "high"] (spCClamp C) := by
  obtain ⟨u1, gl1, rl1⟩ := l1
  refine F.okX scCC (fun vs H Q E h => ?_) (fun cdv A outer s H vs Q E hr h => ?_)
  · obtain ⟨lo, hi, rfl, _⟩ := h
    rfl
  · obtain ⟨lo, hi, rfl, q0, q3⟩ := h
    refine ⟨_, (pss_cons (ps_set (i := 2) scCC.nd rfl (.inl rfl) (pe_op op_shl pe_int (pe_glob (v := .int 200) (by rfl) gl1 rl1)))
      (pss_cons (ps_if (pt_cmpR op_gt (pv 0) (pv 1) (nomark _)) (pss_one (ps_raise rfl (takes_of rfl rfl rfl rfl) (pmk_own PySem.F.excBase_ValueError R.x R.g R.k (raises_own R.b R.t) rfl))) pss_nil)
      (pss_one (ps_if (PW.pt (pw_or (pt_cmpR op_lt (pv 0) (pe_un un_neg (pv 2)) (nomark _)) (pw_or1 (pt_cmpR op_gt (pv 1) (pv 2) (nomark _))))) (pss_one (ps_raise rfl (takes_of rfl rfl rfl rfl) (pmk_own PySem.F.excBase_ValueError R.x R.g R.k (raises_own R.b R.t) rfl))) pss_nil)))), ?_⟩
    unfold clampR at q0 q3
    refine ⟨_, _, rfl, rfl, ⟨by decide, by decide, by decide⟩, _, rfl, _, rfl, _, _, rfl, rfl, _, rfl, ite2 (fun e => ?_) (fun e => ?_)⟩
    · exact q3 (by rw [if_pos (of_decide_eq_true e)])
    · rw [if_neg (fun x => e (decide_eq_true x))] at q0 q3
      refine ⟨_, rfl, _, rfl, _, rfl, _, _, rfl, rfl, _, rfl, ite2 (fun e2 => iteT ?_) (fun e2 => ?_)⟩
      · exact q3 (by rw [if_pos (.inl (of_decide_eq_true e2))])
      · refine ⟨_, rfl, _, rfl, _, _, rfl, rfl, _, rfl, ite2 (fun e3 => ?_) (fun e3 => ?_)⟩
        · exact q3 (by rw [if_pos (.inr (of_decide_eq_true e3))])
        · refine q0 ?_
          rw [if_neg]
          rintro (h | h)
          · exact e2 (decide_eq_true h)
          · exact e3 (decide_eq_true h)
end

section
variable {P : Program} {w : World} {K : PySem.W.Frag} {mg : Str → Option Value} {base : Heap}
/-- what a kind asks: the number of args, the names of the fields -/
structure Kn (K : PySem.W.Frag) (w : World) (aA aF : Addr) (kind : Str) (n : Nat) (names : List Str) : Prop where
  a : KDct K w aA kind (.int (n : Int))
  f : ∃ pf, KDct K w aF kind (.ref pf) ∧ ∀ H, SqT K H pf (names.map V.str)
  i : ∃ u, PySem.W.nsIn K aF kind = some (some u)
def formR (n : Nat) (names : List Str) (cok : Bool) (args : List Int) (fl : Nat) (many : Int) : Nat :=
  if args.length ≠ n then 6 else if fl ≠ names.length then 6 else if cok = false then 6 else if args.all (fun a => decide (0 ≤ a) && decide (a < many)) then 0 else 6
theorem formR_cases (n : Nat) (names : List Str) (cok : Bool) (args : List Int) (fl : Nat) (many : Int) : formR n names cok args fl many = 0 ∨ formR n names cok args fl many = 6 := by
  unfold formR
  split
  · exact .inr rfl
  · split
    · exact .inr rfl
    · split
      · exact .inr rfl
      · split
        · exact .inl rfl
        · exact .inr rfl
def spForm (K : PySem.W.Frag) (w : World) (C : Nat → Addr) (aA aF : Addr) : Sp := fun vs H Q E => ∃ (kind : Str) (pa pi : Addr) (many : Int) (args : List Int) (fs : List V), vs = [.str kind, .ref pa, .ref pi, .int many] ∧ SqT K H pa (args.map V.int) ∧ SqT K H pi fs ∧ kind.length ≤ 100 ∧
  ((PySem.W.nsIn K aF kind = some none ∧ E (.ref (C 5)) none H) ∨ ∃ (n : Nat) (names : List Str) (cok : Bool), Kn K w aA aF kind n names ∧
    (kind = "const" → fs.length = names.length → ∃ (ps pd : Addr) (sh : Sh) (ns : List Int), fs = [.ref ps, .ref pd] ∧ ShT K H ps sh ∧ Mod sh ∧ SqT K H pd (ns.map V.int) ∧ cok = decide ((ns.length : Int) = prod (sizes sh))) ∧ (kind ≠ "const" → cok = true) ∧
    (formR n names cok args fs.length many = 0 → Q .non H) ∧ (formR n names cok args fs.length many = 6 → E (.ref (C 6)) none H))
theorem scFm : FnScope ["kind", "args", "info", "many", "arg"] ["kind", "args", "info", "many"] (defScope s_check_form) := ⟨rfl, rfl, rfl, by decide +kernel, rfl, by decide +kernel, by decide +kernel⟩
theorem ok_form {f aA aF : Addr} {C : Nat → Addr} {fd : FuncData} {es : Array DictEntry} {nn : Nat} (F : Fun K "_check_form" "_check_form" s_check_form f fd) (R5 : ErrR K mg "KindError" (C 5)) (R6 : ErrR K mg "FormError" (C 6)) (ml : mg "len" = none)
    (gA : mg "ARG_COUNTS" = some (.ref aA)) (gF : mg "FIELDS" = some (.ref aF)) (D : KDict K w aF es nn)
    (GCO : FnOk P w K mg base CX0 1 fCO fdCO ["shape"] (spCountOf K)) (kCO : PySem.W.keepIn K (.ref fCO) = true) (bCO : Binds K fdCO ["shape"] []) (gCO : mg "count_of" = some (.ref fCO))
    : FnOk P w K mg base (L2.CX P w) 2 f fd ["kind", "args", "info", "many"] (spForm K w C aA aF) := by
  refine F.okX scFm (fun vs H Q E h => ?_) (fun cdv A outer s H vs Q E hr h => ?_)
  · obtain ⟨kind, pa, pi, many, args, fs, rfl, _⟩ := h
    rfl
  · obtain ⟨kind, pa, pi, many, args, fs, rfl, hpa, hpi, hkl, q⟩ := h
    refine ⟨_, (pss_cons (ps_if (pt_cmpR (op_notIn_kd D) (pv 0) (pe_glob (v := .ref aF) (by rfl) gF rfl) rfl) (pss_one (ps_raise rfl (takes_of rfl rfl rfl rfl) (pmk_own PySem.F.excBase_ValueError R5.x R5.g R5.k (raises_own R5.b R5.t) rfl))) pss_nil)
      (pss_cons (ps_if (pt_cmpR op_ne (pe_callB call_len_seq (by rfl) ml PySem.boot_len (pa_cons (pv 1) pa_nil)) (pe_ix ix_kdict (pe_glob (v := .ref aA) (by rfl) gA rfl) (pv 0) (fun _ _ => rfl)) (nomark _)) (pss_one (ps_raise rfl (takes_of rfl rfl rfl rfl) (SkE.pmk_own1 PySem.F.excBase_ValueError R6.x R6.g R6.k (raises_own R6.b R6.t) rfl (pe_joined (.cons pe_str (.cons (pe_fmt (pv 0)) (.cons pe_str .nil))))))) pss_nil)
      (pss_cons (ps_if (pt_cmpR op_ne (pe_callB call_len_seq (by rfl) ml PySem.boot_len (pa_cons (pv 2) pa_nil)) (pe_callB call_len_seq (by rfl) ml PySem.boot_len (pa_cons (pe_ix ix_kdict (pe_glob (v := .ref aF) (by rfl) gF rfl) (pv 0) (fun _ _ => rfl)) pa_nil)) (nomark _)) (pss_one (ps_raise rfl (takes_of rfl rfl rfl rfl) (SkE.pmk_own1 PySem.F.excBase_ValueError R6.x R6.g R6.k (raises_own R6.b R6.t) rfl (pe_joined (.cons pe_str (.cons (pe_fmt (pv 0)) (.cons pe_str .nil))))))) pss_nil)
      (Evl.pss_cut (ps_if (PW.pt (pw_and (pt_cmpR op_eq (pv 0) (pe_str) (nomark _)) (pw_and1 (pt_cmpR op_ne (pe_callB call_len_seq (by rfl) ml PySem.boot_len (pa_cons (pe_ix ix_tup (pv 2) (pe_int) (fun _ _ => rfl)) pa_nil)) (pe_call GCO hr (by rfl) gCO kCO bCO .nil pass0 (pa_cons (pe_ix ix_tup (pv 2) (pe_int) (fun _ _ => rfl)) pa_nil)) (nomark _))))) (pss_one (ps_raise rfl (takes_of rfl rfl rfl rfl) (pmk_own PySem.F.excBase_ValueError R6.x R6.g R6.k (raises_own R6.b R6.t) rfl))) pss_nil)
      (pss_one (ps_for (passes_of rfl) rfl (pi_tup (pv 1)) (pg_name (i := 4) scFm.nd rfl (.inl rfl)) (pss_one (ps_if (PW.pt (pw_or (pt_cmpR op_lt (pv 4) (pe_int) (nomark _)) (pw_or1 (pt_cmpR op_ge (pv 4) (pv 3) (nomark _))))) (pss_one (ps_raise rfl (takes_of rfl rfl rfl rfl) (pmk_own PySem.F.excBase_ValueError R6.x R6.g R6.k (raises_own R6.b R6.t) rfl))) pss_nil)))))))), ?_⟩
    refine ⟨_, rfl, ?_⟩
    rcases q with ⟨hno, q⟩ | ⟨n, names, cok, kn, hc1, hc2, q0, q6⟩
    · exact ⟨kind, none, rfl, rfl, hno, _, rfl, iteT q⟩
    obtain ⟨u, hu⟩ := kn.i
    obtain ⟨pf, hf1, hf2⟩ := kn.f
    refine ⟨kind, some u, rfl, rfl, hu, _, rfl, iteF ?_⟩
    have m1 : (Str.empty ++ ("a node of the kind " : Str)).length = 19 := by decide +kernel
    have m3 : (" has another number of arguments" : Str).length = 32 := by decide +kernel
    have m4 : (" has another number of fields" : Str).length = 29 := by decide +kernel
    have hal : (args.map V.int).length = args.length := by rw [List.length_map]
    have hnl : (names.map V.str).length = names.length := by rw [List.length_map]
    unfold formR at q0 q6
    refine ⟨_, rfl, pa, _, rfl, .inr hpa, _, rfl, aA, kind, _, rfl, rfl, kn.a, rfl, _, rfl, ?_⟩
    rw [hal]
    by_cases e1 : args.length = n
    · rw [decide_eq_true (show V.int ((args.length : Nat) : Int) = V.int ((n : Nat) : Int) by rw [e1])]
      rw [if_neg (fun h => h e1)] at q0 q6
      refine iteF ⟨_, rfl, pi, _, rfl, .inr hpi, _, rfl, aF, kind, _, rfl, rfl, hf1, pf, _, rfl, .inr (hf2 _), rfl, _, rfl, ?_⟩
      rw [hnl]
      by_cases e2 : fs.length = names.length
      · rw [decide_eq_true (show V.int ((fs.length : Nat) : Int) = V.int ((names.length : Nat) : Int) by rw [e2])]
        rw [if_neg (fun h => h e2)] at q0 q6
        refine iteF ?_
        refine ⟨fun σ' H' => σ' = [some (.str kind), some (.ref pa), some (.ref pi), some (.int many), none] ∧ H' = H ∧ cok = true, ?_, ?_⟩
        · refine ⟨_, rfl, rfl, _, rfl, ?_⟩
          by_cases e3 : kind = "const"
          · rw [decide_eq_true (show V.str kind = V.str "const" by rw [e3])]
            obtain ⟨ps, pd, sh, ns, rfl, hS, hM, hd, rfl⟩ := hc1 e3 e2
            refine iteT ⟨_, rfl, pi, _, (1 : Nat), _, rfl, rfl, hpi, i1, pd, _, rfl, .inr hd, _, rfl, pi, _, (0 : Nat), _, rfl, rfl, hpi, i0, ps, sh, rfl, hS, hM, rfl, _, rfl, ?_⟩
            rw [List.length_map]
            by_cases e4 : ((ns.length : Nat) : Int) = prod (sizes sh)
            · rw [decide_eq_true (show V.int ((ns.length : Nat) : Int) = V.int (prod (sizes sh)) by rw [e4])]
              exact iteF ⟨rfl, rfl, decide_eq_true e4⟩
            · rw [decide_eq_false (fun h => e4 (V.int.inj h))]
              refine iteT (q6 ?_)
              rw [if_pos (decide_eq_false e4)]
          · rw [decide_eq_false (fun h => e3 (V.str.inj h))]
            exact iteF ⟨rfl, rfl, hc2 e3⟩
        · rintro σ' H' ⟨rfl, rfl, hck⟩
          rw [if_neg (by rw [hck]; exact fun h => nomatch h)] at q0 q6
          refine ⟨_, rfl, pa, rfl, ⟨_, hpa⟩, for_tup (K := K) (a := pa) (xs := args.map V.int) (fun i σ H'' => ∃ (v4 : Option V), σ = [some (.str kind), some (.ref pa), some (.ref pi), some (.int many), v4] ∧ H'' = H' ∧ ∀ j a, j < i → args[j]? = some a → 0 ≤ a ∧ a < many)
            ⟨none, rfl, rfl, fun j a h => absurd h (Nat.not_lt_zero _)⟩ (fun i σ H'' _ ⟨_, _, e, _⟩ => by rw [e]; exact hpa) ?_ ?_⟩
          · rintro i x σ H'' hi ⟨v4, rfl, rfl, hok⟩
            obtain ⟨a, rfl, ha⟩ := map_int_at hi
            have bad : ¬ (0 ≤ a ∧ a < many) → E (.ref (C 6)) none H'' := fun nb => q6 (by
              rw [if_neg]
              intro h
              rw [List.all_eq_true] at h
              have := h a (List.mem_of_getElem? ha)
              rw [Bool.and_eq_true] at this
              exact nb ⟨of_decide_eq_true this.1, of_decide_eq_true this.2⟩)
            refine ⟨_, rfl, _, _, rfl, rfl, _, rfl, ite2 (fun e4 => iteT (bad (fun h => absurd (of_decide_eq_true e4) (by omega)))) (fun e4 => ?_)⟩
            refine ⟨_, rfl, _, rfl, _, _, rfl, rfl, _, rfl, ite2 (fun e5 => bad (fun h => absurd (of_decide_eq_true e5) (by omega))) (fun e5 => ?_)⟩
            refine ⟨_, rfl, rfl, fun j a' hj ha' => ?_⟩
            by_cases ej : j = i
            · subst ej
              rw [ha] at ha'
              cases ha'
              have h4 : ¬ a < 0 := fun x => e4 (decide_eq_true x)
              have h5 : ¬ many ≤ a := fun x => e5 (decide_eq_true x)
              omega
            · exact hok j a' (by omega) ha'
          · rintro σ H'' ⟨v4, rfl, rfl, hok⟩
            rw [hal] at hok
            refine q0 ?_
            rw [if_pos]
            rw [List.all_eq_true]
            intro a ha
            obtain ⟨j, hj⟩ := List.mem_iff_getElem?.mp ha
            obtain ⟨h1, h2⟩ := hok j a (List.getElem?_eq_some_iff.mp hj).1 hj
            rw [Bool.and_eq_true]
            exact ⟨decide_eq_true h1, decide_eq_true h2⟩
      · rw [decide_eq_false (fun h => e2 (by have := V.int.inj h; omega))]
        rw [if_pos e2] at q6
        exact iteT ⟨_, rfl, fit (by omega), _, rfl, .inl ⟨_, rfl, fit (by omega), _, rfl, fit (by rw [txt_len]; omega), _, rfl, fit (by rw [txt_len, txt_len]; omega), q6 rfl⟩⟩
    · rw [decide_eq_false (fun h => e1 (by have := V.int.inj h; omega))]
      rw [if_pos e1] at q6
      exact iteT ⟨_, rfl, fit (by omega), _, rfl, .inl ⟨_, rfl, fit (by omega), _, rfl, fit (by rw [txt_len]; omega), _, rfl, fit (by rw [txt_len, txt_len]; omega), q6 rfl⟩⟩
end

section
variable {P : Program} {w : World} {K : PySem.W.Frag} {mg : Str → Option Value} {base : Heap}
/-- the table of the fields' ranges has this -/
def RgAt (K : PySem.W.Frag) (w : World) (aR : Addr) (nm : Str) : Option (Int × Int) → Prop
  | some (a, b) => 0 ≤ a ∧ a ≤ 30 ∧ 0 ≤ b ∧ b ≤ 30 ∧ ∃ p, KDct K w aR nm (.ref p) ∧ (∀ H, SqT K H p [.int a, .int b]) ∧ ∃ u, PySem.W.nsIn K aR nm = some (some u)
  | none => PySem.W.nsIn K aR nm = some none
def fldBad : Option (Int × Int) → V → Bool
  | some (a, b), .int n => decide (n < a) || decide (b < n)
  | _, _ => false
def fieldsR (pre : Nat) (nr : List (Str × Option (Int × Int))) (fs : List V) : Nat := if pre = 3 then 3 else if (nr.zip fs).any (fun p => fldBad p.1.2 p.2) = true then 3 else 0
theorem fieldsR_cases (pre : Nat) (nr : List (Str × Option (Int × Int))) (fs : List V) : fieldsR pre nr fs = 0 ∨ fieldsR pre nr fs = 3 := by
  unfold fieldsR
  split
  · exact .inr rfl
  · split
    · exact .inr rfl
    · exact .inl rfl
/-- what the first tests find -/
def preOk (kind : Str) (fs : List V) (pre : Nat) : Prop := (kind = "input" → ∃ (x : V) (lo hi : Int), fs = [x, .int lo, .int hi] ∧ pre = if hi < lo then 3 else 0) ∧ (kind = "clamp" → ∃ lo hi : Int, fs = [.int lo, .int hi] ∧ pre = clampR lo hi) ∧ (kind ≠ "input" → kind ≠ "clamp" → pre = 0)
structure FldK (K : PySem.W.Frag) (w : World) (aF aR : Addr) (kind : Str) (nr : List (Str × Option (Int × Int))) (fs : List V) (pre : Nat) : Prop where
  f : ∃ pf, KDct K w aF kind (.ref pf) ∧ ∀ H, SqT K H pf ((nr.map (·.1)).map V.str)
  l : nr.length = fs.length
  r : ∀ p ∈ nr, p.1.length ≤ 100 ∧ RgAt K w aR p.1 p.2
  i : ∀ (j : Nat) (nm : Str) (ab : Int × Int), nr[j]? = some (nm, some ab) → ∃ n, fs[j]? = some (.int n)
  p : preOk kind fs pre
def spFields (K : PySem.W.Frag) (w : World) (C : Nat → Addr) (aF aR : Addr) : Sp := fun vs H Q E => ∃ (kind : Str) (pi : Addr) (fs : List V) (nr : List (Str × Option (Int × Int))) (pre : Nat), vs = [.str kind, .ref pi] ∧ SqT K H pi fs ∧ FldK K w aF aR kind nr fs pre ∧
  ∀ H', Same H H' → (fieldsR pre nr fs = 0 → Q .non H') ∧ (fieldsR pre nr fs = 3 → E (.ref (C 3)) none H')
theorem scFd : FnScope ["kind", "info", "name", "field", "least", "most"] ["kind", "info"] (defScope s_check_fields) := ⟨rfl, rfl, rfl, by decide +kernel, rfl, by decide +kernel, by decide +kernel⟩
theorem int_txt30 : ∀ n : Nat, n ≤ 30 → ((toString (n : Int) : String) : Str).length ≤ 2 := by decide +kernel
theorem int_len30 {a : Int} (h0 : 0 ≤ a) (h1 : a ≤ 30) : ((toString a : String) : Str).length ≤ 2 := by
  obtain ⟨n, rfl⟩ : ∃ n : Nat, a = (n : Int) := ⟨a.toNat, by omega⟩
  exact int_txt30 n (by omega)
theorem log30 {a : Int} (h0 : 0 ≤ a) (h1 : a ≤ 30) : a.natAbs.log2 < 1920 := Nat.lt_of_le_of_lt (Nat.log2_le_self _) (by omega)
theorem clampR_cases (lo hi : Int) : clampR lo hi = 0 ∨ clampR lo hi = 3 := by
  unfold clampR
  split
  · exact .inr rfl
  · split
    · exact .inr rfl
    · exact .inl rfl
theorem ok_fields {f aF aR : Addr} {C : Nat → Addr} {fd : FuncData} {es : Array DictEntry} {nn : Nat} (F : Fun K "check_fields" "check_fields" s_check_fields f fd) (R3 : ErrR K mg "RangeError" (C 3)) (mz : mg "zip" = none)
    (gF : mg "FIELDS" = some (.ref aF)) (gR : mg "_FIELD_RANGES" = some (.ref aR)) (D : KDict K w aR es nn)
    (GCC : FnOk P w K mg base (L2.CX P w) 1 fCC fdCC ["low", "high"] (spCClamp C)) (kCC : PySem.W.keepIn K (.ref fCC) = true) (bCC : Binds K fdCC ["low", "high"] []) (gCC : mg "_check_clamp" = some (.ref fCC))
    : FnOk P w K mg base (L2.CX P w) 2 f fd ["kind", "info"] (spFields K w C aF aR) := by
  refine F.okX scFd (fun vs H Q E h => ?_) (fun cdv A outer s H vs Q E hr h => ?_)
  · obtain ⟨kind, pi, fs, nr, pre, rfl, _⟩ := h
    rfl
  · obtain ⟨kind, pi, fs, nr, pre, rfl, hpi, fk, q⟩ := h
    obtain ⟨pf, hf1, hf2⟩ := fk.f
    obtain ⟨hp1, hp2, hp3⟩ := fk.p
    refine ⟨_, (Evl.pss_cut (ps_if (PW.pt (pw_and (pt_cmpR op_eq (pv 0) (pe_str) (nomark _)) (pw_and1 (pt_cmpR op_gt (pe_ix ix_tup (pv 1) (pe_int) (fun _ _ => rfl)) (pe_ix ix_tup (pv 1) (pe_int) (fun _ _ => rfl)) (nomark _))))) (pss_one (ps_raise rfl (takes_of rfl rfl rfl rfl) (pmk_own PySem.F.excBase_ValueError R3.x R3.g R3.k (raises_own R3.b R3.t) rfl))) pss_nil)
      (Evl.pss_cut (ps_if (pt_cmpR op_eq (pv 0) (pe_str) (nomark _)) (pss_one (ps_expr (pe_callS GCC hr (by rfl) gCC kCC bCC (fun σ => passAt (takes_of rfl rfl rfl rfl) σ) (pa_cons (pe_ix ix_tup (pv 1) (pe_int) (fun _ _ => rfl)) (pa_cons (pe_ix ix_tup (pv 1) (pe_int) (fun _ _ => rfl)) pa_nil))))) pss_nil)
      (pss_one (ps_for (passes_of rfl) rfl (RZ.pi_zipA (by rfl) mz (pa_cons (pe_ix ix_kdict (pe_glob (v := .ref aF) (by rfl) gF rfl) (pv 0) (fun _ _ => rfl)) (pa_cons (pv 1) pa_nil))) (pg_tup rfl (pgs_cons (pg_name (i := 2) scFd.nd rfl (.inl rfl)) (pgs_cons (pg_name (i := 3) scFd.nd rfl (.inl rfl)) pgs_nil))) (pss_one (ps_if (pt_cmpR (op_in_kd D) (pv 2) (pe_glob (v := .ref aR) (by rfl) gR rfl) rfl) (pss_cons (ps_asg (pe_ix ix_kdict (pe_glob (v := .ref aR) (by rfl) gR rfl) (pv 2) (fun _ _ => rfl)) (pg_tup rfl (pgs_cons (pg_name (i := 4) scFd.nd rfl (.inl rfl)) (pgs_cons (pg_name (i := 5) scFd.nd rfl (.inl rfl)) pgs_nil))))
      (pss_one (ps_if (PW.pt (pw_or (pt_cmpR op_lt (pv 3) (pv 4) (nomark _)) (pw_or1 (pt_cmpR op_gt (pv 3) (pv 5) (nomark _))))) (pss_one (ps_raise rfl (takes_of rfl rfl rfl rfl) (SkE.pmk_own1 PySem.F.excBase_ValueError R3.x R3.g R3.k (raises_own R3.b R3.t) rfl (pe_joined (.cons pe_str (.cons (pe_fmt (pv 2)) (.cons pe_str (.cons (pe_fmt (pv 4)) (.cons pe_str (.cons (pe_fmt (pv 5)) .nil)))))))))) pss_nil))) pss_nil)))))), ?_⟩
    unfold fieldsR at q
    have q3 : pre = 3 → E (.ref (C 3)) none H := fun e => (q _ (Same.refl _)).2 (by rw [if_pos e])
    refine ⟨fun σ' H' => σ' = [some (.str kind), some (.ref pi), none, none, none, none] ∧ H' = H ∧ (kind = "input" → pre ≠ 3), ?_, ?_⟩
    · refine ⟨_, rfl, rfl, _, rfl, ?_⟩
      by_cases e : kind = "input"
      · rw [decide_eq_true (show V.str kind = V.str "input" by rw [e])]
        obtain ⟨x, lo, hi, rfl, hpre⟩ := hp1 e
        refine iteT ⟨_, rfl, pi, _, (1 : Nat), _, rfl, rfl, hpi, i1, _, rfl, pi, _, (2 : Nat), _, rfl, rfl, hpi, i2, _, _, rfl, rfl, _, rfl, ite2 (fun e2 => ?_) (fun e2 => ?_)⟩
        · exact q3 (by rw [hpre, if_pos (of_decide_eq_true e2)])
        · refine ⟨rfl, rfl, fun _ h => ?_⟩
          rw [hpre, if_neg (fun x => e2 (decide_eq_true x))] at h
          cases h
      · rw [decide_eq_false (fun h => e (V.str.inj h))]
        exact iteF ⟨rfl, rfl, fun h => absurd h e⟩
    rintro σ' H' ⟨rfl, rfl, hin⟩
    refine ⟨fun σ' H'' => σ' = [some (.str kind), some (.ref pi), none, none, none, none] ∧ H'' = H' ∧ pre ≠ 3, ?_, ?_⟩
    · refine ⟨_, rfl, rfl, _, rfl, ?_⟩
      by_cases e : kind = "clamp"
      · rw [decide_eq_true (show V.str kind = V.str "clamp" by rw [e])]
        obtain ⟨lo, hi, rfl, hpre⟩ := hp2 e
        refine iteT ⟨_, rfl, pi, _, (0 : Nat), _, rfl, rfl, hpi, i0, _, rfl, pi, _, (1 : Nat), _, rfl, rfl, hpi, i1, lo, hi, rfl, fun e0 => ⟨rfl, rfl, fun h => ?_⟩, fun e3 => q3 (hpre.trans e3)⟩
        rw [hpre, e0] at h
        cases h
      · rw [decide_eq_false (fun h => e (V.str.inj h))]
        refine iteF ⟨rfl, rfl, fun h => ?_⟩
        by_cases e2 : kind = "input"
        · exact hin e2 h
        · rw [hp3 e2 e] at h
          cases h
    rintro σ' H'' ⟨rfl, rfl, hpre⟩
    rw [if_neg hpre] at q
    have hnl : ((nr.map (·.1)).map V.str).length = fs.length := by rw [List.length_map, List.length_map, fk.l]
    refine ⟨_, rfl, aF, kind, _, rfl, rfl, hf1, _, rfl, pf, pi, _, _, rfl, .inr ⟨hf2 _, hpi, RZ.for_zipT hnl (fun i σ Hx => ∃ (v2 v3 v4 v5 : Option V), σ = [some (.str kind), some (.ref pi), v2, v3, v4, v5] ∧ Same H'' Hx ∧ ∀ j p v, j < i → nr[j]? = some p → fs[j]? = some v → fldBad p.2 v = false)
      ⟨none, none, none, none, rfl, Same.refl _, fun j p v h => absurd h (Nat.not_lt_zero _)⟩ (fun i σ Hx ⟨_, _, _, _, _, e, _⟩ => ⟨hf2 _, sqT_same hpi e⟩) ?_ ?_⟩⟩
    · rintro i x y T σ Hx hx hy ⟨v2, v3, v4, v5, rfl, sm, hok⟩ hT
      have sT := same_upd (o := .tup [x, y]) hT
      rw [List.getElem?_map, List.getElem?_map] at hx
      cases hnr : nr[i]? with
      | none => rw [hnr] at hx; cases hx
      | some p =>
        rw [hnr] at hx
        obtain rfl : V.str p.1 = x := Option.some.inj hx
        obtain ⟨hpl, hrg⟩ := fk.r p (List.mem_of_getElem? hnr)
        refine ⟨T, _, rfl, SqT.of upd_same, rfl, _, _, rfl, _, _, rfl, rfl, ?_⟩
        have smT := sm.trans sT
        have badE : fldBad p.2 y = true → E (.ref (C 3)) none (upd Hx T (.tup [.str p.1, y])) := fun hb => (q _ smT).2 (by
          rw [if_pos]
          rw [List.any_eq_true]
          exact ⟨(p, y), List.mem_of_getElem? (i := i) (by rw [List.getElem?_zip_eq_some]; exact ⟨hnr, hy⟩), hb⟩)
        have go : ∀ (a2 a3 a4 a5 : Option V), fldBad p.2 y = false → ∃ (v2 v3 v4 v5 : Option V), [some (V.str kind), some (.ref pi), a2, a3, a4, a5] = [some (V.str kind), some (.ref pi), v2, v3, v4, v5] ∧ Same H'' (upd Hx T (.tup [.str p.1, y])) ∧ ∀ j p' v, j < i + 1 → nr[j]? = some p' → fs[j]? = some v → fldBad p'.2 v = false := fun a2 a3 a4 a5 hb => ⟨a2, a3, a4, a5, rfl, smT, fun j p' v hj h1 h2 => by
          by_cases ej : j = i
          · subst ej
            rw [hnr] at h1
            rw [hy] at h2
            cases h1
            cases h2
            exact hb
          · exact hok j p' v (by omega) h1 h2⟩
        obtain ⟨nm, ro⟩ := p
        cases ro with
        | none => exact ⟨_, rfl, nm, none, rfl, rfl, hrg, _, rfl, iteF (go _ _ _ _ rfl)⟩
        | some ab =>
          obtain ⟨lo, hi⟩ := ab
          obtain ⟨a0, a1, b0, b1, pr, hk, hsq, u, hu⟩ := hrg
          obtain ⟨n, hn⟩ := fk.i i nm (lo, hi) hnr
          rw [hy] at hn
          cases hn
          refine ⟨_, rfl, nm, some u, rfl, rfl, hu, _, rfl, iteT ?_⟩
          refine ⟨_, rfl, aR, nm, _, rfl, rfl, hk, pr, _, rfl, hsq _, rfl, _, _, rfl, _, _, rfl, rfl, ?_⟩
          have l1 := int_len30 a0 a1
          have l2 := int_len30 b0 b1
          have m1 : (Str.empty ++ ("the field " : Str)).length = 10 := by decide +kernel
          have m2 : (" is not from " : Str).length = 13 := by decide +kernel
          have m3 : (" to " : Str).length = 4 := by decide +kernel
          have hpl' : nm.length ≤ 100 := hpl
          have rz : fldBad (some (lo, hi)) (.int n) = true → _ := badE
          have fin : fldBad (some (lo, hi)) (.int n) = true → (∃ x, x = x) := fun _ => ⟨(), rfl⟩
          refine ⟨_, rfl, _, rfl, _, _, rfl, rfl, _, rfl, ite2 (fun e4 => iteT ?_) (fun e4 => ?_)⟩
          · refine ⟨_, rfl, fit (by omega), _, rfl, .inl ⟨_, rfl, fit (by omega), _, rfl, fit (by rw [txt_len]; omega), _, rfl, fit (by rw [txt_len, txt_len]; omega), _, rfl, .inr ⟨lo, rfl, log30 a0 a1, _, rfl, fit (by rw [txt_len, txt_len, txt_len]; omega), _, rfl, fit (by rw [txt_len, txt_len, txt_len, txt_len]; omega), _, rfl, .inr ⟨hi, rfl, log30 b0 b1, _, rfl, fit (by rw [txt_len, txt_len, txt_len, txt_len, txt_len]; omega), badE ?_⟩⟩⟩⟩
            show (decide (n < lo) || decide (hi < n)) = true
            rw [e4]
            rfl
          · refine ⟨_, rfl, _, rfl, _, _, rfl, rfl, _, rfl, ite2 (fun e5 => ?_) (fun e5 => ?_)⟩
            · refine ⟨_, rfl, fit (by omega), _, rfl, .inl ⟨_, rfl, fit (by omega), _, rfl, fit (by rw [txt_len]; omega), _, rfl, fit (by rw [txt_len, txt_len]; omega), _, rfl, .inr ⟨lo, rfl, log30 a0 a1, _, rfl, fit (by rw [txt_len, txt_len, txt_len]; omega), _, rfl, fit (by rw [txt_len, txt_len, txt_len, txt_len]; omega), _, rfl, .inr ⟨hi, rfl, log30 b0 b1, _, rfl, fit (by rw [txt_len, txt_len, txt_len, txt_len, txt_len]; omega), badE ?_⟩⟩⟩⟩
              show (decide (n < lo) || decide (hi < n)) = true
              rw [e5, Bool.or_true]
            · refine go _ _ _ _ ?_
              show (decide (n < lo) || decide (hi < n)) = false
              rw [Bool.or_eq_false_iff]
              exact ⟨Bool.eq_false_iff.mpr e4, Bool.eq_false_iff.mpr e5⟩
    · rintro σ Hx ⟨v2, v3, v4, v5, rfl, sm, hok⟩
      refine (q _ sm).1 ?_
      rw [if_neg]
      intro h
      rw [List.any_eq_true] at h
      obtain ⟨⟨p, v⟩, hm, hb⟩ := h
      obtain ⟨j, hj⟩ := List.mem_iff_getElem?.mp hm
      rw [List.getElem?_zip_eq_some] at hj
      have hjl : j < ((nr.map (·.1)).map V.str).length := by
        rw [hnl]
        exact (List.getElem?_eq_some_iff.mp hj.2).1
      have := hok j p v hjl hj.1 hj.2
      rw [this] at hb
      cases hb
end

section
variable {P : Program} {w : World} {K : PySem.W.Frag} {mg : Str → Option Value} {base : Heap}
/-- the shapes' addresses in a list -/
def ShsAt (K : PySem.W.Frag) (H : Hp) (as : List Addr) (ds : List Dom) : Prop := as.length = ds.length ∧ ∀ (i : Nat) (a : Addr) (d : Dom), as[i]? = some a → ds[i]? = some d → ShT K H a d.sh ∧ NoD K H a
theorem ShsAt.same {H H' : Hp} {as : List Addr} {ds : List Dom} (h : ShsAt K H as ds) (s : Same H H') : ShsAt K H' as ds := ⟨h.1, fun i a d x y => ⟨(h.2 i a d x y).1.same s, (h.2 i a d x y).2.same s⟩⟩
/-- a maker of shapes answers r -/
def ShMk (P : Program) (w : World) (K : PySem.W.Frag) (mg : Str → Option Value) (base : Heap) (C : Nat → Addr) (aS : Addr) (kind : Str) (H : Hp) (pi : Addr) (ds : List Dom) (r : Nat × Sh) : Prop :=
  ∃ sp, MakE P w K mg base (L2.CX P w) VS 4 aS kind sp ∧ ∀ (H1 : Hp) (pl : Addr) (as : List Addr) (Q : VK) (E : XK), Same H H1 → SqL K H1 pl (as.map V.ref) → ShsAt K H1 as ds → (∀ H2, Same H1 H2 → ShEnd K C r Q E H2) → sp [.ref pi, .ref pl] H1 Q E
/-- a maker of intervals answers lo, hi -/
def IvMk (P : Program) (w : World) (K : PySem.W.Frag) (mg : Str → Option Value) (base : Heap) (aI : Addr) (kind : Str) (H : Hp) (pi : Addr) (ds : List Dom) (lo hi : Int) : Prop :=
  ∃ sp, MakE P w K mg base CX0 ["kind", "info", "given"] 4 aI kind sp ∧ ∀ (H1 : Hp) (pg : Addr) (us : List V) (Q : VK), Same H H1 → SqL K H1 pg us → Dms K H1 us ds → IvQ K lo hi Q H1 → sp [.str kind, .ref pi, .ref pg] H1 Q E0
/-- the end: an error's number, or 0 -/
def endR (r : Nat × Sh) (lo hi : Int) : Nat := if r.1 ≠ 0 then r.1 else if chk r.2 ≠ 0 then chk r.2 else if lo < -W200 ∨ W200 < hi then 7 else 0
/-- the domains of the args -/
def Given (args : List Int) (ds gs : List Dom) : Prop := gs.length = args.length ∧ ∀ (i : Nat) (a : Int), args[i]? = some a → ∃ d, ds[a.toNat]? = some d ∧ gs[i]? = some d
def spDom (P : Program) (w : World) (K : PySem.W.Frag) (mg : Str → Option Value) (base : Heap) (C : Nat → Addr) (aA aF aR aS aI : Addr) : Sp := fun vs H Q E => ∃ (pn pd pa pi : Addr) (kind : Str) (args : List Int) (fs us : List V) (ds : List Dom),
  vs = [.ref pn, .ref pd] ∧ SqT K H pn [.str kind, .ref pa, .ref pi] ∧ SqT K H pa (args.map V.int) ∧ SqT K H pi fs ∧ SqT K H pd us ∧ Dms K H us ds ∧ us.length ≤ 1000 ∧ args.length ≤ 1000 ∧ kind.length ≤ 100 ∧
  ((PySem.W.nsIn K aF kind = some none ∧ E (.ref (C 5)) none H) ∨ ∃ (n : Nat) (names : List Str) (cok : Bool), Kn K w aA aF kind n names ∧
    (kind = "const" → fs.length = names.length → ∃ (ps pd : Addr) (sh : Sh) (ns : List Int), fs = [.ref ps, .ref pd] ∧ ShT K H ps sh ∧ Mod sh ∧ SqT K H pd (ns.map V.int) ∧ cok = decide ((ns.length : Int) = prod (sizes sh))) ∧ (kind ≠ "const" → cok = true) ∧
    (formR n names cok args fs.length (us.length : Int) = 6 → E (.ref (C 6)) none H) ∧ (formR n names cok args fs.length (us.length : Int) = 0 → ∃ (nr : List (Str × Option (Int × Int))) (pre : Nat), FldK K w aF aR kind nr fs pre ∧
      (fieldsR pre nr fs = 3 → ∀ H', Same H H' → E (.ref (C 3)) none H') ∧ (fieldsR pre nr fs = 0 → ∃ (gs : List Dom) (r : Nat × Sh) (lo hi : Int), Given args ds gs ∧ r.2.length ≤ 16 ∧ Mod r.2 ∧ ShMk P w K mg base C aS kind H pi gs r ∧ (r.1 = 0 → chk r.2 = 0 → IvMk P w K mg base aI kind H pi gs lo hi) ∧
        ∀ H', Same H H' → (endR r lo hi = 0 → ∀ v, DmAt K H' v ⟨r.2, lo, hi⟩ → Q v H') ∧ ∀ k, endR r lo hi = k + 1 → E (.ref (C (k + 1))) none H')))
abbrev nDom : List Str := ["node", "domains", "kind", "args", "info", "given", "shape", "low", "high", "arg", "domain"]
theorem scDom : FnScope nDom ["node", "domains"] (defScope sdomain_of) := ⟨rfl, rfl, rfl, by decide +kernel, rfl, by decide +kernel, by decide +kernel⟩
theorem ok_domain {f aA aF aR aS aI : Addr} {C : Nat → Addr} {fd : FuncData} (F : Fun K "domain_of" "domain_of" sdomain_of f fd) (R7 : ErrR K mg "TooWide" (C 7)) (ml : mg "len" = none) (l1 : ∃ u, mg "WIDTH_LIMIT" = some u ∧ RelV (.int 200) u)
    (GFM : FnOk P w K mg base (L2.CX P w) 2 fFM fdFM ["kind", "args", "info", "many"] (spForm K w C aA aF)) (kFM : PySem.W.keepIn K (.ref fFM) = true) (bFM : Binds K fdFM ["kind", "args", "info", "many"] []) (gFM : mg "_check_form" = some (.ref fFM))
    (GFD : FnOk P w K mg base (L2.CX P w) 2 fFD fdFD ["kind", "info"] (spFields K w C aF aR)) (kFD : PySem.W.keepIn K (.ref fFD) = true) (bFD : Binds K fdFD ["kind", "info"] []) (gFD : mg "check_fields" = some (.ref fFD))
    (GSO : FnOk P w K mg base (L2.CX P w) 5 fSO fdSO ["kind", "info", "shapes"] (spSof P w K mg base C aS)) (kSO : PySem.W.keepIn K (.ref fSO) = true) (bSO : Binds K fdSO ["kind", "info", "shapes"] []) (gSO : mg "shape_of_result" = some (.ref fSO))
    (GIO : FnOk P w K mg base CX0 5 fIO fdIO ["kind", "info", "given"] (spIvOf P w K mg base aI)) (kIO : PySem.W.keepIn K (.ref fIO) = true) (bIO : Binds K fdIO ["kind", "info", "given"] []) (gIO : mg "interval_of" = some (.ref fIO))
    : FnOk P w K mg base (L2.CX P w) 6 f fd ["node", "domains"] (spDom P w K mg base C aA aF aR aS aI) := by
  obtain ⟨u1, gl1, rl1⟩ := l1
  refine F.okX scDom (fun vs H Q E h => ?_) (fun cdv A outer s H vs Q E hr h => ?_)
  · obtain ⟨pn, pd, pa, pi, kind, args, fs, us, ds, rfl, _⟩ := h
    rfl
  · obtain ⟨pn, pd, pa, pi, kind, args, fs, us, ds, rfl, hpn, hpa, hpi, hpd, hD, hul, hal, hkl, q⟩ := h
    have hr2 : Room 2 _ := hr.mono (by decide)
    refine ⟨_, (pss_cons (ps_asg (pv 0) (pg_tup rfl (pgs_cons (pg_name (i := 2) scDom.nd rfl (.inl rfl)) (pgs_cons (pg_name (i := 3) scDom.nd rfl (.inl rfl)) (pgs_cons (pg_name (i := 4) scDom.nd rfl (.inl rfl)) pgs_nil)))))
      (pss_cons (ps_expr (pe_callS GFM hr2 (by rfl) gFM kFM bFM (fun σ => passAt (takes_of rfl rfl rfl rfl) σ) (pa_cons (pv 2) (pa_cons (pv 3) (pa_cons (pv 4) (pa_cons (pe_callB call_len_seq (by rfl) ml PySem.boot_len (pa_cons (pv 1) pa_nil)) pa_nil))))))
      (pss_cons (ps_expr (pe_callS GFD hr2 (by rfl) gFD kFD bFD (fun σ => passAt (takes_of rfl rfl rfl rfl) σ) (pa_cons (pv 2) (pa_cons (pv 4) pa_nil))))
      (pss_cons (ps_setLc (i := 5) (own := [("arg", 9)]) (g := gName 9) (tt := tYes) (te := tOp (rIxT K) (tVar 1) (tVar 9)) (by rfl) scDom.nd rfl rfl (sw_true rfl rfl rfl (by decide +kernel)) (pi_tup (pv 3)) (blkOk_by (N := nDom) (sc := defScope sdomain_of) (by decide +kernel)) (fun _ _ _ _ _ => pg_name (i := 9) scDom.nd rfl (.inl rfl)) (fun _ _ _ _ _ => pts_nil) (fun _ _ _ _ _ => pe_ix ix_tup (pv 1) (pv 9) (fun _ _ => rfl)))
      (pss_cons (ps_set (i := 6) scDom.nd rfl (.inl rfl) (pe_callS GSO hr (by rfl) gSO kSO bSO (fun σ => passAt (takes_of rfl rfl rfl rfl) σ) (pa_cons (pv 2) (pa_cons (pv 4) (pa_cons (pe_lc (own := [("domain", 10)]) (g := gName 10) (tt := tYes) (te := tOp (rIxT K) (tVar 10) (tC (.int 0))) rfl scDom.nd (pi_list (pv 5)) (blkOk_by (N := nDom) (sc := defScope sdomain_of) (by decide +kernel)) (fun _ _ _ _ _ => pg_name (i := 10) scDom.nd rfl (.inl rfl) (hf := Or.inr rfl)) (fun _ _ _ _ _ => pts_nil) (fun _ _ _ _ _ => pe_ix ix_tup (pv 10) pe_int (fun _ _ => rfl))) pa_nil)))))
      (pss_cons (ps_asg (pe_call GIO hr (by rfl) gIO kIO bIO .nil pass0 (pa_cons (pv 2) (pa_cons (pv 4) (pa_cons (pv 5) pa_nil)))) (pg_tup rfl (pgs_cons (pg_name (i := 7) scDom.nd rfl (.inl rfl)) (pgs_cons (pg_name (i := 8) scDom.nd rfl (.inl rfl)) pgs_nil))))
      (pss_cons (ps_if (PW.pt (pw_or (pt_cmpR op_lt (pv 7) (pe_un un_neg (pe_op op_shl pe_int (pe_glob (v := .int 200) (by rfl) gl1 rl1))) (nomark _)) (pw_or1 (pt_cmpR op_gt (pv 8) (pe_op op_shl pe_int (pe_glob (v := .int 200) (by rfl) gl1 rl1)) (nomark _))))) (pss_one (ps_raise rfl (takes_of rfl rfl rfl rfl) (pmk_own PySem.F.excBase_ValueError R7.x R7.g R7.k (raises_own R7.b R7.t) rfl))) pss_nil)
      (pss_one (ps_ret (pe_tup (pa_cons (pv 6) (pa_cons (pv 7) (pa_cons (pv 8) pa_nil))))))))))))), ?_⟩
    refine ⟨_, rfl, pn, _, rfl, hpn, rfl, _, _, rfl, _, _, rfl, _, _, rfl, rfl, ?_⟩
    refine ⟨_, rfl, _, rfl, _, rfl, _, rfl, pd, _, rfl, .inr hpd, kind, pa, pi, (us.length : Int), args, fs, rfl, hpa, hpi, hkl, ?_⟩
    rcases q with q | ⟨n, names, cok, kn, hc1, hc2, q6, q⟩
    · exact .inl q
    refine .inr ⟨n, names, cok, kn, hc1, hc2, fun e0 => ?_, q6⟩
    obtain ⟨nr, pre, fk, q3, q⟩ := q e0
    refine ⟨_, rfl, _, rfl, kind, pi, fs, nr, pre, rfl, hpi, fk, fun H1 s1 => ⟨fun e1 => ?_, fun e3 => q3 e3 H1 s1⟩⟩
    obtain ⟨gs, r, lo, hi, hG, hrl, hrm, hSm, hIm, q⟩ := q e1
    -- given
    refine ⟨_, rfl, pa, rfl, ⟨_, sqT_same hpa s1⟩, fun D nD => lc_tup (K := K) (a := pa) (xs := args.map V.int) (fun i H' => ∃ ws : List V, Same H1 H' ∧ H' D = some (.lst ws) ∧ ws.length = i ∧ ∀ (j : Nat) (v : V) (d : Dom), ws[j]? = some v → gs[j]? = some d → DmAt K H' v d)
      ⟨[], same_upd nD, upd_same, rfl, fun j v d h => by simp at h⟩ (fun i H' _ ⟨_, e, _⟩ => sqT_same hpa (s1.trans e)) ?_ ?_⟩
    · rintro i x H' hi' ⟨ws, sm, hDl, hwl, hws⟩
      obtain ⟨a, rfl, ha⟩ := map_int_at hi'
      obtain ⟨d, hd1, hd2⟩ := hG.2 i a ha
      have hall : 0 ≤ a ∧ a < (us.length : Int) := by
        unfold formR at e0
        split at e0
        · cases e0
        · split at e0
          · cases e0
          · split at e0
            · cases e0
            · split at e0
              · rename_i h
                rw [List.all_eq_true] at h
                have := h a (List.mem_of_getElem? ha)
                rw [Bool.and_eq_true] at this
                exact ⟨of_decide_eq_true this.1, of_decide_eq_true this.2⟩
              · cases e0
      obtain ⟨an, rfl⟩ : ∃ an : Nat, a = (an : Int) := ⟨a.toNat, by omega⟩
      rw [Int.toNat_natCast] at hd1
      have hul2 : an < us.length := by omega
      have hua : us[an]? = some us[an] := List.getElem?_eq_getElem hul2
      have hdv := hD.2 an us[an] d hua hd1
      have hil : i < args.length := (List.getElem?_eq_some_iff.mp ha).1
      refine ⟨rfl, ?_⟩
      unfold tYes
      dsimp only
      rw [if_pos rfl]
      refine ⟨_, rfl, _, rfl, pd, _, an, _, rfl, rfl, sqT_same hpd (s1.trans sm), atI_nat hua, _, hDl, ?_, ws ++ [us[an]], fun b o e => by rw [upd_ne (ne_of_none e nD)]; exact sm _ _ e, upd_same, by rw [List.length_append, hwl]; rfl, fun j v d' h1 h2 => ?_⟩
      · rw [hwl]
        exact small1000 (by omega)
      · have nlu : NL H' (upd H' D (.lst (ws ++ [us[an]]))) := nl_upd hDl
        by_cases hj : j < ws.length
        · rw [List.getElem?_append_left hj] at h1
          exact (hws j v d' h1 h2).keep nlu
        · rw [List.getElem?_append_right (by omega)] at h1
          cases z : j - ws.length with
          | zero =>
            rw [z] at h1
            have e1 : us[an] = v := Option.some.inj h1
            subst e1
            have ej : j = i := by omega
            subst ej
            rw [hd2] at h2
            cases h2
            exact (hdv.same (s1.trans sm)).keep nlu
          | succ m =>
            rw [z] at h1
            simp at h1
    · rintro H2 ⟨ws, s2, hDl, hwl, hws⟩
      have hal2 : (args.map V.int).length = gs.length := by rw [List.length_map, hG.1]
      have hDws : Dms K H2 ws gs := ⟨by rw [hwl, hal2], hws⟩
      have hgl : gs.length ≤ 1000 := by rw [hG.1]; exact hal
      -- the shapes
      refine ⟨_, rfl, _, rfl, _, rfl, D, rfl, ⟨_, SqL.of hDl⟩, fun D2 nD2 => lc_list (K := K) (a := D) (xs := ws) (fun i H' => ∃ as : List Addr, Same H2 H' ∧ H' D2 = some (.lst (as.map V.ref)) ∧ as.length = i ∧ ∀ (j : Nat) (a : Addr) (d : Dom), as[j]? = some a → gs[j]? = some d → ShT K H2 a d.sh ∧ NoD K H2 a)
        ⟨[], same_upd nD2, upd_same, rfl, fun j v d h => by simp at h⟩ (fun i H' _ ⟨_, e, _⟩ => SqL.of (e _ _ hDl)) ?_ ?_⟩
      · rintro i x H' hi' ⟨as, sm, hD2l, hasl, has⟩
        have hil : i < gs.length := by rw [← hDws.1]; exact (List.getElem?_eq_some_iff.mp hi').1
        have hdi : gs[i]? = some gs[i] := List.getElem?_eq_getElem hil
        obtain ⟨p, a, rfl, h1, h2, h3⟩ := hDws.2 i x gs[i] hi' hdi
        refine ⟨rfl, ?_⟩
        unfold tYes
        dsimp only
        rw [if_pos rfl]
        refine ⟨_, rfl, p, _, (0 : Nat), _, rfl, rfl, sqT_same h1 sm, i0, _, hD2l, ?_, as ++ [a], fun b o e => by rw [upd_ne (ne_of_none e nD2)]; exact sm _ _ e, by rw [upd_same, List.map_append]; rfl, by rw [List.length_append, hasl]; rfl, fun j v d' k1 k2 => ?_⟩
        · rw [List.length_map, hasl]
          exact small1000 (by omega)
        · by_cases hj : j < as.length
          · rw [List.getElem?_append_left hj] at k1
            exact has j v d' k1 k2
          · rw [List.getElem?_append_right (by omega)] at k1
            cases z : j - as.length with
            | zero =>
              rw [z] at k1
              have e1 : a = v := Option.some.inj k1
              subst e1
              have ej : j = i := by omega
              subst ej
              rw [hdi] at k2
              cases k2
              exact ⟨h2, h3⟩
            | succ m =>
              rw [z] at k1
              simp at k1
      · rintro H3 ⟨as, s3, hD2l, hasl, has⟩
        have s12 := s1.trans s2
        have s13 := s12.trans s3
        have hSh : ShsAt K H3 as gs := ⟨by rw [hasl, hDws.1], fun i a d k1 k2 => ⟨(has i a d k1 k2).1.same s3, (has i a d k1 k2).2.same s3⟩⟩
        obtain ⟨spS, hMS, hspS⟩ := hSm
        refine ⟨kind, pi, D2, spS, rfl, hMS, fun Q' hQ' => hspS H3 D2 as Q' _ s13 (SqL.of hD2l) hSh fun H4 s4 => ⟨fun er p hS hN => ?_, fun k ek => ?_⟩⟩
        · refine hQ' H4 p r.2 hS hrl hrm fun H5 s5 => ⟨fun ec => ?_, fun k ek => ?_⟩
          · -- the interval
            have s15 := (s13.trans s4).trans s5
            obtain ⟨spI, hMI, hspI⟩ := hIm er ec
            refine ⟨_, rfl, _, rfl, _, rfl, kind, pi, D, spI, rfl, hMI, hspI H5 D ws _ s15 (SqL.of (((s3.trans s4).trans s5) _ _ hDl)) (hDws.same ((s3.trans s4).trans s5)) fun H6 p6 s6 hp6 => ?_⟩
            have s16 := s15.trans s6
            refine ⟨p6, _, rfl, hp6, rfl, _, _, rfl, _, _, rfl, rfl, ?_⟩
            have hend : endR r lo hi = if lo < -W200 ∨ W200 < hi then 7 else 0 := by
              unfold endR
              rw [if_neg (fun h => h er), if_neg (fun h => h ec)]
            refine ⟨_, rfl, _, _, rfl, rfl, ⟨by decide, by decide, by decide⟩, _, rfl, _, _, rfl, rfl, _, rfl, ite2 (fun e6 => iteT ?_) (fun e6 => ?_)⟩
            · exact (q _ s16).2 6 (by rw [hend, if_pos (.inl (of_decide_eq_true e6))])
            · refine ⟨_, rfl, _, _, rfl, rfl, ⟨by decide, by decide, by decide⟩, _, _, rfl, rfl, _, rfl, ite2 (fun e7 => ?_) (fun e7 => ?_)⟩
              · exact (q _ s16).2 6 (by rw [hend, if_pos (.inr (of_decide_eq_true e7))])
              · refine ⟨_, rfl, _, rfl, _, rfl, by show 3 ≤ sizeLine; decide, fun p7 np7 => ?_⟩
                refine (q _ (s16.trans (same_upd np7))).1 ?_ _ ⟨p7, p, rfl, SqT.of upd_same, ((hS.same s5).same s6).same (same_upd np7), ((hN.same s5).same s6).same (same_upd np7)⟩
                rw [hend, if_neg]
                rintro (h | h)
                · exact e6 (decide_eq_true h)
                · exact e7 (decide_eq_true h)
          · refine (q _ ((s13.trans s4).trans s5)).2 k ?_
            unfold endR
            rw [if_neg (fun h => h er), if_pos (by rw [ek]; exact Nat.succ_ne_zero k), ek]
        · refine (q _ (s13.trans s4)).2 k ?_
          unfold endR
          rw [if_pos (by rw [ek]; exact Nat.succ_ne_zero k), ek]
end

/-! ### nodes -/
inductive Bk | add | sub | mul | max | min | less | equal | neg | clamp (lo hi : Int) | shift (n : Nat) | wher
inductive Mv | sum (l : Nat) | peak (l : Nat) | order (ls : List Nat) | rename (l n : Nat) | spread (l : Nat) (z : Int) | cut (l : Nat) (st ct : Int) | pad (l : Nat) (b a : Int) | join (l : Nat) | window (l n : Nat) (w s : Int) | fold (l m : Nat) (s z : Int) | gather (l : Nat)
inductive Nd | input (sh : Sh) (lo hi : Int) | const (sh : Sh) (ns : List Int) | bc (k : Bk) (args : List Nat) | dot (l : Nat) (args : List Nat) | mv (k : Mv) (args : List Nat)
def Bk.nm : Bk → Str
  | .add => "add" | .sub => "sub" | .mul => "mul" | .max => "max" | .min => "min" | .less => "less" | .equal => "equal" | .neg => "neg" | .clamp _ _ => "clamp" | .shift _ => "shift" | .wher => "where"
def Bk.fs : Bk → List V
  | .clamp lo hi => [.int lo, .int hi] | .shift n => [.int (n : Int)] | _ => []
def Mv.nm : Mv → Str
  | .sum _ => "sum" | .peak _ => "peak" | .order _ => "order" | .rename _ _ => "rename" | .spread _ _ => "spread" | .cut _ _ _ => "cut" | .pad _ _ _ => "pad" | .join _ => "join" | .window _ _ _ _ => "window" | .fold _ _ _ _ => "fold" | .gather _ => "gather"
def Mv.fs : Mv → List V
  | .sum l => [.str (one l)] | .peak l => [.str (one l)] | .order ls => [.str ⟨ls.toArray⟩] | .rename l n => [.str (one l), .str (one n)] | .spread l z => [.str (one l), .int z] | .cut l a b => [.str (one l), .int a, .int b] | .pad l a b => [.str (one l), .int a, .int b]
  | .join l => [.str (one l)] | .window l n a b => [.str (one l), .str (one n), .int a, .int b] | .fold l m a b => [.str (one l), .str (one m), .int a, .int b] | .gather l => [.str (one l)]
def Nd.nm : Nd → Str
  | .input _ _ _ => "input" | .const _ _ => "const" | .bc k _ => k.nm | .dot _ _ => "dot" | .mv k _ => k.nm
def Nd.args : Nd → List Nat
  | .input _ _ _ => [] | .const _ _ => [] | .bc _ as => as | .dot _ as => as | .mv _ as => as
/-- the fields stand at pi -/
def InfoAt (K : PySem.W.Frag) (H : Hp) (pi : Addr) : Nd → Prop
  | .input sh lo hi => ∃ a, SqT K H pi [.ref a, .int lo, .int hi] ∧ ShT K H a sh ∧ NoD K H a
  | .const sh ns => ∃ a pd, SqT K H pi [.ref a, .ref pd] ∧ ShT K H a sh ∧ NoD K H a ∧ SqT K H pd (ns.map V.int)
  | .bc k _ => SqT K H pi k.fs
  | .dot l _ => SqT K H pi [.str (one l)]
  | .mv k _ => SqT K H pi k.fs
theorem InfoAt.keep {K : PySem.W.Frag} {H H' : Hp} {pi : Addr} {nd : Nd} (h : InfoAt K H pi nd) (s : NL H H') : InfoAt K H' pi nd := by
  cases nd with
  | input sh lo hi =>
    obtain ⟨a, h1, h2, h3⟩ := h
    exact ⟨a, sqT_nl h1 s, h2.keep s, h3.keep s⟩
  | const sh ns =>
    obtain ⟨a, pd, h1, h2, h3, h4⟩ := h
    exact ⟨a, pd, sqT_nl h1 s, h2.keep s, h3.keep s, sqT_nl h4 s⟩
  | bc k as => exact sqT_nl h s
  | dot l as => exact sqT_nl h s
  | mv k as => exact sqT_nl h s
def asInts (as : List Nat) : List Int := as.map fun (n : Nat) => (n : Int)
def NdAt (K : PySem.W.Frag) (H : Hp) (v : V) (nd : Nd) : Prop := ∃ pn pa pi, v = .ref pn ∧ SqT K H pn [.str nd.nm, .ref pa, .ref pi] ∧ SqT K H pa ((asInts nd.args).map V.int) ∧ InfoAt K H pi nd
theorem NdAt.keep {K : PySem.W.Frag} {H H' : Hp} {v : V} {nd : Nd} (h : NdAt K H v nd) (s : NL H H') : NdAt K H' v nd := by
  obtain ⟨pn, pa, pi, e, h1, h2, h3⟩ := h
  exact ⟨pn, pa, pi, e, sqT_nl h1 s, sqT_nl h2 s, h3.keep s⟩
theorem NdAt.same {K : PySem.W.Frag} {H H' : Hp} {v : V} {nd : Nd} (h : NdAt K H v nd) (s : Same H H') : NdAt K H' v nd := h.keep (Same.nl s)
/-! ### rules for the tests of kinds -/
theorem iteTd {b : Bool} {P Q : Prop} (h : b = true) (p : P) : if b = true then P else Q := by rw [if_pos h]; exact p
theorem iteFd {b : Bool} {P Q : Prop} (h : b = false) (q : Q) : if b = true then P else Q := by rw [if_neg (by rw [h]; exact Bool.false_ne_true)]; exact q
def tStrs : List Str → TA
  | [] => tNil
  | z :: r => tCons (tC (.str z)) (tStrs r)
theorem tStrs_run : ∀ (zs : List Str) (σ : St) (H : Hp) (Q : List V → Hp → Prop), Q (zs.map V.str) H → tStrs zs σ H Q
  | [], _, _, _, h => h
  | z :: r, σ, H, Q, h => tStrs_run r σ H (fun vs H' => Q (.str z :: vs) H') h
theorem inV_strs (z : Str) : ∀ zs : List Str, inV (.str z) (zs.map V.str) = decide (z ∈ zs)
  | [] => by simp [inV]
  | y :: zs => by
    have ih := inV_strs z zs
    unfold inV at *
    rw [List.map_cons, List.any_cons, ih]
    show ((y == z) || decide (z ∈ zs)) = decide (z ∈ y :: zs)
    rw [Bool.eq_iff_iff, Bool.or_eq_true, beq_iff_eq, decide_eq_true_iff, decide_eq_true_iff, List.mem_cons]
    exact or_congr eq_comm Iff.rfl
theorem flat_strs : ∀ zs : List Str, (zs.map V.str).all flatV = true
  | [] => rfl
  | _ :: zs => flat_strs zs
/-- kind in ('a', 'b', ..) -/
def tInS (i : Nat) (zs : List Str) : TE := fun σ H Q => ∃ z, σ[i]? = some (some (.str z)) ∧ ∀ H', Same H H' → Q (.bl (decide (z ∈ zs))) H'
theorem pe_inS {X : Cx} {e : Expr} {es : List Expr} {i : Nat} {zs : List Str} {c : Nat} {pos pos' : Pos} (hz : zs.length ≤ 1000) (he : PE X e (tVar i)) (ht : PA X es (tStrs zs)) (hb : behindInMarks .In (.Tuple es c pos') = false := by rfl) : PE X (.Compare e [.In] [.Tuple es c pos'] pos) (tInS i zs) := by
  refine ⟨fun pins s σ H Q I h => ?_⟩
  obtain ⟨z, hz2, q⟩ := h
  refine (pe_cmpR op_in_seq he (pe_tup ht) hb).run pins s σ H Q I ⟨.str z, hz2, tStrs_run zs σ H _ ⟨?_, fun p np => ?_⟩⟩
  · rw [List.length_map]
    exact Nat.le_trans hz (by decide)
  · refine ⟨p, zs.map V.str, rfl, .inr (SqT.of upd_same), rfl, flat_strs zs, ?_⟩
    show Q (.bl (inV (.str z) (zs.map V.str))) _
    rw [inV_strs]
    exact q _ (same_upd np)
theorem pt_inS {X : Cx} {e : Expr} {es : List Expr} {i : Nat} {zs : List Str} {c : Nat} {pos pos' : Pos} (hz : zs.length ≤ 1000) (he : PE X e (tVar i)) (ht : PA X es (tStrs zs)) (hb : behindInMarks .In (.Tuple es c pos') = false := by rfl) : PT X (.Compare e [.In] [.Tuple es c pos'] pos) (tTest (tInS i zs)) := by
  refine ⟨fun pins s σ H Q I h => ?_⟩
  obtain ⟨z, hz2, q⟩ := h
  refine (pt_cmpR op_in_seq he (pe_tup ht) hb).run pins s σ H Q I ⟨.str z, hz2, tStrs_run zs σ H _ ⟨?_, fun p np => ?_⟩⟩
  · rw [List.length_map]
    exact Nat.le_trans hz (by decide)
  · refine ⟨p, zs.map V.str, rfl, .inr (SqT.of upd_same), rfl, flat_strs zs, ?_⟩
    have := q _ (same_upd (o := .tup (zs.map V.str)) np)
    rw [← inV_strs] at this
    exact this
section
variable {P : Program} {w : World} {K : PySem.W.Frag} {mg : Str → Option Value} {base : Heap}
abbrev nLN : List Str := ["shape", "axis"]
theorem scLN : FnScope nLN ["shape"] (defScope sNames) := ⟨rfl, rfl, rfl, by decide +kernel, rfl, by decide +kernel, by decide +kernel⟩
theorem ok_namesT {f : Addr} {fd : FuncData} (F : Fun K "_law_names" "_law_names" sNames f fd) : FnOk P w K mg base CX0 1 f fd ["shape"] (spLettersOf K) := by
  refine F.ok scLN (fun vs H Q E h => ?_) (fun cdv A outer s H vs Q E hr h => ?_)
  · obtain ⟨a, sh, rfl, _⟩ := h
    rfl
  · obtain ⟨a, sh, rfl, ⟨ts, ha, hx⟩, hl, q⟩ := h
    refine ⟨_, pss_one (ps_ret (pe_join pe_str (pe_lc (own := [("axis", 1)]) (g := gName 1) (tt := tYes) (te := tOp (rIxT K) (tVar 1) (tC (.int 0))) rfl scLN.nd (pi_tup (pv 0)) (blkOk_by (N := nLN) (sc := defScope sNames) (by decide +kernel))
      (fun _ _ _ _ _ => pg_name (i := 1) scLN.nd rfl (.inl rfl) (hf := Or.inr rfl)) (fun _ _ _ _ _ => pts_nil) (fun _ _ _ _ _ => pe_ix ix_tup (pv 1) pe_int (fun _ _ => rfl))))), ?_⟩
    refine ⟨⟨_, rfl⟩, _, rfl, a, rfl, ⟨_, ha⟩, fun D nD => lc_tup (K := K) (a := a) (xs := ts.map V.ref) (fun i H' => Same H H' ∧ H' D = some (.lst (((codes sh).take i).map fun c => V.str (one c))))
      ⟨same_upd nD, upd_same⟩ (fun i H' _ h => sqT_same ha h.1) ?_ ?_⟩
    · rintro i x H' hi ⟨sm, hD⟩
      obtain ⟨t, p, rfl, g1, g2, g3⟩ := hx.at hi
      refine ⟨rfl, ?_⟩
      unfold tYes
      dsimp only
      rw [if_pos rfl]
      refine ⟨_, rfl, t, _, 0, _, rfl, rfl, sqT_same g3 sm, rfl, _, hD, ?_, ?_, ?_⟩
      · rw [List.length_map, List.length_take, codes, List.length_map]
        exact Nat.lt_of_le_of_lt (Nat.min_le_right _ _) (small1000 (by omega))
      · exact fun b o e => by rw [upd_ne (ne_of_none e nD)]; exact sm _ _ e
      · rw [upd_same, take_snoc (show (codes sh)[i]? = some p.1 by rw [codes, List.getElem?_map, g2]; rfl), List.map_append]
        rfl
    · rintro H' ⟨sm, hD⟩
      rw [show (ts.map V.ref).length = (codes sh).length by rw [List.length_map, hx.1, codes, List.length_map], List.take_length] at hD
      refine ⟨"", D, (codes sh).map one, rfl, rfl, .inl (SqL.of (by rw [List.map_map]; exact hD)), ?_, ?_⟩
      · rw [ones_len, List.length_map, codes, List.length_map]
        have : (("" : Str)).length = 0 := rfl
        rw [this]
        omega
      · rw [join_ones]
        exact q _ sm
theorem scLL : FnScope ["n", "low", "high"] ["n", "low", "high"] (defScope s_law_limit) := ⟨rfl, rfl, rfl, by decide +kernel, rfl, by decide +kernel, by decide +kernel⟩
def spLLimit : Sp := fun vs H Q _ => ∃ n l h : Int, vs = [.int n, .int l, .int h] ∧ Q (.int (mx l (mn h n))) H
theorem ok_llimit {f : Addr} {fd : FuncData} (F : Fun K "_law_limit" "_law_limit" s_law_limit f fd) (mi : mg "min" = none) (ma : mg "max" = none) : FnOk P w K mg base CX0 1 f fd ["n", "low", "high"] spLLimit := by
  refine F.ok scLL (fun vs H Q E h => ?_) (fun cdv A outer s H vs Q E hr h => ?_)
  · obtain ⟨n, l, h, rfl, _⟩ := h
    rfl
  · obtain ⟨n, l, u, rfl, q⟩ := h
    exact ⟨_, (pss_one (ps_ret (pe_callB (call_max2 rfl) (by rfl) ma (by decide +kernel) (pa_cons (pv 1) (pa_cons (pe_callB (call_min2 rfl) (by rfl) mi (by decide +kernel) (pa_cons (pv 2) (pa_cons (pv 0) pa_nil))) pa_nil))))), _, rfl, _, rfl, _, rfl, _, _, rfl, _, _, rfl, q⟩
theorem scLCo : FnScope ["one", "two", "products"] ["one", "two"] (defScope s_law_corners) := ⟨rfl, rfl, rfl, by decide +kernel, rfl, by decide +kernel, by decide +kernel⟩
theorem ok_lcorners {f : Addr} {fd : FuncData} (F : Fun K "_law_corners" "_law_corners" s_law_corners f fd) (mi : mg "min" = none) (ma : mg "max" = none) : FnOk P w K mg base CX0 1 f fd ["one", "two"] (spCorners K) := by
  refine F.ok scLCo (fun vs H Q E h => ?_) (fun cdv A outer s H vs Q E hr h => ?_)
  · obtain ⟨p1, p2, l, h, p, q, rfl, _⟩ := h
    rfl
  · obtain ⟨p1, p2, l, h, p, q, rfl, hp1, hp2, b1, b2, b3, b4, hq⟩ := h
    have c : ∀ {x y : Int}, Bg 300 x → Bg 300 y → CMulW x y := fun a b => Bg.cmul a b (by decide) (by decide) (by decide)
    refine ⟨_, (pss_cons (ps_set (i := 2) scLCo.nd rfl (.inl rfl) (pe_lst (pa_cons (pe_op op_mulW (pe_ix ix_tup (pv 0) pe_int (fun _ _ => rfl)) (pe_ix ix_tup (pv 1) pe_int (fun _ _ => rfl))) (pa_cons (pe_op op_mulW (pe_ix ix_tup (pv 0) pe_int (fun _ _ => rfl)) (pe_ix ix_tup (pv 1) pe_int (fun _ _ => rfl))) (pa_cons (pe_op op_mulW (pe_ix ix_tup (pv 0) pe_int (fun _ _ => rfl)) (pe_ix ix_tup (pv 1) pe_int (fun _ _ => rfl))) (pa_cons (pe_op op_mulW (pe_ix ix_tup (pv 0) pe_int (fun _ _ => rfl)) (pe_ix ix_tup (pv 1) pe_int (fun _ _ => rfl))) pa_nil))))))
      (pss_one (ps_ret (pe_tup (pa_cons (pe_callB (cr_min (by rfl)) (by rfl) mi (by decide +kernel) (pa_cons (pv 2) pa_nil)) (pa_cons (pe_callB (cr_max (by rfl)) (by rfl) ma (by decide +kernel) (pa_cons (pv 2) pa_nil)) pa_nil)))))), ?_⟩
    refine ⟨_, rfl, p1, _, (0 : Nat), _, rfl, rfl, hp1, i0, _, rfl, p2, _, (0 : Nat), _, rfl, rfl, hp2, i0, _, _, rfl, rfl, c b1 b3, ?_⟩
    refine ⟨_, rfl, p1, _, (0 : Nat), _, rfl, rfl, hp1, i0, _, rfl, p2, _, (1 : Nat), _, rfl, rfl, hp2, i1, _, _, rfl, rfl, c b1 b4, ?_⟩
    refine ⟨_, rfl, p1, _, (1 : Nat), _, rfl, rfl, hp1, i1, _, rfl, p2, _, (0 : Nat), _, rfl, rfl, hp2, i0, _, _, rfl, rfl, c b2 b3, ?_⟩
    refine ⟨_, rfl, p1, _, (1 : Nat), _, rfl, rfl, hp1, i1, _, rfl, p2, _, (1 : Nat), _, rfl, rfl, hp2, i1, _, _, rfl, rfl, c b2 b4, by show 4 ≤ sizeLine; decide, fun pe npe => ?_⟩
    have hpe : SqL K (upd H pe (.lst ((corn l h p q).map V.int))) pe ((corn l h p q).map V.int) := SqL.of upd_same
    have s1 := same_upd (o := .lst ((corn l h p q).map V.int)) npe
    refine ⟨_, rfl, pe, corn l h p q, rfl, hpe, (by show 0 < 4; decide), fun m1 e1 e2 => ⟨_, rfl, pe, corn l h p q, rfl, hpe, (by show 0 < 4; decide), fun m2 e3 e4 => ⟨two_line, fun p5 np5 => hq _ p5 (s1.trans (same_upd np5)) ?_⟩⟩⟩
    rw [lst_is e1 e2, grt_is e3 e4]
    exact SqT.of upd_same
end

section
variable {P : Program} {w : World} {K : PySem.W.Frag} {mg : Str → Option Value} {base : Heap}
theorem scPt : FnScope ["kind", "v", "info"] ["kind", "v", "info"] (defScope s_law_point) := ⟨rfl, rfl, rfl, by decide +kernel, rfl, by decide +kernel, by decide +kernel⟩
def spPoint (K : PySem.W.Frag) : Sp := fun vs H Q _ => ∃ (kind : Str) (p pi : Addr) (x y : Int), vs = [.str kind, .ref p, .ref pi] ∧ SqT K H p [.int x] ∧ ((kind = "neg" ∧ y = -x) ∨ (kind = "clamp" ∧ ∃ lo hi, SqT K H pi [.int lo, .int hi] ∧ y = mx lo (mn hi x)) ∨ (kind = "shift" ∧ ∃ n : Nat, SqT K H pi [.int (n : Int)] ∧ 1 ≤ n ∧ n ≤ 30 ∧ y = shf x n)) ∧ Q (.int y) H
theorem ok_point {f fLi : Addr} {fd fdLi : FuncData} (F : Fun K "_law_point" "_law_point" s_law_point f fd)
    (GLi : FnOk P w K mg base CX0 1 fLi fdLi ["n", "low", "high"] spLLimit) (kLi : PySem.W.keepIn K (.ref fLi) = true) (bLi : Binds K fdLi ["n", "low", "high"] []) (gLi : mg "_law_limit" = some (.ref fLi))
    : FnOk P w K mg base CX0 2 f fd ["kind", "v", "info"] (spPoint K) := by
  refine F.ok scPt (fun vs H Q E h => ?_) (fun cdv A outer s H vs Q E hr h => ?_)
  · obtain ⟨kind, p, pi, x, y, rfl, _⟩ := h
    rfl
  · obtain ⟨kind, p, pi, x, y, rfl, hp, hk, q⟩ := h
    refine ⟨_, (pss_cons (ps_if (pt_cmpR op_eq (pv 0) (pe_str) (nomark _)) (pss_one (ps_ret (pe_op op_add (pe_ix ix_tup (pv 1) pe_int (fun _ _ => rfl)) (pe_ix ix_tup (pv 1) pe_int (fun _ _ => rfl))))) pss_nil)
      (pss_cons (ps_if (pt_cmpR op_eq (pv 0) (pe_str) (nomark _)) (pss_one (ps_ret (pe_op op_sub (pe_ix ix_tup (pv 1) pe_int (fun _ _ => rfl)) (pe_ix ix_tup (pv 1) pe_int (fun _ _ => rfl))))) pss_nil)
      (pss_cons (ps_if (pt_cmpR op_eq (pv 0) (pe_str) (nomark _)) (pss_one (ps_ret (pe_op op_mulW (pe_ix ix_tup (pv 1) pe_int (fun _ _ => rfl)) (pe_ix ix_tup (pv 1) pe_int (fun _ _ => rfl))))) pss_nil)
      (pss_cons (ps_if (pt_cmpR op_eq (pv 0) (pe_str) (nomark _)) (pss_one (ps_ret (pe_ifExp (pt_cmpR op_gt (pe_ix ix_tup (pv 1) pe_int (fun _ _ => rfl)) (pe_ix ix_tup (pv 1) pe_int (fun _ _ => rfl)) (nomark _)) (pe_ix ix_tup (pv 1) pe_int (fun _ _ => rfl)) (pe_ix ix_tup (pv 1) pe_int (fun _ _ => rfl))))) pss_nil)
      (pss_cons (ps_if (pt_cmpR op_eq (pv 0) (pe_str) (nomark _)) (pss_one (ps_ret (pe_ifExp (pt_cmpR op_lt (pe_ix ix_tup (pv 1) pe_int (fun _ _ => rfl)) (pe_ix ix_tup (pv 1) pe_int (fun _ _ => rfl)) (nomark _)) (pe_ix ix_tup (pv 1) pe_int (fun _ _ => rfl)) (pe_ix ix_tup (pv 1) pe_int (fun _ _ => rfl))))) pss_nil)
      (pss_cons (ps_if (pt_cmpR op_eq (pv 0) (pe_str) (nomark _)) (pss_one (ps_ret (pe_ifExp (pt_cmpR op_lt (pe_ix ix_tup (pv 1) pe_int (fun _ _ => rfl)) (pe_ix ix_tup (pv 1) pe_int (fun _ _ => rfl)) (nomark _)) (pe_int) (pe_int)))) pss_nil)
      (pss_cons (ps_if (pt_cmpR op_eq (pv 0) (pe_str) (nomark _)) (pss_one (ps_ret (pe_ifExp (pt_cmpR op_eq (pe_ix ix_tup (pv 1) pe_int (fun _ _ => rfl)) (pe_ix ix_tup (pv 1) pe_int (fun _ _ => rfl)) (nomark _)) (pe_int) (pe_int)))) pss_nil)
      (pss_cons (ps_if (pt_cmpR op_eq (pv 0) (pe_str) (nomark _)) (pss_one (ps_ret (pe_un un_neg (pe_ix ix_tup (pv 1) pe_int (fun _ _ => rfl))))) pss_nil)
      (pss_cons (ps_if (pt_cmpR op_eq (pv 0) (pe_str) (nomark _)) (pss_one (ps_ret (pe_call GLi hr (by rfl) gLi kLi bLi .nil pass0 (pa_cons (pe_ix ix_tup (pv 1) pe_int (fun _ _ => rfl)) (pa_cons (pe_ix ix_tup (pv 2) pe_int (fun _ _ => rfl)) (pa_cons (pe_ix ix_tup (pv 2) pe_int (fun _ _ => rfl)) pa_nil)))))) pss_nil)
      (pss_cons (ps_if (pt_cmpR op_eq (pv 0) (pe_str) (nomark _)) (pss_one (ps_ret (pe_op op_fdivW (pe_op op_add (pe_ix ix_tup (pv 1) pe_int (fun _ _ => rfl)) (pe_op op_fdiv (pe_op op_shl pe_int (pe_ix ix_tup (pv 2) pe_int (fun _ _ => rfl))) pe_int)) (pe_op op_shl pe_int (pe_ix ix_tup (pv 2) pe_int (fun _ _ => rfl)))))) pss_nil)
      (pss_one (ps_ret (pe_ifExp (pt_cmpR op_ne (pe_ix ix_tup (pv 1) pe_int (fun _ _ => rfl)) (pe_int) (nomark _)) (pe_ix ix_tup (pv 1) pe_int (fun _ _ => rfl)) (pe_ix ix_tup (pv 1) pe_int (fun _ _ => rfl))))))))))))))), ?_⟩
    rcases hk with ⟨rfl, rfl⟩ | ⟨rfl, lo, hi, hi', rfl⟩ | ⟨rfl, n, hi', n1, n2, rfl⟩
    · refine ⟨_, rfl, rfl, _, rfl, iteFd (show decide (V.str "neg" = V.str "add") = false by decide +kernel) ?_⟩
      refine ⟨_, rfl, rfl, _, rfl, iteFd (show decide (V.str "neg" = V.str "sub") = false by decide +kernel) ?_⟩
      refine ⟨_, rfl, rfl, _, rfl, iteFd (show decide (V.str "neg" = V.str "mul") = false by decide +kernel) ?_⟩
      refine ⟨_, rfl, rfl, _, rfl, iteFd (show decide (V.str "neg" = V.str "max") = false by decide +kernel) ?_⟩
      refine ⟨_, rfl, rfl, _, rfl, iteFd (show decide (V.str "neg" = V.str "min") = false by decide +kernel) ?_⟩
      refine ⟨_, rfl, rfl, _, rfl, iteFd (show decide (V.str "neg" = V.str "less") = false by decide +kernel) ?_⟩
      refine ⟨_, rfl, rfl, _, rfl, iteFd (show decide (V.str "neg" = V.str "equal") = false by decide +kernel) ?_⟩
      refine ⟨_, rfl, rfl, _, rfl, iteTd (show decide (V.str "neg" = V.str "neg") = true by decide +kernel) ?_⟩
      exact ⟨_, rfl, p, _, (0 : Nat), _, rfl, rfl, hp, i0, _, rfl, q⟩
    · refine ⟨_, rfl, rfl, _, rfl, iteFd (show decide (V.str "clamp" = V.str "add") = false by decide +kernel) ?_⟩
      refine ⟨_, rfl, rfl, _, rfl, iteFd (show decide (V.str "clamp" = V.str "sub") = false by decide +kernel) ?_⟩
      refine ⟨_, rfl, rfl, _, rfl, iteFd (show decide (V.str "clamp" = V.str "mul") = false by decide +kernel) ?_⟩
      refine ⟨_, rfl, rfl, _, rfl, iteFd (show decide (V.str "clamp" = V.str "max") = false by decide +kernel) ?_⟩
      refine ⟨_, rfl, rfl, _, rfl, iteFd (show decide (V.str "clamp" = V.str "min") = false by decide +kernel) ?_⟩
      refine ⟨_, rfl, rfl, _, rfl, iteFd (show decide (V.str "clamp" = V.str "less") = false by decide +kernel) ?_⟩
      refine ⟨_, rfl, rfl, _, rfl, iteFd (show decide (V.str "clamp" = V.str "equal") = false by decide +kernel) ?_⟩
      refine ⟨_, rfl, rfl, _, rfl, iteFd (show decide (V.str "clamp" = V.str "neg") = false by decide +kernel) ?_⟩
      refine ⟨_, rfl, rfl, _, rfl, iteTd (show decide (V.str "clamp" = V.str "clamp") = true by decide +kernel) ?_⟩
      exact ⟨_, rfl, p, _, (0 : Nat), _, rfl, rfl, hp, i0, _, rfl, pi, _, (0 : Nat), _, rfl, rfl, hi', i0, _, rfl, pi, _, (1 : Nat), _, rfl, rfl, hi', i1, _, _, _, rfl, q⟩
    · refine ⟨_, rfl, rfl, _, rfl, iteFd (show decide (V.str "shift" = V.str "add") = false by decide +kernel) ?_⟩
      refine ⟨_, rfl, rfl, _, rfl, iteFd (show decide (V.str "shift" = V.str "sub") = false by decide +kernel) ?_⟩
      refine ⟨_, rfl, rfl, _, rfl, iteFd (show decide (V.str "shift" = V.str "mul") = false by decide +kernel) ?_⟩
      refine ⟨_, rfl, rfl, _, rfl, iteFd (show decide (V.str "shift" = V.str "max") = false by decide +kernel) ?_⟩
      refine ⟨_, rfl, rfl, _, rfl, iteFd (show decide (V.str "shift" = V.str "min") = false by decide +kernel) ?_⟩
      refine ⟨_, rfl, rfl, _, rfl, iteFd (show decide (V.str "shift" = V.str "less") = false by decide +kernel) ?_⟩
      refine ⟨_, rfl, rfl, _, rfl, iteFd (show decide (V.str "shift" = V.str "equal") = false by decide +kernel) ?_⟩
      refine ⟨_, rfl, rfl, _, rfl, iteFd (show decide (V.str "shift" = V.str "neg") = false by decide +kernel) ?_⟩
      refine ⟨_, rfl, rfl, _, rfl, iteFd (show decide (V.str "shift" = V.str "clamp") = false by decide +kernel) ?_⟩
      refine ⟨_, rfl, rfl, _, rfl, iteTd (show decide (V.str "shift" = V.str "shift") = true by decide +kernel) ?_⟩
      refine ⟨_, rfl, p, _, (0 : Nat), _, rfl, rfl, hp, i0, _, rfl, pi, _, (0 : Nat), _, rfl, rfl, hi', i0, _, _, rfl, rfl, ⟨by omega, by omega, by decide⟩, _, _, rfl, rfl, ⟨by decide, by decide⟩, _, _, rfl, rfl, _, rfl, pi, _, (0 : Nat), _, rfl, rfl, hi', i0, _, _, rfl, rfl, ⟨by omega, by omega, by decide⟩, _, _, rfl, rfl, ?_, ?_⟩
      · have hp2 : (2 : Nat) ^ n ≤ 2 ^ 30 := Nat.pow_le_pow_right (by decide) n2
        have e1 : (1 : Int) * 2 ^ (n : Int).toNat = ((2 ^ n : Nat) : Int) := by rw [Int.one_mul, Int.toNat_natCast]; push_cast; rfl
        rw [e1]
        have h0 : 0 < 2 ^ n := Nat.pow_pos (by decide)
        refine Bg.divW (n := 40) ?_ (by omega) (by decide) (by decide)
        unfold Bg
        rw [Int.natAbs_natCast]
        exact Nat.lt_of_le_of_lt hp2 (by decide)
      · have e2 : ((1 : Int) * 2 ^ (n : Int).toNat) / 2 = 2 ^ (n - 1) := by
          rw [Int.one_mul, Int.toNat_natCast]
          obtain ⟨m, rfl⟩ : ∃ m, n = m + 1 := ⟨n - 1, by omega⟩
          rw [Nat.add_sub_cancel, Int.pow_succ]
          exact Int.mul_ediv_cancel _ (by decide)
        show Q (.int ((x + ((1 : Int) * 2 ^ (n : Int).toNat) / 2) / ((1 : Int) * 2 ^ (n : Int).toNat))) H
        rw [e2, Int.one_mul, Int.toNat_natCast]
        exact q
end

def sz (b : Sh) (l : Nat) : Int := (look b l).getD 0
def joinBad (a b : Sh) (l : Nat) : Bool := a.any fun p => decide (p.1 ≠ l) && decide (p.2 ≠ sz b p.1)
/-- the axes that stand in place of the named one -/
def newAx : Mv → Sh → Sh → Int → Option Sh
  | .sum _, _, _, _ => some []
  | .peak _, _, _, _ => some []
  | .rename _ m, a, _, n => if m ∈ codes a then none else some [(m, n)]
  | .cut l st ct, _, _, n => if n < st + ct then none else some [(l, ct)]
  | .pad l b c, _, _, n => some [(l, b + n + c)]
  | .join l, a, b, n => if codes a = codes b ∧ joinBad a b l = false then some [(l, n + sz b l)] else none
  | .window l m w s, a, _, n => if m ∈ codes a ∨ n < w then none else some [(l, (n - w) / s + 1), (m, w)]
  | .fold l m s z, a, _, n => if sz a m = 0 ∨ m = l ∨ z < s * (n - 1) + sz a m then none else some [(l, z)]
  | .gather _, a, b, _ => if anyIn b a = true then none else some b
  | _, _, _, _ => none
section
variable {P : Program} {w : World} {K : PySem.W.Frag} {mg : Str → Option Value} {base : Heap}
theorem axes1 {H : Hp} {t : Addr} {l : Nat} {z : Int} (h : SqT K H t [.str (one l), .int z]) : Axes K H [t] [(l, z)] := ⟨rfl, fun i u q a b => by
  cases i with
  | zero =>
    cases a
    cases b
    exact h
  | succ i => cases a⟩
theorem axes2 {H : Hp} {t t' : Addr} {l l' : Nat} {z z' : Int} (h : SqT K H t [.str (one l), .int z]) (h' : SqT K H t' [.str (one l'), .int z']) : Axes K H [t, t'] [(l, z), (l', z')] := ⟨rfl, fun i u q a b => by
  match i, a, b with
  | 0, a, b =>
    cases a
    cases b
    exact h
  | 1, a, b =>
    cases a
    cases b
    exact h'⟩
/-- what is asked of the fields -/
def MvOk : Mv → Prop
  | .window _ _ _ s => 1 ≤ s ∧ s ≤ 16
  | .fold _ _ s _ => 1 ≤ s ∧ s ≤ 16
  | .spread _ z => 1 ≤ z
  | .order ls => ls.length < 64 ∧ ∀ c ∈ ls, c < 128
  | _ => True
def AxQ (K : PySem.W.Frag) (r : Option Sh) (Q : VK) (H : Hp) : Prop := ∀ H', Same H H' → (r = none → Q .non H') ∧ ∀ ax, r = some ax → ∀ p us, H' p = some (.lst (us.map V.ref)) → Axes K H' us ax → Q (.ref p) H'
theorem scNA : FnScope ["kind", "a", "other", "info", "n", "k", "names", "axis", "w"] ["kind", "a", "other", "info", "n"] (defScope s_law_new_axes) := ⟨rfl, rfl, rfl, by decide +kernel, rfl, by decide +kernel, by decide +kernel⟩
def isNA : Mv → Prop
  | .order _ => False
  | .spread _ _ => False
  | _ => True
def spNA (K : PySem.W.Frag) : Sp := fun vs H Q _ => ∃ (k : Mv) (a b pi : Addr) (sa sb : Sh) (n : Int), vs = [.str k.nm, .ref a, .ref b, .ref pi, .int n] ∧ isNA k ∧ ShT K H a sa ∧ ShT K H b sb ∧ SqT K H pi k.fs ∧ sa.length ≤ 4 ∧ sb.length ≤ 4 ∧ MvOk k ∧ -1000 ≤ n ∧ n ≤ 1000 ∧ AxQ K (newAx k sa sb n) Q H
theorem ok_na {f fNm fSz : Addr} {fd fdNm fdSz : FuncData} (F : Fun K "_law_new_axes" "_law_new_axes" s_law_new_axes f fd) (ml : mg "list" = none)
    (GNm : FnOk P w K mg base CX0 1 fNm fdNm ["shape"] (spLettersOf K)) (kNm : PySem.W.keepIn K (.ref fNm) = true) (bNm : Binds K fdNm ["shape"] []) (gNm : mg "_law_names" = some (.ref fNm))
    (GSz : FnOk P w K mg base CX0 1 fSz fdSz ["shape", "letter"] (spSizeT K)) (kSz : PySem.W.keepIn K (.ref fSz) = true) (bSz : Binds K fdSz ["shape", "letter"] []) (gSz : mg "_law_size" = some (.ref fSz))
    : FnOk P w K mg base CX0 2 f fd ["kind", "a", "other", "info", "n"] (spNA K) := by
  refine F.ok scNA (fun vs H Q E h => ?_) (fun cdv A outer s H vs Q E hr h => ?_)
  · obtain ⟨k, a, b, pi, sa, sb, n, rfl, _⟩ := h
    rfl
  · obtain ⟨k, a, b, pi, sa, sb, n, rfl, hna, hA, hB, hi, la, lb, hok, n0, n1, q⟩ := h
    refine ⟨_, (pss_cons (ps_set (i := 5) scNA.nd rfl (.inl rfl) (pe_ix ix_tup (pv 3) pe_int (fun _ _ => rfl)))
      (pss_cons (ps_set (i := 6) scNA.nd rfl (.inl rfl) (pe_call GNm hr (by rfl) gNm kNm bNm .nil pass0 (pa_cons (pv 1) pa_nil)))
      (pss_cons (ps_if (pt_inS (zs := ["sum", "peak"]) (by decide) (pv 0) (pa_cons (pe_str) (pa_cons (pe_str) pa_nil))) (pss_one (ps_ret (pe_lst pa_nil))) pss_nil)
      (pss_cons (ps_if (pt_cmpR op_eq (pv 0) (pe_str) (nomark _)) (pss_one (ps_ret (pe_ifExp (pt_cmpR op_in_sign (pe_ix ix_tup (pv 3) pe_int (fun _ _ => rfl)) (pv 6) rfl) (pe_non) (pe_lst (pa_cons (pe_tup (pa_cons (pe_ix ix_tup (pv 3) pe_int (fun _ _ => rfl)) (pa_cons (pv 4) pa_nil))) pa_nil))))) pss_nil)
      (pss_cons (ps_if (pt_cmpR op_eq (pv 0) (pe_str) (nomark _)) (pss_one (ps_ret (pe_ifExp (pt_cmpR op_gt (pe_op op_add (pe_ix ix_tup (pv 3) pe_int (fun _ _ => rfl)) (pe_ix ix_tup (pv 3) pe_int (fun _ _ => rfl))) (pv 4) (nomark _)) (pe_non) (pe_lst (pa_cons (pe_tup (pa_cons (pv 5) (pa_cons (pe_ix ix_tup (pv 3) pe_int (fun _ _ => rfl)) pa_nil))) pa_nil))))) pss_nil)
      (pss_cons (ps_if (pt_cmpR op_eq (pv 0) (pe_str) (nomark _)) (pss_one (ps_ret (pe_lst (pa_cons (pe_tup (pa_cons (pv 5) (pa_cons (pe_op op_add (pe_op op_add (pe_ix ix_tup (pv 3) pe_int (fun _ _ => rfl)) (pv 4)) (pe_ix ix_tup (pv 3) pe_int (fun _ _ => rfl))) pa_nil))) pa_nil)))) pss_nil)
      (pss_cons (ps_if (pt_cmpR op_eq (pv 0) (pe_str) (nomark _)) (pss_cons (ps_if (pt_cmpR op_ne (pv 6) (pe_call GNm hr (by rfl) gNm kNm bNm .nil pass0 (pa_cons (pv 2) pa_nil)) (nomark _)) (pss_one (ps_ret (pe_non))) pss_nil)
      (pss_cons (ps_for PassesOwn.never rfl (pi_tup (pv 1)) (pg_name (i := 7) scNA.nd rfl (.inl rfl)) (pss_one (ps_if (PW.pt (pw_and (pt_cmpR op_ne (pe_ix ix_tup (pv 7) pe_int (fun _ _ => rfl)) (pv 5) (nomark _)) (pw_and1 (pt_cmpR op_ne (pe_ix ix_tup (pv 7) pe_int (fun _ _ => rfl)) (pe_call GSz hr (by rfl) gSz kSz bSz .nil pass0 (pa_cons (pv 2) (pa_cons (pe_ix ix_tup (pv 7) pe_int (fun _ _ => rfl)) pa_nil))) (nomark _))))) (pss_one (ps_ret (pe_non))) pss_nil)))
      (pss_one (ps_ret (pe_lst (pa_cons (pe_tup (pa_cons (pv 5) (pa_cons (pe_op op_add (pv 4) (pe_call GSz hr (by rfl) gSz kSz bSz .nil pass0 (pa_cons (pv 2) (pa_cons (pv 5) pa_nil)))) pa_nil))) pa_nil)))))) pss_nil)
      (pss_cons (ps_if (pt_cmpR op_eq (pv 0) (pe_str) (nomark _)) (pss_cons (ps_if (PW.pt (pw_or (pt_cmpR op_in_sign (pe_ix ix_tup (pv 3) pe_int (fun _ _ => rfl)) (pv 6) rfl) (pw_or1 (pt_cmpR op_gt (pe_ix ix_tup (pv 3) pe_int (fun _ _ => rfl)) (pv 4) (nomark _))))) (pss_one (ps_ret (pe_non))) pss_nil)
      (pss_one (ps_ret (pe_lst (pa_cons (pe_tup (pa_cons (pv 5) (pa_cons (pe_op op_add (pe_op op_fdiv (pe_op op_sub (pv 4) (pe_ix ix_tup (pv 3) pe_int (fun _ _ => rfl))) (pe_ix ix_tup (pv 3) pe_int (fun _ _ => rfl))) pe_int) pa_nil))) (pa_cons (pe_tup (pa_cons (pe_ix ix_tup (pv 3) pe_int (fun _ _ => rfl)) (pa_cons (pe_ix ix_tup (pv 3) pe_int (fun _ _ => rfl)) pa_nil))) pa_nil)))))) pss_nil)
      (pss_cons (ps_if (pt_cmpR op_eq (pv 0) (pe_str) (nomark _)) (pss_cons (ps_set (i := 8) scNA.nd rfl (.inl rfl) (pe_call GSz hr (by rfl) gSz kSz bSz .nil pass0 (pa_cons (pv 1) (pa_cons (pe_ix ix_tup (pv 3) pe_int (fun _ _ => rfl)) pa_nil))))
      (pss_cons (ps_if (PW.pt (pw_or (pt_cmpR op_eq (pv 8) (pe_int) (nomark _)) (pw_or (pt_cmpR op_eq (pe_ix ix_tup (pv 3) pe_int (fun _ _ => rfl)) (pv 5) (nomark _)) (pw_or1 (pt_cmpR op_gt (pe_op op_add (pe_op op_mul (pe_ix ix_tup (pv 3) pe_int (fun _ _ => rfl)) (pe_op op_sub (pv 4) pe_int)) (pv 8)) (pe_ix ix_tup (pv 3) pe_int (fun _ _ => rfl)) (nomark _)))))) (pss_one (ps_ret (pe_non))) pss_nil)
      (pss_one (ps_ret (pe_lst (pa_cons (pe_tup (pa_cons (pv 5) (pa_cons (pe_ix ix_tup (pv 3) pe_int (fun _ _ => rfl)) pa_nil))) pa_nil)))))) pss_nil)
      (pss_cons (ps_for PassesOwn.never rfl (pi_tup (pv 2)) (pg_name (i := 7) scNA.nd rfl (.inl rfl)) (pss_one (ps_if (pt_cmpR op_in_sign (pe_ix ix_tup (pv 7) pe_int (fun _ _ => rfl)) (pv 6) rfl) (pss_one (ps_ret (pe_non))) pss_nil)))
      (pss_one (ps_ret (pe_callTy call_list_of (by rfl) ml (by decide +kernel) (pa_cons (pv 2) pa_nil)))))))))))))), ?_⟩
    have hgo : ∀ (l : Nat) (rest : List V), SqT K H pi (.str (one l) :: rest) → True := fun _ _ _ => trivial
    cases k with
    | order ls => exact absurd hna id
    | spread l z => exact absurd hna id
    | sum l =>
      refine ⟨_, rfl, pi, _, (0 : Nat), _, rfl, rfl, hi, i0, ?_⟩
      refine ⟨_, rfl, a, sa, rfl, hA, by omega, fun HN sn => ?_⟩
      refine ⟨_, rfl, fun HI1 si1 => ⟨_, rfl, iteTd (show decide (("sum" : Str) ∈ (["sum", "peak"] : List Str)) = true by decide +kernel) ?_⟩⟩
      have st1 := sn.trans si1
      refine ⟨Nat.zero_le _, fun p np => ?_⟩
      exact (q _ (st1.trans (same_upd np))).2 [] rfl p [] upd_same Axes.nil
    | peak l =>
      refine ⟨_, rfl, pi, _, (0 : Nat), _, rfl, rfl, hi, i0, ?_⟩
      refine ⟨_, rfl, a, sa, rfl, hA, by omega, fun HN sn => ?_⟩
      refine ⟨_, rfl, fun HI1 si1 => ⟨_, rfl, iteTd (show decide (("peak" : Str) ∈ (["sum", "peak"] : List Str)) = true by decide +kernel) ?_⟩⟩
      have st1 := sn.trans si1
      refine ⟨Nat.zero_le _, fun p np => ?_⟩
      exact (q _ (st1.trans (same_upd np))).2 [] rfl p [] upd_same Axes.nil
    | rename l m =>
      refine ⟨_, rfl, pi, _, (0 : Nat), _, rfl, rfl, hi, i0, ?_⟩
      refine ⟨_, rfl, a, sa, rfl, hA, by omega, fun HN sn => ?_⟩
      refine ⟨_, rfl, fun HI1 si1 => ⟨_, rfl, iteFd (show decide (("rename" : Str) ∈ (["sum", "peak"] : List Str)) = false by decide +kernel) ?_⟩⟩
      have st1 := sn.trans si1
      refine ⟨_, rfl, rfl, _, rfl, iteTd (show decide (V.str "rename" = V.str "rename") = true by decide +kernel) ?_⟩
      have hi' := sqT_same hi st1
      have hq := q _ st1
      refine ⟨_, rfl, pi, _, (1 : Nat), _, rfl, rfl, hi', i1, _, rfl, m, lets sa, rfl, rfl, _, rfl, ?_⟩
      rw [show (lets sa).cps.toList = codes sa from rfl]
      by_cases e : m ∈ codes sa
      · rw [decide_eq_true e]
        exact iteT (hq.1 (by dsimp only [newAx]; rw [if_pos e]))
      · rw [decide_eq_false e]
        refine iteF ⟨_, rfl, pi, _, (1 : Nat), _, rfl, rfl, hi', i1, _, rfl, two_line, fun t nt => ⟨by show 1 ≤ sizeLine; decide, fun p np => ?_⟩⟩
        have s2 := (st1.trans (same_upd nt)).trans (same_upd (o := .lst [.ref t]) np)
        exact (q _ s2).2 [(m, n)] (by dsimp only [newAx]; rw [if_neg e]) p [t] upd_same (axes1 (SqT.of (same_upd np _ _ upd_same)))
    | cut l st ct =>
      refine ⟨_, rfl, pi, _, (0 : Nat), _, rfl, rfl, hi, i0, ?_⟩
      refine ⟨_, rfl, a, sa, rfl, hA, by omega, fun HN sn => ?_⟩
      refine ⟨_, rfl, fun HI1 si1 => ⟨_, rfl, iteFd (show decide (("cut" : Str) ∈ (["sum", "peak"] : List Str)) = false by decide +kernel) ?_⟩⟩
      have st1 := sn.trans si1
      refine ⟨_, rfl, rfl, _, rfl, iteFd (show decide (V.str "cut" = V.str "rename") = false by decide +kernel) ?_⟩
      refine ⟨_, rfl, rfl, _, rfl, iteTd (show decide (V.str "cut" = V.str "cut") = true by decide +kernel) ?_⟩
      have hi' := sqT_same hi st1
      have hq := q _ st1
      refine ⟨_, rfl, pi, _, (1 : Nat), _, rfl, rfl, hi', i1, _, rfl, pi, _, (2 : Nat), _, rfl, rfl, hi', i2, _, _, rfl, rfl, _, rfl, _, _, rfl, rfl, _, rfl, ite2 (fun e => ?_) (fun e => ?_)⟩
      · exact hq.1 (by dsimp only [newAx]; rw [if_pos (of_decide_eq_true e)])
      · refine ⟨_, rfl, _, rfl, pi, _, (2 : Nat), _, rfl, rfl, hi', i2, two_line, fun t nt => ⟨by show 1 ≤ sizeLine; decide, fun p np => ?_⟩⟩
        have s2 := (st1.trans (same_upd nt)).trans (same_upd (o := .lst [.ref t]) np)
        exact (q _ s2).2 [(l, ct)] (by dsimp only [newAx]; rw [if_neg (fun x => e (decide_eq_true x))]) p [t] upd_same (axes1 (SqT.of (same_upd np _ _ upd_same)))
    | pad l bb cc =>
      refine ⟨_, rfl, pi, _, (0 : Nat), _, rfl, rfl, hi, i0, ?_⟩
      refine ⟨_, rfl, a, sa, rfl, hA, by omega, fun HN sn => ?_⟩
      refine ⟨_, rfl, fun HI1 si1 => ⟨_, rfl, iteFd (show decide (("pad" : Str) ∈ (["sum", "peak"] : List Str)) = false by decide +kernel) ?_⟩⟩
      have st1 := sn.trans si1
      refine ⟨_, rfl, rfl, _, rfl, iteFd (show decide (V.str "pad" = V.str "rename") = false by decide +kernel) ?_⟩
      refine ⟨_, rfl, rfl, _, rfl, iteFd (show decide (V.str "pad" = V.str "cut") = false by decide +kernel) ?_⟩
      refine ⟨_, rfl, rfl, _, rfl, iteTd (show decide (V.str "pad" = V.str "pad") = true by decide +kernel) ?_⟩
      have hi' := sqT_same hi st1
      refine ⟨_, rfl, _, rfl, pi, _, (1 : Nat), _, rfl, rfl, hi', i1, _, rfl, _, _, rfl, rfl, _, rfl, pi, _, (2 : Nat), _, rfl, rfl, hi', i2, _, _, rfl, rfl, two_line, fun t nt => ⟨by show 1 ≤ sizeLine; decide, fun p np => ?_⟩⟩
      have s2 := (st1.trans (same_upd nt)).trans (same_upd (o := .lst [.ref t]) np)
      exact (q _ s2).2 [(l, bb + n + cc)] rfl p [t] upd_same (axes1 (SqT.of (same_upd np _ _ upd_same)))
    | join l =>
      refine ⟨_, rfl, pi, _, (0 : Nat), _, rfl, rfl, hi, i0, ?_⟩
      refine ⟨_, rfl, a, sa, rfl, hA, by omega, fun HN sn => ?_⟩
      refine ⟨_, rfl, fun HI1 si1 => ⟨_, rfl, iteFd (show decide (("join" : Str) ∈ (["sum", "peak"] : List Str)) = false by decide +kernel) ?_⟩⟩
      have st1 := sn.trans si1
      refine ⟨_, rfl, rfl, _, rfl, iteFd (show decide (V.str "join" = V.str "rename") = false by decide +kernel) ?_⟩
      refine ⟨_, rfl, rfl, _, rfl, iteFd (show decide (V.str "join" = V.str "cut") = false by decide +kernel) ?_⟩
      refine ⟨_, rfl, rfl, _, rfl, iteFd (show decide (V.str "join" = V.str "pad") = false by decide +kernel) ?_⟩
      refine ⟨_, rfl, rfl, _, rfl, iteTd (show decide (V.str "join" = V.str "join") = true by decide +kernel) ?_⟩
      have hq := q _ st1
      refine ⟨_, rfl, _, rfl, b, sb, rfl, hB.same st1, by omega, fun HJ sj => ⟨rfl, _, rfl, ?_⟩⟩
      have sJ := st1.trans sj
      by_cases e : codes sa = codes sb
      · rw [decide_eq_true (show V.str (lets sa) = V.str (lets sb) by rw [lets_eq.mpr e])]
        refine iteF ?_
        obtain ⟨ts, ha, hx⟩ := hA.same sJ
        refine ⟨_, rfl, a, rfl, ⟨_, ha⟩, for_tup (K := K) (a := a) (xs := ts.map V.ref) (fun i σ H' => ∃ (v7 : Option V), σ = [some (.str "join"), some (.ref a), some (.ref b), some (.ref pi), some (.int n), some (.str (one l)), some (.str (lets sa)), v7, none] ∧ H' = HJ ∧ ∀ j p, j < i → sa[j]? = some p → p.1 ≠ l → p.2 = sz sb p.1)
          ⟨none, rfl, rfl, fun j p h => absurd h (Nat.not_lt_zero _)⟩ (fun i σ H' _ ⟨_, _, e, _⟩ => by rw [e]; exact ha) ?_ ?_⟩
        · rintro i x σ H' hi6 ⟨v7, rfl, rfl, hno⟩
          obtain ⟨t, p, rfl, g1, g2, g3⟩ := hx.at hi6
          have next : (p.1 ≠ l → p.2 = sz sb p.1) → ∀ j p', j < i + 1 → sa[j]? = some p' → p'.1 ≠ l → p'.2 = sz sb p'.1 := fun hp j p' hj hp' => by
            by_cases ej : j = i
            · subst ej
              rw [g2] at hp'
              cases hp'
              exact hp
            · exact hno j p' (by omega) hp'
          refine ⟨_, rfl, t, _, (0 : Nat), _, rfl, rfl, g3, i0, _, rfl, rfl, _, rfl, ?_⟩
          by_cases e1 : p.1 = l
          · rw [decide_eq_true (show V.str (one p.1) = V.str (one l) by rw [e1])]
            exact iteF ⟨_, rfl, rfl, next fun h => absurd e1 h⟩
          · rw [decide_eq_false (fun z => e1 (one_inj (V.str.inj z)))]
            refine iteT ⟨_, rfl, t, _, (1 : Nat), _, rfl, rfl, g3, i1, _, rfl, _, rfl, t, _, (0 : Nat), _, rfl, rfl, g3, i0, b, sb, p.1, rfl, hB.same sJ, rfl, _, rfl, ?_⟩
            by_cases e2 : p.2 = sz sb p.1
            · rw [decide_eq_true (show V.int p.2 = V.int ((look sb p.1).getD 0) from congrArg V.int e2)]
              exact iteF ⟨_, rfl, rfl, next fun _ => e2⟩
            · rw [decide_eq_false (show ¬ V.int p.2 = V.int ((look sb p.1).getD 0) from fun h => e2 (V.int.inj h))]
              refine iteT ((q _ sJ).1 ?_)
              dsimp only [newAx]
              rw [if_neg]
              rintro ⟨_, hj⟩
              unfold joinBad at hj
              rw [List.any_eq_false] at hj
              refine hj p (List.mem_of_getElem? g2) ?_
              rw [Bool.and_eq_true]
              exact ⟨decide_eq_true e1, decide_eq_true e2⟩
        · rintro σ H' ⟨v7, rfl, rfl, hno⟩
          have hjb : joinBad sa sb l = false := by
            unfold joinBad
            rw [List.any_eq_false]
            intro p hp h
            rw [Bool.and_eq_true] at h
            obtain ⟨j, hj⟩ := List.mem_iff_getElem?.mp hp
            have hlt : j < (ts.map V.ref).length := by rw [List.length_map, hx.1]; exact (List.getElem?_eq_some_iff.mp hj).1
            exact of_decide_eq_true h.2 (hno j p hlt hj (of_decide_eq_true h.1))
          refine ⟨_, rfl, _, rfl, _, rfl, _, rfl, b, sb, l, rfl, hB.same sJ, _, _, rfl, rfl, two_line, fun t nt => ⟨by show 1 ≤ sizeLine; decide, fun p np => ?_⟩⟩
          have s2 := (sJ.trans (same_upd nt)).trans (same_upd (o := .lst [.ref t]) np)
          exact (q _ s2).2 [(l, n + sz sb l)] (by dsimp only [newAx]; rw [if_pos ⟨e, hjb⟩]) p [t] upd_same (axes1 (SqT.of (same_upd np _ _ upd_same)))
      · rw [decide_eq_false (fun h => e (lets_eq.mp (V.str.inj h)))]
        refine iteT ((q _ sJ).1 ?_)
        dsimp only [newAx]
        rw [if_neg (fun h => e h.1)]
    | window l m wd st =>
      refine ⟨_, rfl, pi, _, (0 : Nat), _, rfl, rfl, hi, i0, ?_⟩
      refine ⟨_, rfl, a, sa, rfl, hA, by omega, fun HN sn => ?_⟩
      refine ⟨_, rfl, fun HI1 si1 => ⟨_, rfl, iteFd (show decide (("window" : Str) ∈ (["sum", "peak"] : List Str)) = false by decide +kernel) ?_⟩⟩
      have st1 := sn.trans si1
      refine ⟨_, rfl, rfl, _, rfl, iteFd (show decide (V.str "window" = V.str "rename") = false by decide +kernel) ?_⟩
      refine ⟨_, rfl, rfl, _, rfl, iteFd (show decide (V.str "window" = V.str "cut") = false by decide +kernel) ?_⟩
      refine ⟨_, rfl, rfl, _, rfl, iteFd (show decide (V.str "window" = V.str "pad") = false by decide +kernel) ?_⟩
      refine ⟨_, rfl, rfl, _, rfl, iteFd (show decide (V.str "window" = V.str "join") = false by decide +kernel) ?_⟩
      refine ⟨_, rfl, rfl, _, rfl, iteTd (show decide (V.str "window" = V.str "window") = true by decide +kernel) ?_⟩
      have hi' := sqT_same hi st1
      have hq := q _ st1
      refine ⟨_, rfl, pi, _, (1 : Nat), _, rfl, rfl, hi', i1, _, rfl, m, lets sa, rfl, rfl, _, rfl, ?_⟩
      rw [show (lets sa).cps.toList = codes sa from rfl]
      have i3 : atI [V.str (one l), .str (one m), .int wd, .int st] ((3 : Nat) : Int) = some (.int st) := atI_nat rfl
      by_cases e : m ∈ codes sa
      · rw [decide_eq_true e]
        exact iteT (hq.1 (by dsimp only [newAx]; rw [if_pos (.inl e)]))
      · rw [decide_eq_false e]
        refine iteF ⟨_, rfl, pi, _, (2 : Nat), _, rfl, rfl, hi', i2, _, rfl, _, _, rfl, rfl, _, rfl, ite2 (fun e2 => ?_) (fun e2 => ?_)⟩
        · exact hq.1 (by dsimp only [newAx]; rw [if_pos (.inr (of_decide_eq_true e2))])
        · have hst : 1 ≤ st ∧ st ≤ 16 := hok
          refine ⟨_, rfl, _, rfl, _, rfl, pi, _, (2 : Nat), _, rfl, rfl, hi', i2, _, _, rfl, rfl, _, rfl, pi, _, (3 : Nat), _, rfl, rfl, hi', i3, _, _, rfl, rfl, ⟨by omega, by omega⟩, _, _, rfl, rfl, two_line, fun t nt => ?_⟩
          have hi2 := sqT_same hi' (same_upd (o := .tup [.str (one l), .int ((n - wd) / st + 1)]) nt)
          refine ⟨_, rfl, pi, _, (1 : Nat), _, rfl, rfl, hi2, i1, _, rfl, pi, _, (2 : Nat), _, rfl, rfl, hi2, i2, two_line, fun t' nt' => ⟨two_line, fun p np => ?_⟩⟩
          have sp := same_upd (o := .lst [.ref t, .ref t']) np
          have s2 := ((st1.trans (same_upd nt)).trans (same_upd nt')).trans sp
          refine (q _ s2).2 _ (by dsimp only [newAx]; rw [if_neg]; rintro (h | h); exact e h; exact e2 (decide_eq_true h)) p [t, t'] upd_same (axes2 (SqT.of (sp _ _ (same_upd nt' _ _ upd_same))) (SqT.of (sp _ _ upd_same)))
    | fold l m st zz =>
      refine ⟨_, rfl, pi, _, (0 : Nat), _, rfl, rfl, hi, i0, ?_⟩
      refine ⟨_, rfl, a, sa, rfl, hA, by omega, fun HN sn => ?_⟩
      refine ⟨_, rfl, fun HI1 si1 => ⟨_, rfl, iteFd (show decide (("fold" : Str) ∈ (["sum", "peak"] : List Str)) = false by decide +kernel) ?_⟩⟩
      have st1 := sn.trans si1
      refine ⟨_, rfl, rfl, _, rfl, iteFd (show decide (V.str "fold" = V.str "rename") = false by decide +kernel) ?_⟩
      refine ⟨_, rfl, rfl, _, rfl, iteFd (show decide (V.str "fold" = V.str "cut") = false by decide +kernel) ?_⟩
      refine ⟨_, rfl, rfl, _, rfl, iteFd (show decide (V.str "fold" = V.str "pad") = false by decide +kernel) ?_⟩
      refine ⟨_, rfl, rfl, _, rfl, iteFd (show decide (V.str "fold" = V.str "join") = false by decide +kernel) ?_⟩
      refine ⟨_, rfl, rfl, _, rfl, iteFd (show decide (V.str "fold" = V.str "window") = false by decide +kernel) ?_⟩
      refine ⟨_, rfl, rfl, _, rfl, iteTd (show decide (V.str "fold" = V.str "fold") = true by decide +kernel) ?_⟩
      have hi' := sqT_same hi st1
      have hq := q _ st1
      have hst : 1 ≤ st ∧ st ≤ 16 := hok
      have i3 : atI [V.str (one l), .str (one m), .int st, .int zz] ((3 : Nat) : Int) = some (.int zz) := atI_nat rfl
      refine ⟨_, rfl, _, rfl, pi, _, (1 : Nat), _, rfl, rfl, hi', i1, a, sa, m, rfl, hA.same st1, ?_⟩
      refine ⟨_, rfl, rfl, _, rfl, ?_⟩
      by_cases e1 : sz sa m = 0
      · rw [decide_eq_true (show V.int ((look sa m).getD 0) = V.int 0 from congrArg V.int e1)]
        exact iteT (hq.1 (by dsimp only [newAx]; rw [if_pos (.inl e1)]))
      rw [decide_eq_false (show ¬ V.int ((look sa m).getD 0) = V.int 0 from fun h => e1 (V.int.inj h))]
      refine iteF ⟨_, rfl, pi, _, (1 : Nat), _, rfl, rfl, hi', i1, _, rfl, rfl, _, rfl, ?_⟩
      by_cases e2 : m = l
      · rw [decide_eq_true (show V.str (one m) = V.str (one l) by rw [e2])]
        exact iteT (hq.1 (by dsimp only [newAx]; rw [if_pos (.inr (.inl e2))]))
      rw [decide_eq_false (fun x => e2 (one_inj (V.str.inj x)))]
      refine iteF ⟨_, rfl, pi, _, (2 : Nat), _, rfl, rfl, hi', i2, _, rfl, _, _, rfl, rfl, _, _, rfl, rfl, .inr ⟨by omega, by omega⟩, _, rfl, _, _, rfl, rfl, _, rfl, pi, _, (3 : Nat), _, rfl, rfl, hi', i3, _, _, rfl, rfl, _, rfl, ite2 (fun e3 => ?_) (fun e3 => ?_)⟩
      · exact hq.1 (by dsimp only [newAx]; rw [if_pos (.inr (.inr (of_decide_eq_true e3)))])
      · refine ⟨_, rfl, _, rfl, pi, _, (3 : Nat), _, rfl, rfl, hi', i3, two_line, fun t nt => ⟨by show 1 ≤ sizeLine; decide, fun p np => ?_⟩⟩
        have s2 := (st1.trans (same_upd nt)).trans (same_upd (o := .lst [.ref t]) np)
        refine (q _ s2).2 [(l, zz)] (by dsimp only [newAx]; rw [if_neg]; rintro (h | h | h); exact e1 h; exact e2 h; exact e3 (decide_eq_true h)) p [t] upd_same (axes1 (SqT.of (same_upd np _ _ upd_same)))
    | gather l =>
      refine ⟨_, rfl, pi, _, (0 : Nat), _, rfl, rfl, hi, i0, ?_⟩
      refine ⟨_, rfl, a, sa, rfl, hA, by omega, fun HN sn => ?_⟩
      refine ⟨_, rfl, fun HI1 si1 => ⟨_, rfl, iteFd (show decide (("gather" : Str) ∈ (["sum", "peak"] : List Str)) = false by decide +kernel) ?_⟩⟩
      have st1 := sn.trans si1
      refine ⟨_, rfl, rfl, _, rfl, iteFd (show decide (V.str "gather" = V.str "rename") = false by decide +kernel) ?_⟩
      refine ⟨_, rfl, rfl, _, rfl, iteFd (show decide (V.str "gather" = V.str "cut") = false by decide +kernel) ?_⟩
      refine ⟨_, rfl, rfl, _, rfl, iteFd (show decide (V.str "gather" = V.str "pad") = false by decide +kernel) ?_⟩
      refine ⟨_, rfl, rfl, _, rfl, iteFd (show decide (V.str "gather" = V.str "join") = false by decide +kernel) ?_⟩
      refine ⟨_, rfl, rfl, _, rfl, iteFd (show decide (V.str "gather" = V.str "window") = false by decide +kernel) ?_⟩
      refine ⟨_, rfl, rfl, _, rfl, iteFd (show decide (V.str "gather" = V.str "fold") = false by decide +kernel) ?_⟩
      obtain ⟨ts, hb, hx⟩ := hB.same st1
      refine ⟨_, rfl, b, rfl, ⟨_, hb⟩, for_tup (K := K) (a := b) (xs := ts.map V.ref) (fun i σ H' => ∃ (v7 : Option V), σ = [some (.str "gather"), some (.ref a), some (.ref b), some (.ref pi), some (.int n), some (.str (one l)), some (.str (lets sa)), v7, none] ∧ H' = HI1 ∧ ∀ j p, j < i → sb[j]? = some p → p.1 ∉ codes sa)
        ⟨none, rfl, rfl, fun j p h => absurd h (Nat.not_lt_zero _)⟩ (fun i σ H' _ ⟨_, _, e, _⟩ => by rw [e]; exact hb) ?_ ?_⟩
      · rintro i x σ H' hi6 ⟨v7, rfl, rfl, hno⟩
        obtain ⟨t, p, rfl, g1, g2, g3⟩ := hx.at hi6
        refine ⟨_, rfl, t, _, (0 : Nat), _, rfl, rfl, g3, i0, _, rfl, p.1, lets sa, rfl, rfl, _, rfl, ?_⟩
        rw [show (lets sa).cps.toList = codes sa from rfl]
        by_cases e : p.1 ∈ codes sa
        · rw [decide_eq_true e]
          exact iteT ((q _ st1).1 (by dsimp only [newAx]; rw [if_pos (any_take g2 e)]))
        · rw [decide_eq_false e]
          refine iteF ⟨_, rfl, rfl, fun j p' hj hp' => ?_⟩
          by_cases ej : j = i
          · subst ej
            rw [g2] at hp'
            cases hp'
            exact e
          · exact hno j p' (by omega) hp'
      · rintro σ H' ⟨v7, rfl, rfl, hno⟩
        have hany : anyIn sb sa = false := by
          unfold anyIn
          rw [List.any_eq_false]
          intro p hp hd
          obtain ⟨j, hj⟩ := List.mem_iff_getElem?.mp hp
          have hlt : j < (ts.map V.ref).length := by rw [List.length_map, hx.1]; exact (List.getElem?_eq_some_iff.mp hj).1
          exact hno j p hlt hj (of_decide_eq_true hd)
        refine ⟨_, rfl, b, _, rfl, .inr hb, fun p np => ?_⟩
        exact (q _ (st1.trans (same_upd np))).2 sb (by dsimp only [newAx]; rw [if_neg (by rw [hany]; exact Bool.false_ne_true)]) p ts upd_same (hx.same (same_upd np))
end

def Mv.ax : Mv → Nat
  | .sum l => l | .peak l => l | .order _ => 0 | .rename l _ => l | .spread l _ => l | .cut l _ _ => l | .pad l _ _ => l | .join l => l | .window l _ _ _ => l | .fold l _ _ _ => l | .gather l => l
def keepM : Mv → Nat → Bool
  | .fold _ m _ _, c => decide (c ≠ m)
  | _, _ => true
/-- the axes with the named one replaced (and, when folding, the second left out) -/
def replM (k : Mv) (fresh : Sh) (a : Sh) : Sh := a.flatMap fun p => if p.1 = k.ax then fresh else if keepM k p.1 = true then [p] else []
theorem replM_snoc (k : Mv) (fresh a : Sh) (p : Nat × Int) : replM k fresh (a ++ [p]) = replM k fresh a ++ if p.1 = k.ax then fresh else if keepM k p.1 = true then [p] else [] := by
  unfold replM
  rw [List.flatMap_append]
  show _ ++ ((if p.1 = k.ax then fresh else if keepM k p.1 = true then [p] else []) ++ []) = _
  rw [List.append_nil]
theorem replM_len (k : Mv) (fresh : Sh) : ∀ a : Sh, (replM k fresh a).length ≤ a.length * (fresh.length + 1)
  | [] => Nat.zero_le _
  | p :: sh => by
    have ih := replM_len k fresh sh
    have e : replM k fresh (p :: sh) = (if p.1 = k.ax then fresh else if keepM k p.1 = true then [p] else []) ++ replM k fresh sh := rfl
    rw [e, List.length_append, List.length_cons, Nat.succ_mul]
    split
    · omega
    · split
      · rw [List.length_singleton]
        omega
      · rw [List.length_nil]
        omega
def mvS : Mv → Sh → Sh → Option Sh
  | .order ls, a, _ => if ls.Perm (codes a) then some (ls.map (sized a)) else none
  | .spread l z, a, _ => if 0 < sz a l then none else some (a ++ [(l, z)])
  | k, a, b => if sz a k.ax = 0 then none else (newAx k a b (sz a k.ax)).map fun fresh => replM k fresh a
theorem newAx_len {k : Mv} {a b ax : Sh} {n : Int} (h : newAx k a b n = some ax) (hb : b.length ≤ 4) : ax.length ≤ 4 := by
  cases k <;> dsimp only [newAx] at h
  case sum => cases h; decide
  case peak => cases h; decide
  case order => cases h
  case rename => split at h <;> cases h; show 1 ≤ 4; decide
  case spread => cases h
  case cut => split at h <;> cases h; show 1 ≤ 4; decide
  case pad => cases h; show 1 ≤ 4; decide
  case join => split at h <;> cases h; show 1 ≤ 4; decide
  case window => split at h <;> cases h; show 2 ≤ 4; decide
  case fold => split at h <;> cases h; show 1 ≤ 4; decide
  case gather => split at h <;> cases h; exact hb
section
variable {P : Program} {w : World} {K : PySem.W.Frag} {mg : Str → Option Value} {base : Heap}
def ShQ (K : PySem.W.Frag) (r : Option Sh) (Q : VK) (H : Hp) : Prop := ∀ H', Same H H' → (r = none → Q .non H') ∧ ∀ sh, r = some sh → ∀ p, ShT K H' p sh → NoD K H' p → Q (.ref p) H'
abbrev nMS : List Str := ["kind", "a", "other", "info", "n", "fresh", "out", "axis", "letter"]
theorem scMS : FnScope nMS ["kind", "a", "other", "info"] (defScope s_law_moved_shape) := ⟨rfl, rfl, rfl, by decide +kernel, rfl, by decide +kernel, by decide +kernel⟩
def spMS (K : PySem.W.Frag) : Sp := fun vs H Q _ => ∃ (k : Mv) (a b pi : Addr) (sa sb : Sh), vs = [.str k.nm, .ref a, .ref b, .ref pi] ∧ ShT K H a sa ∧ NoD K H a ∧ ShT K H b sb ∧ SqT K H pi k.fs ∧ sa.length ≤ 4 ∧ sb.length ≤ 4 ∧ Fine sa ∧ Low sa ∧ MvOk k ∧ ShQ K (mvS k sa sb) Q H
theorem sz_le {sh : Sh} (h : Fine sh) (l : Nat) : 0 ≤ sz sh l ∧ sz sh l ≤ 16 := by
  unfold sz
  cases e : look sh l with
  | none => exact ⟨by decide, by decide⟩
  | some z =>
    have := h _ (look_mem e)
    exact ⟨by show 0 ≤ z; omega, this.2⟩
theorem ok_ms {f fNm fSz fNA : Addr} {fd fdNm fdSz fdNA : FuncData} (F : Fun K "_law_moved_shape" "_law_moved_shape" s_law_moved_shape f fd) (ms : mg "sorted" = none) (mt : mg "tuple" = none)
    (GNm : FnOk P w K mg base CX0 1 fNm fdNm ["shape"] (spLettersOf K)) (kNm : PySem.W.keepIn K (.ref fNm) = true) (bNm : Binds K fdNm ["shape"] []) (gNm : mg "_law_names" = some (.ref fNm))
    (GSz : FnOk P w K mg base CX0 1 fSz fdSz ["shape", "letter"] (spSizeT K)) (kSz : PySem.W.keepIn K (.ref fSz) = true) (bSz : Binds K fdSz ["shape", "letter"] []) (gSz : mg "_law_size" = some (.ref fSz))
    (GNA : FnOk P w K mg base CX0 2 fNA fdNA ["kind", "a", "other", "info", "n"] (spNA K)) (kNA : PySem.W.keepIn K (.ref fNA) = true) (bNA : Binds K fdNA ["kind", "a", "other", "info", "n"] []) (gNA : mg "_law_new_axes" = some (.ref fNA))
    : FnOk P w K mg base CX0 3 f fd ["kind", "a", "other", "info"] (spMS K) := by
  refine F.ok scMS (fun vs H Q E h => ?_) (fun cdv A outer s H vs Q E hr h => ?_)
  · obtain ⟨k, a, b, pi, sa, sb, rfl, _⟩ := h
    rfl
  · obtain ⟨k, a, b, pi, sa, sb, rfl, hA, hN, hB, hi, la, lb, hf, hw, hok, q⟩ := h
    have hr1 : Room 1 _ := hr.mono (by decide)
    refine ⟨_, (pss_cons (ps_if (pt_cmpR op_eq (pv 0) (pe_str) (nomark _)) (pss_cons (ps_if (pt_cmpR (op_neD hr.units) (pe_callB (cr_sortedTxt (by rfl)) (by rfl) ms (by decide +kernel) (pa_cons (pe_ix ix_tup (pv 3) pe_int (fun _ _ => rfl)) pa_nil)) (pe_callB (cr_sortedTxt (by rfl)) (by rfl) ms (by decide +kernel) (pa_cons (pe_call GNm hr1 (by rfl) gNm kNm bNm .nil pass0 (pa_cons (pv 1) pa_nil)) pa_nil)) (nomark _)) (pss_one (ps_ret (pe_non))) pss_nil)
      (pss_one (ps_ret (pe_callTy call_tuple_ofF (by rfl) mt (by decide +kernel) (pa_cons (pe_lc (own := [("letter", 8)]) (g := gName 8) (tt := tYes) (te := tTup (tCons (tVar 8) (tCons (tCall (spSizeT K) [] E0 (tCons (tVar 1) (tCons (tVar 8) tNil))) tNil))) rfl scMS.nd (pi_str (pe_ix ix_tup (pv 3) pe_int (fun _ _ => rfl))) (blkOk_by (N := nMS) (sc := defScope s_law_moved_shape) (by decide +kernel)) (fun _ _ _ _ _ => pg_name (i := 8) scMS.nd rfl (.inl rfl) (hf := Or.inr rfl)) (fun _ _ _ _ _ => pts_nil) (fun _ _ _ _ _ => pe_tup (pa_cons (pv 8) (pa_cons (pe_call GSz hr1 (by rfl) gSz kSz bSz .nil pass0 (pa_cons (pv 1) (pa_cons (pv 8) pa_nil))) pa_nil)))) pa_nil))))) pss_nil)
      (pss_cons (ps_set (i := 4) scMS.nd rfl (.inl rfl) (pe_call GSz hr1 (by rfl) gSz kSz bSz .nil pass0 (pa_cons (pv 1) (pa_cons (pe_ix ix_tup (pv 3) pe_int (fun _ _ => rfl)) pa_nil))))
      (pss_cons (ps_if (pt_cmpR op_eq (pv 0) (pe_str) (nomark _)) (pss_one (ps_ret (pe_ifExp (pt_cmpR op_gt (pv 4) (pe_int) (nomark _)) (pe_non) (pe_op op_catF (pv 1) (pe_tupF (pa_cons (pe_tup (pa_cons (pe_ix ix_tup (pv 3) pe_int (fun _ _ => rfl)) (pa_cons (pe_ix ix_tup (pv 3) pe_int (fun _ _ => rfl)) pa_nil))) pa_nil)))))) pss_nil)
      (Evl.pss_cut (ps_set (i := 5) scMS.nd rfl (.inl rfl) (pe_ifExp (pt_cmpR op_eq (pv 4) (pe_int) (nomark _)) (pe_non) (pe_call GNA hr (by rfl) gNA kNA bNA .nil pass0 (pa_cons (pv 0) (pa_cons (pv 1) (pa_cons (pv 2) (pa_cons (pv 3) (pa_cons (pv 4) pa_nil))))))))
      (pss_cons (ps_if (pt_cmpR op_isN (pv 5) (pe_non) (nomark _)) (pss_one (ps_ret (pe_non))) pss_nil)
      (pss_cons (ps_set (i := 6) scMS.nd rfl (.inl rfl) (pe_lst pa_nil))
      (pss_cons (ps_for PassesOwn.never rfl (pi_tup (pv 1)) (pg_name (i := 7) scMS.nd rfl (.inl rfl)) (pss_one (ps_if (pt_cmpR op_eq (pe_ix ix_tup (pv 7) pe_int (fun _ _ => rfl)) (pe_ix ix_tup (pv 3) pe_int (fun _ _ => rfl)) (nomark _)) (pss_one (ps_set (i := 6) scMS.nd rfl (.inl rfl) (pe_op op_cat (pv 6) (pv 5)))) (pss_one (ps_if (PW.pt (pw_or (pt_cmpR op_ne (pv 0) (pe_str) (nomark _)) (pw_or1 (pt_cmpR op_ne (pe_ix ix_tup (pv 7) pe_int (fun _ _ => rfl)) (pe_ix ix_tup (pv 3) pe_int (fun _ _ => rfl)) (nomark _))))) (pss_one (ps_expr (pe_bm PySem.F.plainAttrs_list PySem.F.slot_list_append PySem.F.type_list_append mt_append (pv 6) (pa_cons (pv 7) pa_nil)))) pss_nil)))))
      (pss_one (ps_ret (pe_callTy call_tuple_ofF (by rfl) mt (by decide +kernel) (pa_cons (pv 6) pa_nil))))))))))), ?_⟩
    cases k with
    | sum l =>
      refine ⟨_, rfl, rfl, _, rfl, iteFd (show decide (V.str "sum" = V.str "order") = false by decide +kernel) ?_⟩
      have hz := sz_le hf l
      refine ⟨_, rfl, _, rfl, pi, _, (0 : Nat), _, rfl, rfl, hi, i0, a, sa, l, rfl, hA, ?_⟩
      have hmv : mvS (.sum l) sa sb = if sz sa l = 0 then none else (newAx (.sum l) sa sb (sz sa l)).map fun fresh => replM (.sum l) fresh sa := rfl
      rw [hmv] at q
      refine ⟨_, rfl, rfl, _, rfl, iteFd (show decide (V.str "sum" = V.str "spread") = false by decide +kernel) ?_⟩
      refine ⟨fun σ' H' => ∃ v : V, σ' = [some (.str "sum"), some (.ref a), some (.ref b), some (.ref pi), some (.int (sz sa l)), some v, none, none, none] ∧ Same H H' ∧
        ((v = .non ∧ (sz sa l = 0 ∨ newAx (.sum l) sa sb (sz sa l) = none)) ∨ ∃ (pf : Addr) (fus : List Addr) (fresh : Sh), v = .ref pf ∧ sz sa l ≠ 0 ∧ newAx (.sum l) sa sb (sz sa l) = some fresh ∧ H' pf = some (.lst (fus.map V.ref)) ∧ Axes K H' fus fresh), ?_, ?_⟩
      · refine ⟨_, rfl, rfl, _, rfl, ?_⟩
        by_cases e0 : sz sa l = 0
        · rw [decide_eq_true (show V.int ((look sa l).getD 0) = V.int 0 from congrArg V.int e0)]
          exact iteT ⟨.non, rfl, Same.refl _, .inl ⟨rfl, .inl e0⟩⟩
        · rw [decide_eq_false (show ¬ V.int ((look sa l).getD 0) = V.int 0 from fun h => e0 (V.int.inj h))]
          refine iteF ⟨_, rfl, _, rfl, _, rfl, _, rfl, _, rfl, .sum l, a, b, pi, sa, sb, sz sa l, rfl, trivial, hA, hB, hi, la, lb, hok, by omega, by omega, fun H' s' => ⟨fun e => ⟨.non, rfl, s', .inl ⟨rfl, .inr e⟩⟩, fun ax e p us hp hx => ⟨.ref p, rfl, s', .inr ⟨p, us, ax, rfl, e0, e, hp, hx⟩⟩⟩⟩
      rintro σ' H1 ⟨v, rfl, s1, hv⟩
      rcases hv with ⟨rfl, he⟩ | ⟨pf, fus, fresh, rfl, hz0, hnew, hpf, hfx⟩
      · refine ⟨_, rfl, rfl, _, rfl, iteTd rfl ((q _ s1).1 ?_)⟩
        rcases he with he | he
        · rw [if_pos he]
        · rw [he]
          split <;> rfl
      refine ⟨_, rfl, rfl, _, rfl, iteFd (decide_eq_false (fun h => nomatch h)) ?_⟩
      rw [if_neg hz0, hnew] at q
      have hfl := newAx_len hnew lb
      obtain ⟨ts, ha, hx⟩ := hA.same s1
      have hi1 := sqT_same hi s1
      refine ⟨Nat.zero_le _, fun po npo => ?_⟩
      have hlen : (ts.map V.ref).length = sa.length := by rw [List.length_map, hx.1]
      refine ⟨_, rfl, a, rfl, ⟨_, sqT_same ha (same_upd npo)⟩, for_tup (K := K) (a := a) (xs := ts.map V.ref) (fun i σ H' => ∃ (po : Addr) (us : List Addr) (v7 : Option V), σ = [some (.str "sum"), some (.ref a), some (.ref b), some (.ref pi), some (.int (sz sa l)), some (.ref pf), some (.ref po), v7, none] ∧
          Same H1 H' ∧ H1 po = none ∧ H' po = some (.lst (us.map V.ref)) ∧ Axes K H' us (replM (.sum l) fresh (sa.take i)))
        ⟨po, [], none, rfl, same_upd npo, npo, upd_same, Axes.nil⟩ (fun i σ H' _ ⟨_, _, _, _, e, _⟩ => sqT_same ha e) ?_ ?_⟩
      · rintro i x σ H' hi6 ⟨po, us, v7, rfl, sm, hpo, hpo2, hus⟩
        obtain ⟨t, p, rfl, g1, g2, g3⟩ := (hx.same sm).at hi6
        have e1 := replM_snoc (.sum l) fresh (sa.take i) p
        rw [← take_snoc g2] at e1
        have hul : us.length ≤ 20 := by
          rw [hus.1]
          refine Nat.le_trans (replM_len _ fresh _) (Nat.le_trans (Nat.mul_le_mul (show (sa.take i).length ≤ 4 by rw [List.length_take]; omega) (show fresh.length + 1 ≤ 5 by omega)) (by decide))
        have hii := sqT_same hi1 sm
        have hne : ∀ x : Addr, H1 x ≠ none → x ≠ po := fun x h e => h (by rw [e]; exact hpo)
        have hsm : ∀ o, Same H1 (upd H' po o) := fun o x u e => by
          rw [upd_ne (hne x (by rw [e]; exact fun z => nomatch z))]
          exact sm _ _ e
        refine ⟨_, rfl, t, _, (0 : Nat), _, rfl, rfl, g3, i0, _, rfl, pi, _, (0 : Nat), _, rfl, rfl, hii, i0, rfl, _, rfl, ?_⟩
        by_cases el : p.1 = l
        · rw [decide_eq_true (show V.str (one p.1) = V.str (one l) by rw [el])]
          refine iteT ⟨_, rfl, _, rfl, po, pf, _, _, rfl, rfl, hpo2, sm _ _ hpf, ?_, fun pn npn => ?_⟩
          · rw [List.length_map, List.length_map, hfx.1]
            exact fit (by omega)
          · have sn := same_upd (o := .lst (us.map V.ref ++ fus.map V.ref)) npn
            refine ⟨pn, us ++ fus, _, rfl, sm.trans sn, Same.free sm npn, by rw [upd_same, List.map_append], ?_⟩
            rw [e1, if_pos (show p.1 = Mv.ax (.sum l) from el)]
            exact (hus.same sn).append ((hfx.same sm).same sn)
        · rw [decide_eq_false (fun z => el (one_inj (V.str.inj z)))]
          refine iteF ?_
          refine ⟨_, rfl, rfl, _, rfl, iteTd (show (!decide (V.str "sum" = V.str "fold")) = true by decide +kernel) ?_⟩
          refine ⟨_, rfl, .inl ⟨rfl, _, SqL.of hpo2⟩, _, rfl, po, _, _, rfl, rfl, hpo2, ?_, po, us ++ [t], _, rfl, hsm _, hpo, ?_, ?_⟩
          · rw [List.length_map]
            exact small1000 (by omega)
          · rw [upd_same, List.map_append]
            rfl
          · rw [e1, if_neg (show ¬ p.1 = Mv.ax (.sum l) from el), if_pos (show keepM (.sum l) p.1 = true from rfl)]
            exact (hus.snoc g3).keep (nl_upd hpo2)
      · rintro σ H' ⟨po, us, v7, rfl, sm, hpo, hpo2, hus⟩
        rw [hlen, List.take_length] at hus
        refine ⟨_, rfl, po, _, rfl, SqL.of hpo2, fun pl o npl ho => ?_⟩
        have sl := same_upd (o := .frz o (.tup (us.map V.ref))) npl
        exact (q _ ((s1.trans sm).trans sl)).2 _ rfl pl ⟨us, .inl (.inr ⟨o, upd_same⟩), hus.same sl⟩ ⟨o, ho, .inl ⟨_, upd_same⟩⟩
    | peak l =>
      refine ⟨_, rfl, rfl, _, rfl, iteFd (show decide (V.str "peak" = V.str "order") = false by decide +kernel) ?_⟩
      have hz := sz_le hf l
      refine ⟨_, rfl, _, rfl, pi, _, (0 : Nat), _, rfl, rfl, hi, i0, a, sa, l, rfl, hA, ?_⟩
      have hmv : mvS (.peak l) sa sb = if sz sa l = 0 then none else (newAx (.peak l) sa sb (sz sa l)).map fun fresh => replM (.peak l) fresh sa := rfl
      rw [hmv] at q
      refine ⟨_, rfl, rfl, _, rfl, iteFd (show decide (V.str "peak" = V.str "spread") = false by decide +kernel) ?_⟩
      refine ⟨fun σ' H' => ∃ v : V, σ' = [some (.str "peak"), some (.ref a), some (.ref b), some (.ref pi), some (.int (sz sa l)), some v, none, none, none] ∧ Same H H' ∧
        ((v = .non ∧ (sz sa l = 0 ∨ newAx (.peak l) sa sb (sz sa l) = none)) ∨ ∃ (pf : Addr) (fus : List Addr) (fresh : Sh), v = .ref pf ∧ sz sa l ≠ 0 ∧ newAx (.peak l) sa sb (sz sa l) = some fresh ∧ H' pf = some (.lst (fus.map V.ref)) ∧ Axes K H' fus fresh), ?_, ?_⟩
      · refine ⟨_, rfl, rfl, _, rfl, ?_⟩
        by_cases e0 : sz sa l = 0
        · rw [decide_eq_true (show V.int ((look sa l).getD 0) = V.int 0 from congrArg V.int e0)]
          exact iteT ⟨.non, rfl, Same.refl _, .inl ⟨rfl, .inl e0⟩⟩
        · rw [decide_eq_false (show ¬ V.int ((look sa l).getD 0) = V.int 0 from fun h => e0 (V.int.inj h))]
          refine iteF ⟨_, rfl, _, rfl, _, rfl, _, rfl, _, rfl, .peak l, a, b, pi, sa, sb, sz sa l, rfl, trivial, hA, hB, hi, la, lb, hok, by omega, by omega, fun H' s' => ⟨fun e => ⟨.non, rfl, s', .inl ⟨rfl, .inr e⟩⟩, fun ax e p us hp hx => ⟨.ref p, rfl, s', .inr ⟨p, us, ax, rfl, e0, e, hp, hx⟩⟩⟩⟩
      rintro σ' H1 ⟨v, rfl, s1, hv⟩
      rcases hv with ⟨rfl, he⟩ | ⟨pf, fus, fresh, rfl, hz0, hnew, hpf, hfx⟩
      · refine ⟨_, rfl, rfl, _, rfl, iteTd rfl ((q _ s1).1 ?_)⟩
        rcases he with he | he
        · rw [if_pos he]
        · rw [he]
          split <;> rfl
      refine ⟨_, rfl, rfl, _, rfl, iteFd (decide_eq_false (fun h => nomatch h)) ?_⟩
      rw [if_neg hz0, hnew] at q
      have hfl := newAx_len hnew lb
      obtain ⟨ts, ha, hx⟩ := hA.same s1
      have hi1 := sqT_same hi s1
      refine ⟨Nat.zero_le _, fun po npo => ?_⟩
      have hlen : (ts.map V.ref).length = sa.length := by rw [List.length_map, hx.1]
      refine ⟨_, rfl, a, rfl, ⟨_, sqT_same ha (same_upd npo)⟩, for_tup (K := K) (a := a) (xs := ts.map V.ref) (fun i σ H' => ∃ (po : Addr) (us : List Addr) (v7 : Option V), σ = [some (.str "peak"), some (.ref a), some (.ref b), some (.ref pi), some (.int (sz sa l)), some (.ref pf), some (.ref po), v7, none] ∧
          Same H1 H' ∧ H1 po = none ∧ H' po = some (.lst (us.map V.ref)) ∧ Axes K H' us (replM (.peak l) fresh (sa.take i)))
        ⟨po, [], none, rfl, same_upd npo, npo, upd_same, Axes.nil⟩ (fun i σ H' _ ⟨_, _, _, _, e, _⟩ => sqT_same ha e) ?_ ?_⟩
      · rintro i x σ H' hi6 ⟨po, us, v7, rfl, sm, hpo, hpo2, hus⟩
        obtain ⟨t, p, rfl, g1, g2, g3⟩ := (hx.same sm).at hi6
        have e1 := replM_snoc (.peak l) fresh (sa.take i) p
        rw [← take_snoc g2] at e1
        have hul : us.length ≤ 20 := by
          rw [hus.1]
          refine Nat.le_trans (replM_len _ fresh _) (Nat.le_trans (Nat.mul_le_mul (show (sa.take i).length ≤ 4 by rw [List.length_take]; omega) (show fresh.length + 1 ≤ 5 by omega)) (by decide))
        have hii := sqT_same hi1 sm
        have hne : ∀ x : Addr, H1 x ≠ none → x ≠ po := fun x h e => h (by rw [e]; exact hpo)
        have hsm : ∀ o, Same H1 (upd H' po o) := fun o x u e => by
          rw [upd_ne (hne x (by rw [e]; exact fun z => nomatch z))]
          exact sm _ _ e
        refine ⟨_, rfl, t, _, (0 : Nat), _, rfl, rfl, g3, i0, _, rfl, pi, _, (0 : Nat), _, rfl, rfl, hii, i0, rfl, _, rfl, ?_⟩
        by_cases el : p.1 = l
        · rw [decide_eq_true (show V.str (one p.1) = V.str (one l) by rw [el])]
          refine iteT ⟨_, rfl, _, rfl, po, pf, _, _, rfl, rfl, hpo2, sm _ _ hpf, ?_, fun pn npn => ?_⟩
          · rw [List.length_map, List.length_map, hfx.1]
            exact fit (by omega)
          · have sn := same_upd (o := .lst (us.map V.ref ++ fus.map V.ref)) npn
            refine ⟨pn, us ++ fus, _, rfl, sm.trans sn, Same.free sm npn, by rw [upd_same, List.map_append], ?_⟩
            rw [e1, if_pos (show p.1 = Mv.ax (.peak l) from el)]
            exact (hus.same sn).append ((hfx.same sm).same sn)
        · rw [decide_eq_false (fun z => el (one_inj (V.str.inj z)))]
          refine iteF ?_
          refine ⟨_, rfl, rfl, _, rfl, iteTd (show (!decide (V.str "peak" = V.str "fold")) = true by decide +kernel) ?_⟩
          refine ⟨_, rfl, .inl ⟨rfl, _, SqL.of hpo2⟩, _, rfl, po, _, _, rfl, rfl, hpo2, ?_, po, us ++ [t], _, rfl, hsm _, hpo, ?_, ?_⟩
          · rw [List.length_map]
            exact small1000 (by omega)
          · rw [upd_same, List.map_append]
            rfl
          · rw [e1, if_neg (show ¬ p.1 = Mv.ax (.peak l) from el), if_pos (show keepM (.peak l) p.1 = true from rfl)]
            exact (hus.snoc g3).keep (nl_upd hpo2)
      · rintro σ H' ⟨po, us, v7, rfl, sm, hpo, hpo2, hus⟩
        rw [hlen, List.take_length] at hus
        refine ⟨_, rfl, po, _, rfl, SqL.of hpo2, fun pl o npl ho => ?_⟩
        have sl := same_upd (o := .frz o (.tup (us.map V.ref))) npl
        exact (q _ ((s1.trans sm).trans sl)).2 _ rfl pl ⟨us, .inl (.inr ⟨o, upd_same⟩), hus.same sl⟩ ⟨o, ho, .inl ⟨_, upd_same⟩⟩
    | rename l m =>
      refine ⟨_, rfl, rfl, _, rfl, iteFd (show decide (V.str "rename" = V.str "order") = false by decide +kernel) ?_⟩
      have hz := sz_le hf l
      refine ⟨_, rfl, _, rfl, pi, _, (0 : Nat), _, rfl, rfl, hi, i0, a, sa, l, rfl, hA, ?_⟩
      have hmv : mvS (.rename l m) sa sb = if sz sa l = 0 then none else (newAx (.rename l m) sa sb (sz sa l)).map fun fresh => replM (.rename l m) fresh sa := rfl
      rw [hmv] at q
      refine ⟨_, rfl, rfl, _, rfl, iteFd (show decide (V.str "rename" = V.str "spread") = false by decide +kernel) ?_⟩
      refine ⟨fun σ' H' => ∃ v : V, σ' = [some (.str "rename"), some (.ref a), some (.ref b), some (.ref pi), some (.int (sz sa l)), some v, none, none, none] ∧ Same H H' ∧
        ((v = .non ∧ (sz sa l = 0 ∨ newAx (.rename l m) sa sb (sz sa l) = none)) ∨ ∃ (pf : Addr) (fus : List Addr) (fresh : Sh), v = .ref pf ∧ sz sa l ≠ 0 ∧ newAx (.rename l m) sa sb (sz sa l) = some fresh ∧ H' pf = some (.lst (fus.map V.ref)) ∧ Axes K H' fus fresh), ?_, ?_⟩
      · refine ⟨_, rfl, rfl, _, rfl, ?_⟩
        by_cases e0 : sz sa l = 0
        · rw [decide_eq_true (show V.int ((look sa l).getD 0) = V.int 0 from congrArg V.int e0)]
          exact iteT ⟨.non, rfl, Same.refl _, .inl ⟨rfl, .inl e0⟩⟩
        · rw [decide_eq_false (show ¬ V.int ((look sa l).getD 0) = V.int 0 from fun h => e0 (V.int.inj h))]
          refine iteF ⟨_, rfl, _, rfl, _, rfl, _, rfl, _, rfl, .rename l m, a, b, pi, sa, sb, sz sa l, rfl, trivial, hA, hB, hi, la, lb, hok, by omega, by omega, fun H' s' => ⟨fun e => ⟨.non, rfl, s', .inl ⟨rfl, .inr e⟩⟩, fun ax e p us hp hx => ⟨.ref p, rfl, s', .inr ⟨p, us, ax, rfl, e0, e, hp, hx⟩⟩⟩⟩
      rintro σ' H1 ⟨v, rfl, s1, hv⟩
      rcases hv with ⟨rfl, he⟩ | ⟨pf, fus, fresh, rfl, hz0, hnew, hpf, hfx⟩
      · refine ⟨_, rfl, rfl, _, rfl, iteTd rfl ((q _ s1).1 ?_)⟩
        rcases he with he | he
        · rw [if_pos he]
        · rw [he]
          split <;> rfl
      refine ⟨_, rfl, rfl, _, rfl, iteFd (decide_eq_false (fun h => nomatch h)) ?_⟩
      rw [if_neg hz0, hnew] at q
      have hfl := newAx_len hnew lb
      obtain ⟨ts, ha, hx⟩ := hA.same s1
      have hi1 := sqT_same hi s1
      refine ⟨Nat.zero_le _, fun po npo => ?_⟩
      have hlen : (ts.map V.ref).length = sa.length := by rw [List.length_map, hx.1]
      refine ⟨_, rfl, a, rfl, ⟨_, sqT_same ha (same_upd npo)⟩, for_tup (K := K) (a := a) (xs := ts.map V.ref) (fun i σ H' => ∃ (po : Addr) (us : List Addr) (v7 : Option V), σ = [some (.str "rename"), some (.ref a), some (.ref b), some (.ref pi), some (.int (sz sa l)), some (.ref pf), some (.ref po), v7, none] ∧
          Same H1 H' ∧ H1 po = none ∧ H' po = some (.lst (us.map V.ref)) ∧ Axes K H' us (replM (.rename l m) fresh (sa.take i)))
        ⟨po, [], none, rfl, same_upd npo, npo, upd_same, Axes.nil⟩ (fun i σ H' _ ⟨_, _, _, _, e, _⟩ => sqT_same ha e) ?_ ?_⟩
      · rintro i x σ H' hi6 ⟨po, us, v7, rfl, sm, hpo, hpo2, hus⟩
        obtain ⟨t, p, rfl, g1, g2, g3⟩ := (hx.same sm).at hi6
        have e1 := replM_snoc (.rename l m) fresh (sa.take i) p
        rw [← take_snoc g2] at e1
        have hul : us.length ≤ 20 := by
          rw [hus.1]
          refine Nat.le_trans (replM_len _ fresh _) (Nat.le_trans (Nat.mul_le_mul (show (sa.take i).length ≤ 4 by rw [List.length_take]; omega) (show fresh.length + 1 ≤ 5 by omega)) (by decide))
        have hii := sqT_same hi1 sm
        have hne : ∀ x : Addr, H1 x ≠ none → x ≠ po := fun x h e => h (by rw [e]; exact hpo)
        have hsm : ∀ o, Same H1 (upd H' po o) := fun o x u e => by
          rw [upd_ne (hne x (by rw [e]; exact fun z => nomatch z))]
          exact sm _ _ e
        refine ⟨_, rfl, t, _, (0 : Nat), _, rfl, rfl, g3, i0, _, rfl, pi, _, (0 : Nat), _, rfl, rfl, hii, i0, rfl, _, rfl, ?_⟩
        by_cases el : p.1 = l
        · rw [decide_eq_true (show V.str (one p.1) = V.str (one l) by rw [el])]
          refine iteT ⟨_, rfl, _, rfl, po, pf, _, _, rfl, rfl, hpo2, sm _ _ hpf, ?_, fun pn npn => ?_⟩
          · rw [List.length_map, List.length_map, hfx.1]
            exact fit (by omega)
          · have sn := same_upd (o := .lst (us.map V.ref ++ fus.map V.ref)) npn
            refine ⟨pn, us ++ fus, _, rfl, sm.trans sn, Same.free sm npn, by rw [upd_same, List.map_append], ?_⟩
            rw [e1, if_pos (show p.1 = Mv.ax (.rename l m) from el)]
            exact (hus.same sn).append ((hfx.same sm).same sn)
        · rw [decide_eq_false (fun z => el (one_inj (V.str.inj z)))]
          refine iteF ?_
          refine ⟨_, rfl, rfl, _, rfl, iteTd (show (!decide (V.str "rename" = V.str "fold")) = true by decide +kernel) ?_⟩
          refine ⟨_, rfl, .inl ⟨rfl, _, SqL.of hpo2⟩, _, rfl, po, _, _, rfl, rfl, hpo2, ?_, po, us ++ [t], _, rfl, hsm _, hpo, ?_, ?_⟩
          · rw [List.length_map]
            exact small1000 (by omega)
          · rw [upd_same, List.map_append]
            rfl
          · rw [e1, if_neg (show ¬ p.1 = Mv.ax (.rename l m) from el), if_pos (show keepM (.rename l m) p.1 = true from rfl)]
            exact (hus.snoc g3).keep (nl_upd hpo2)
      · rintro σ H' ⟨po, us, v7, rfl, sm, hpo, hpo2, hus⟩
        rw [hlen, List.take_length] at hus
        refine ⟨_, rfl, po, _, rfl, SqL.of hpo2, fun pl o npl ho => ?_⟩
        have sl := same_upd (o := .frz o (.tup (us.map V.ref))) npl
        exact (q _ ((s1.trans sm).trans sl)).2 _ rfl pl ⟨us, .inl (.inr ⟨o, upd_same⟩), hus.same sl⟩ ⟨o, ho, .inl ⟨_, upd_same⟩⟩
    | cut l st ct =>
      refine ⟨_, rfl, rfl, _, rfl, iteFd (show decide (V.str "cut" = V.str "order") = false by decide +kernel) ?_⟩
      have hz := sz_le hf l
      refine ⟨_, rfl, _, rfl, pi, _, (0 : Nat), _, rfl, rfl, hi, i0, a, sa, l, rfl, hA, ?_⟩
      have hmv : mvS (.cut l st ct) sa sb = if sz sa l = 0 then none else (newAx (.cut l st ct) sa sb (sz sa l)).map fun fresh => replM (.cut l st ct) fresh sa := rfl
      rw [hmv] at q
      refine ⟨_, rfl, rfl, _, rfl, iteFd (show decide (V.str "cut" = V.str "spread") = false by decide +kernel) ?_⟩
      refine ⟨fun σ' H' => ∃ v : V, σ' = [some (.str "cut"), some (.ref a), some (.ref b), some (.ref pi), some (.int (sz sa l)), some v, none, none, none] ∧ Same H H' ∧
        ((v = .non ∧ (sz sa l = 0 ∨ newAx (.cut l st ct) sa sb (sz sa l) = none)) ∨ ∃ (pf : Addr) (fus : List Addr) (fresh : Sh), v = .ref pf ∧ sz sa l ≠ 0 ∧ newAx (.cut l st ct) sa sb (sz sa l) = some fresh ∧ H' pf = some (.lst (fus.map V.ref)) ∧ Axes K H' fus fresh), ?_, ?_⟩
      · refine ⟨_, rfl, rfl, _, rfl, ?_⟩
        by_cases e0 : sz sa l = 0
        · rw [decide_eq_true (show V.int ((look sa l).getD 0) = V.int 0 from congrArg V.int e0)]
          exact iteT ⟨.non, rfl, Same.refl _, .inl ⟨rfl, .inl e0⟩⟩
        · rw [decide_eq_false (show ¬ V.int ((look sa l).getD 0) = V.int 0 from fun h => e0 (V.int.inj h))]
          refine iteF ⟨_, rfl, _, rfl, _, rfl, _, rfl, _, rfl, .cut l st ct, a, b, pi, sa, sb, sz sa l, rfl, trivial, hA, hB, hi, la, lb, hok, by omega, by omega, fun H' s' => ⟨fun e => ⟨.non, rfl, s', .inl ⟨rfl, .inr e⟩⟩, fun ax e p us hp hx => ⟨.ref p, rfl, s', .inr ⟨p, us, ax, rfl, e0, e, hp, hx⟩⟩⟩⟩
      rintro σ' H1 ⟨v, rfl, s1, hv⟩
      rcases hv with ⟨rfl, he⟩ | ⟨pf, fus, fresh, rfl, hz0, hnew, hpf, hfx⟩
      · refine ⟨_, rfl, rfl, _, rfl, iteTd rfl ((q _ s1).1 ?_)⟩
        rcases he with he | he
        · rw [if_pos he]
        · rw [he]
          split <;> rfl
      refine ⟨_, rfl, rfl, _, rfl, iteFd (decide_eq_false (fun h => nomatch h)) ?_⟩
      rw [if_neg hz0, hnew] at q
      have hfl := newAx_len hnew lb
      obtain ⟨ts, ha, hx⟩ := hA.same s1
      have hi1 := sqT_same hi s1
      refine ⟨Nat.zero_le _, fun po npo => ?_⟩
      have hlen : (ts.map V.ref).length = sa.length := by rw [List.length_map, hx.1]
      refine ⟨_, rfl, a, rfl, ⟨_, sqT_same ha (same_upd npo)⟩, for_tup (K := K) (a := a) (xs := ts.map V.ref) (fun i σ H' => ∃ (po : Addr) (us : List Addr) (v7 : Option V), σ = [some (.str "cut"), some (.ref a), some (.ref b), some (.ref pi), some (.int (sz sa l)), some (.ref pf), some (.ref po), v7, none] ∧
          Same H1 H' ∧ H1 po = none ∧ H' po = some (.lst (us.map V.ref)) ∧ Axes K H' us (replM (.cut l st ct) fresh (sa.take i)))
        ⟨po, [], none, rfl, same_upd npo, npo, upd_same, Axes.nil⟩ (fun i σ H' _ ⟨_, _, _, _, e, _⟩ => sqT_same ha e) ?_ ?_⟩
      · rintro i x σ H' hi6 ⟨po, us, v7, rfl, sm, hpo, hpo2, hus⟩
        obtain ⟨t, p, rfl, g1, g2, g3⟩ := (hx.same sm).at hi6
        have e1 := replM_snoc (.cut l st ct) fresh (sa.take i) p
        rw [← take_snoc g2] at e1
        have hul : us.length ≤ 20 := by
          rw [hus.1]
          refine Nat.le_trans (replM_len _ fresh _) (Nat.le_trans (Nat.mul_le_mul (show (sa.take i).length ≤ 4 by rw [List.length_take]; omega) (show fresh.length + 1 ≤ 5 by omega)) (by decide))
        have hii := sqT_same hi1 sm
        have hne : ∀ x : Addr, H1 x ≠ none → x ≠ po := fun x h e => h (by rw [e]; exact hpo)
        have hsm : ∀ o, Same H1 (upd H' po o) := fun o x u e => by
          rw [upd_ne (hne x (by rw [e]; exact fun z => nomatch z))]
          exact sm _ _ e
        refine ⟨_, rfl, t, _, (0 : Nat), _, rfl, rfl, g3, i0, _, rfl, pi, _, (0 : Nat), _, rfl, rfl, hii, i0, rfl, _, rfl, ?_⟩
        by_cases el : p.1 = l
        · rw [decide_eq_true (show V.str (one p.1) = V.str (one l) by rw [el])]
          refine iteT ⟨_, rfl, _, rfl, po, pf, _, _, rfl, rfl, hpo2, sm _ _ hpf, ?_, fun pn npn => ?_⟩
          · rw [List.length_map, List.length_map, hfx.1]
            exact fit (by omega)
          · have sn := same_upd (o := .lst (us.map V.ref ++ fus.map V.ref)) npn
            refine ⟨pn, us ++ fus, _, rfl, sm.trans sn, Same.free sm npn, by rw [upd_same, List.map_append], ?_⟩
            rw [e1, if_pos (show p.1 = Mv.ax (.cut l st ct) from el)]
            exact (hus.same sn).append ((hfx.same sm).same sn)
        · rw [decide_eq_false (fun z => el (one_inj (V.str.inj z)))]
          refine iteF ?_
          refine ⟨_, rfl, rfl, _, rfl, iteTd (show (!decide (V.str "cut" = V.str "fold")) = true by decide +kernel) ?_⟩
          refine ⟨_, rfl, .inl ⟨rfl, _, SqL.of hpo2⟩, _, rfl, po, _, _, rfl, rfl, hpo2, ?_, po, us ++ [t], _, rfl, hsm _, hpo, ?_, ?_⟩
          · rw [List.length_map]
            exact small1000 (by omega)
          · rw [upd_same, List.map_append]
            rfl
          · rw [e1, if_neg (show ¬ p.1 = Mv.ax (.cut l st ct) from el), if_pos (show keepM (.cut l st ct) p.1 = true from rfl)]
            exact (hus.snoc g3).keep (nl_upd hpo2)
      · rintro σ H' ⟨po, us, v7, rfl, sm, hpo, hpo2, hus⟩
        rw [hlen, List.take_length] at hus
        refine ⟨_, rfl, po, _, rfl, SqL.of hpo2, fun pl o npl ho => ?_⟩
        have sl := same_upd (o := .frz o (.tup (us.map V.ref))) npl
        exact (q _ ((s1.trans sm).trans sl)).2 _ rfl pl ⟨us, .inl (.inr ⟨o, upd_same⟩), hus.same sl⟩ ⟨o, ho, .inl ⟨_, upd_same⟩⟩
    | pad l bb cc =>
      refine ⟨_, rfl, rfl, _, rfl, iteFd (show decide (V.str "pad" = V.str "order") = false by decide +kernel) ?_⟩
      have hz := sz_le hf l
      refine ⟨_, rfl, _, rfl, pi, _, (0 : Nat), _, rfl, rfl, hi, i0, a, sa, l, rfl, hA, ?_⟩
      have hmv : mvS (.pad l bb cc) sa sb = if sz sa l = 0 then none else (newAx (.pad l bb cc) sa sb (sz sa l)).map fun fresh => replM (.pad l bb cc) fresh sa := rfl
      rw [hmv] at q
      refine ⟨_, rfl, rfl, _, rfl, iteFd (show decide (V.str "pad" = V.str "spread") = false by decide +kernel) ?_⟩
      refine ⟨fun σ' H' => ∃ v : V, σ' = [some (.str "pad"), some (.ref a), some (.ref b), some (.ref pi), some (.int (sz sa l)), some v, none, none, none] ∧ Same H H' ∧
        ((v = .non ∧ (sz sa l = 0 ∨ newAx (.pad l bb cc) sa sb (sz sa l) = none)) ∨ ∃ (pf : Addr) (fus : List Addr) (fresh : Sh), v = .ref pf ∧ sz sa l ≠ 0 ∧ newAx (.pad l bb cc) sa sb (sz sa l) = some fresh ∧ H' pf = some (.lst (fus.map V.ref)) ∧ Axes K H' fus fresh), ?_, ?_⟩
      · refine ⟨_, rfl, rfl, _, rfl, ?_⟩
        by_cases e0 : sz sa l = 0
        · rw [decide_eq_true (show V.int ((look sa l).getD 0) = V.int 0 from congrArg V.int e0)]
          exact iteT ⟨.non, rfl, Same.refl _, .inl ⟨rfl, .inl e0⟩⟩
        · rw [decide_eq_false (show ¬ V.int ((look sa l).getD 0) = V.int 0 from fun h => e0 (V.int.inj h))]
          refine iteF ⟨_, rfl, _, rfl, _, rfl, _, rfl, _, rfl, .pad l bb cc, a, b, pi, sa, sb, sz sa l, rfl, trivial, hA, hB, hi, la, lb, hok, by omega, by omega, fun H' s' => ⟨fun e => ⟨.non, rfl, s', .inl ⟨rfl, .inr e⟩⟩, fun ax e p us hp hx => ⟨.ref p, rfl, s', .inr ⟨p, us, ax, rfl, e0, e, hp, hx⟩⟩⟩⟩
      rintro σ' H1 ⟨v, rfl, s1, hv⟩
      rcases hv with ⟨rfl, he⟩ | ⟨pf, fus, fresh, rfl, hz0, hnew, hpf, hfx⟩
      · refine ⟨_, rfl, rfl, _, rfl, iteTd rfl ((q _ s1).1 ?_)⟩
        rcases he with he | he
        · rw [if_pos he]
        · rw [he]
          split <;> rfl
      refine ⟨_, rfl, rfl, _, rfl, iteFd (decide_eq_false (fun h => nomatch h)) ?_⟩
      rw [if_neg hz0, hnew] at q
      have hfl := newAx_len hnew lb
      obtain ⟨ts, ha, hx⟩ := hA.same s1
      have hi1 := sqT_same hi s1
      refine ⟨Nat.zero_le _, fun po npo => ?_⟩
      have hlen : (ts.map V.ref).length = sa.length := by rw [List.length_map, hx.1]
      refine ⟨_, rfl, a, rfl, ⟨_, sqT_same ha (same_upd npo)⟩, for_tup (K := K) (a := a) (xs := ts.map V.ref) (fun i σ H' => ∃ (po : Addr) (us : List Addr) (v7 : Option V), σ = [some (.str "pad"), some (.ref a), some (.ref b), some (.ref pi), some (.int (sz sa l)), some (.ref pf), some (.ref po), v7, none] ∧
          Same H1 H' ∧ H1 po = none ∧ H' po = some (.lst (us.map V.ref)) ∧ Axes K H' us (replM (.pad l bb cc) fresh (sa.take i)))
        ⟨po, [], none, rfl, same_upd npo, npo, upd_same, Axes.nil⟩ (fun i σ H' _ ⟨_, _, _, _, e, _⟩ => sqT_same ha e) ?_ ?_⟩
      · rintro i x σ H' hi6 ⟨po, us, v7, rfl, sm, hpo, hpo2, hus⟩
        obtain ⟨t, p, rfl, g1, g2, g3⟩ := (hx.same sm).at hi6
        have e1 := replM_snoc (.pad l bb cc) fresh (sa.take i) p
        rw [← take_snoc g2] at e1
        have hul : us.length ≤ 20 := by
          rw [hus.1]
          refine Nat.le_trans (replM_len _ fresh _) (Nat.le_trans (Nat.mul_le_mul (show (sa.take i).length ≤ 4 by rw [List.length_take]; omega) (show fresh.length + 1 ≤ 5 by omega)) (by decide))
        have hii := sqT_same hi1 sm
        have hne : ∀ x : Addr, H1 x ≠ none → x ≠ po := fun x h e => h (by rw [e]; exact hpo)
        have hsm : ∀ o, Same H1 (upd H' po o) := fun o x u e => by
          rw [upd_ne (hne x (by rw [e]; exact fun z => nomatch z))]
          exact sm _ _ e
        refine ⟨_, rfl, t, _, (0 : Nat), _, rfl, rfl, g3, i0, _, rfl, pi, _, (0 : Nat), _, rfl, rfl, hii, i0, rfl, _, rfl, ?_⟩
        by_cases el : p.1 = l
        · rw [decide_eq_true (show V.str (one p.1) = V.str (one l) by rw [el])]
          refine iteT ⟨_, rfl, _, rfl, po, pf, _, _, rfl, rfl, hpo2, sm _ _ hpf, ?_, fun pn npn => ?_⟩
          · rw [List.length_map, List.length_map, hfx.1]
            exact fit (by omega)
          · have sn := same_upd (o := .lst (us.map V.ref ++ fus.map V.ref)) npn
            refine ⟨pn, us ++ fus, _, rfl, sm.trans sn, Same.free sm npn, by rw [upd_same, List.map_append], ?_⟩
            rw [e1, if_pos (show p.1 = Mv.ax (.pad l bb cc) from el)]
            exact (hus.same sn).append ((hfx.same sm).same sn)
        · rw [decide_eq_false (fun z => el (one_inj (V.str.inj z)))]
          refine iteF ?_
          refine ⟨_, rfl, rfl, _, rfl, iteTd (show (!decide (V.str "pad" = V.str "fold")) = true by decide +kernel) ?_⟩
          refine ⟨_, rfl, .inl ⟨rfl, _, SqL.of hpo2⟩, _, rfl, po, _, _, rfl, rfl, hpo2, ?_, po, us ++ [t], _, rfl, hsm _, hpo, ?_, ?_⟩
          · rw [List.length_map]
            exact small1000 (by omega)
          · rw [upd_same, List.map_append]
            rfl
          · rw [e1, if_neg (show ¬ p.1 = Mv.ax (.pad l bb cc) from el), if_pos (show keepM (.pad l bb cc) p.1 = true from rfl)]
            exact (hus.snoc g3).keep (nl_upd hpo2)
      · rintro σ H' ⟨po, us, v7, rfl, sm, hpo, hpo2, hus⟩
        rw [hlen, List.take_length] at hus
        refine ⟨_, rfl, po, _, rfl, SqL.of hpo2, fun pl o npl ho => ?_⟩
        have sl := same_upd (o := .frz o (.tup (us.map V.ref))) npl
        exact (q _ ((s1.trans sm).trans sl)).2 _ rfl pl ⟨us, .inl (.inr ⟨o, upd_same⟩), hus.same sl⟩ ⟨o, ho, .inl ⟨_, upd_same⟩⟩
    | join l =>
      refine ⟨_, rfl, rfl, _, rfl, iteFd (show decide (V.str "join" = V.str "order") = false by decide +kernel) ?_⟩
      have hz := sz_le hf l
      refine ⟨_, rfl, _, rfl, pi, _, (0 : Nat), _, rfl, rfl, hi, i0, a, sa, l, rfl, hA, ?_⟩
      have hmv : mvS (.join l) sa sb = if sz sa l = 0 then none else (newAx (.join l) sa sb (sz sa l)).map fun fresh => replM (.join l) fresh sa := rfl
      rw [hmv] at q
      refine ⟨_, rfl, rfl, _, rfl, iteFd (show decide (V.str "join" = V.str "spread") = false by decide +kernel) ?_⟩
      refine ⟨fun σ' H' => ∃ v : V, σ' = [some (.str "join"), some (.ref a), some (.ref b), some (.ref pi), some (.int (sz sa l)), some v, none, none, none] ∧ Same H H' ∧
        ((v = .non ∧ (sz sa l = 0 ∨ newAx (.join l) sa sb (sz sa l) = none)) ∨ ∃ (pf : Addr) (fus : List Addr) (fresh : Sh), v = .ref pf ∧ sz sa l ≠ 0 ∧ newAx (.join l) sa sb (sz sa l) = some fresh ∧ H' pf = some (.lst (fus.map V.ref)) ∧ Axes K H' fus fresh), ?_, ?_⟩
      · refine ⟨_, rfl, rfl, _, rfl, ?_⟩
        by_cases e0 : sz sa l = 0
        · rw [decide_eq_true (show V.int ((look sa l).getD 0) = V.int 0 from congrArg V.int e0)]
          exact iteT ⟨.non, rfl, Same.refl _, .inl ⟨rfl, .inl e0⟩⟩
        · rw [decide_eq_false (show ¬ V.int ((look sa l).getD 0) = V.int 0 from fun h => e0 (V.int.inj h))]
          refine iteF ⟨_, rfl, _, rfl, _, rfl, _, rfl, _, rfl, .join l, a, b, pi, sa, sb, sz sa l, rfl, trivial, hA, hB, hi, la, lb, hok, by omega, by omega, fun H' s' => ⟨fun e => ⟨.non, rfl, s', .inl ⟨rfl, .inr e⟩⟩, fun ax e p us hp hx => ⟨.ref p, rfl, s', .inr ⟨p, us, ax, rfl, e0, e, hp, hx⟩⟩⟩⟩
      rintro σ' H1 ⟨v, rfl, s1, hv⟩
      rcases hv with ⟨rfl, he⟩ | ⟨pf, fus, fresh, rfl, hz0, hnew, hpf, hfx⟩
      · refine ⟨_, rfl, rfl, _, rfl, iteTd rfl ((q _ s1).1 ?_)⟩
        rcases he with he | he
        · rw [if_pos he]
        · rw [he]
          split <;> rfl
      refine ⟨_, rfl, rfl, _, rfl, iteFd (decide_eq_false (fun h => nomatch h)) ?_⟩
      rw [if_neg hz0, hnew] at q
      have hfl := newAx_len hnew lb
      obtain ⟨ts, ha, hx⟩ := hA.same s1
      have hi1 := sqT_same hi s1
      refine ⟨Nat.zero_le _, fun po npo => ?_⟩
      have hlen : (ts.map V.ref).length = sa.length := by rw [List.length_map, hx.1]
      refine ⟨_, rfl, a, rfl, ⟨_, sqT_same ha (same_upd npo)⟩, for_tup (K := K) (a := a) (xs := ts.map V.ref) (fun i σ H' => ∃ (po : Addr) (us : List Addr) (v7 : Option V), σ = [some (.str "join"), some (.ref a), some (.ref b), some (.ref pi), some (.int (sz sa l)), some (.ref pf), some (.ref po), v7, none] ∧
          Same H1 H' ∧ H1 po = none ∧ H' po = some (.lst (us.map V.ref)) ∧ Axes K H' us (replM (.join l) fresh (sa.take i)))
        ⟨po, [], none, rfl, same_upd npo, npo, upd_same, Axes.nil⟩ (fun i σ H' _ ⟨_, _, _, _, e, _⟩ => sqT_same ha e) ?_ ?_⟩
      · rintro i x σ H' hi6 ⟨po, us, v7, rfl, sm, hpo, hpo2, hus⟩
        obtain ⟨t, p, rfl, g1, g2, g3⟩ := (hx.same sm).at hi6
        have e1 := replM_snoc (.join l) fresh (sa.take i) p
        rw [← take_snoc g2] at e1
        have hul : us.length ≤ 20 := by
          rw [hus.1]
          refine Nat.le_trans (replM_len _ fresh _) (Nat.le_trans (Nat.mul_le_mul (show (sa.take i).length ≤ 4 by rw [List.length_take]; omega) (show fresh.length + 1 ≤ 5 by omega)) (by decide))
        have hii := sqT_same hi1 sm
        have hne : ∀ x : Addr, H1 x ≠ none → x ≠ po := fun x h e => h (by rw [e]; exact hpo)
        have hsm : ∀ o, Same H1 (upd H' po o) := fun o x u e => by
          rw [upd_ne (hne x (by rw [e]; exact fun z => nomatch z))]
          exact sm _ _ e
        refine ⟨_, rfl, t, _, (0 : Nat), _, rfl, rfl, g3, i0, _, rfl, pi, _, (0 : Nat), _, rfl, rfl, hii, i0, rfl, _, rfl, ?_⟩
        by_cases el : p.1 = l
        · rw [decide_eq_true (show V.str (one p.1) = V.str (one l) by rw [el])]
          refine iteT ⟨_, rfl, _, rfl, po, pf, _, _, rfl, rfl, hpo2, sm _ _ hpf, ?_, fun pn npn => ?_⟩
          · rw [List.length_map, List.length_map, hfx.1]
            exact fit (by omega)
          · have sn := same_upd (o := .lst (us.map V.ref ++ fus.map V.ref)) npn
            refine ⟨pn, us ++ fus, _, rfl, sm.trans sn, Same.free sm npn, by rw [upd_same, List.map_append], ?_⟩
            rw [e1, if_pos (show p.1 = Mv.ax (.join l) from el)]
            exact (hus.same sn).append ((hfx.same sm).same sn)
        · rw [decide_eq_false (fun z => el (one_inj (V.str.inj z)))]
          refine iteF ?_
          refine ⟨_, rfl, rfl, _, rfl, iteTd (show (!decide (V.str "join" = V.str "fold")) = true by decide +kernel) ?_⟩
          refine ⟨_, rfl, .inl ⟨rfl, _, SqL.of hpo2⟩, _, rfl, po, _, _, rfl, rfl, hpo2, ?_, po, us ++ [t], _, rfl, hsm _, hpo, ?_, ?_⟩
          · rw [List.length_map]
            exact small1000 (by omega)
          · rw [upd_same, List.map_append]
            rfl
          · rw [e1, if_neg (show ¬ p.1 = Mv.ax (.join l) from el), if_pos (show keepM (.join l) p.1 = true from rfl)]
            exact (hus.snoc g3).keep (nl_upd hpo2)
      · rintro σ H' ⟨po, us, v7, rfl, sm, hpo, hpo2, hus⟩
        rw [hlen, List.take_length] at hus
        refine ⟨_, rfl, po, _, rfl, SqL.of hpo2, fun pl o npl ho => ?_⟩
        have sl := same_upd (o := .frz o (.tup (us.map V.ref))) npl
        exact (q _ ((s1.trans sm).trans sl)).2 _ rfl pl ⟨us, .inl (.inr ⟨o, upd_same⟩), hus.same sl⟩ ⟨o, ho, .inl ⟨_, upd_same⟩⟩
    | window l m wd st =>
      refine ⟨_, rfl, rfl, _, rfl, iteFd (show decide (V.str "window" = V.str "order") = false by decide +kernel) ?_⟩
      have hz := sz_le hf l
      refine ⟨_, rfl, _, rfl, pi, _, (0 : Nat), _, rfl, rfl, hi, i0, a, sa, l, rfl, hA, ?_⟩
      have hmv : mvS (.window l m wd st) sa sb = if sz sa l = 0 then none else (newAx (.window l m wd st) sa sb (sz sa l)).map fun fresh => replM (.window l m wd st) fresh sa := rfl
      rw [hmv] at q
      refine ⟨_, rfl, rfl, _, rfl, iteFd (show decide (V.str "window" = V.str "spread") = false by decide +kernel) ?_⟩
      refine ⟨fun σ' H' => ∃ v : V, σ' = [some (.str "window"), some (.ref a), some (.ref b), some (.ref pi), some (.int (sz sa l)), some v, none, none, none] ∧ Same H H' ∧
        ((v = .non ∧ (sz sa l = 0 ∨ newAx (.window l m wd st) sa sb (sz sa l) = none)) ∨ ∃ (pf : Addr) (fus : List Addr) (fresh : Sh), v = .ref pf ∧ sz sa l ≠ 0 ∧ newAx (.window l m wd st) sa sb (sz sa l) = some fresh ∧ H' pf = some (.lst (fus.map V.ref)) ∧ Axes K H' fus fresh), ?_, ?_⟩
      · refine ⟨_, rfl, rfl, _, rfl, ?_⟩
        by_cases e0 : sz sa l = 0
        · rw [decide_eq_true (show V.int ((look sa l).getD 0) = V.int 0 from congrArg V.int e0)]
          exact iteT ⟨.non, rfl, Same.refl _, .inl ⟨rfl, .inl e0⟩⟩
        · rw [decide_eq_false (show ¬ V.int ((look sa l).getD 0) = V.int 0 from fun h => e0 (V.int.inj h))]
          refine iteF ⟨_, rfl, _, rfl, _, rfl, _, rfl, _, rfl, .window l m wd st, a, b, pi, sa, sb, sz sa l, rfl, trivial, hA, hB, hi, la, lb, hok, by omega, by omega, fun H' s' => ⟨fun e => ⟨.non, rfl, s', .inl ⟨rfl, .inr e⟩⟩, fun ax e p us hp hx => ⟨.ref p, rfl, s', .inr ⟨p, us, ax, rfl, e0, e, hp, hx⟩⟩⟩⟩
      rintro σ' H1 ⟨v, rfl, s1, hv⟩
      rcases hv with ⟨rfl, he⟩ | ⟨pf, fus, fresh, rfl, hz0, hnew, hpf, hfx⟩
      · refine ⟨_, rfl, rfl, _, rfl, iteTd rfl ((q _ s1).1 ?_)⟩
        rcases he with he | he
        · rw [if_pos he]
        · rw [he]
          split <;> rfl
      refine ⟨_, rfl, rfl, _, rfl, iteFd (decide_eq_false (fun h => nomatch h)) ?_⟩
      rw [if_neg hz0, hnew] at q
      have hfl := newAx_len hnew lb
      obtain ⟨ts, ha, hx⟩ := hA.same s1
      have hi1 := sqT_same hi s1
      refine ⟨Nat.zero_le _, fun po npo => ?_⟩
      have hlen : (ts.map V.ref).length = sa.length := by rw [List.length_map, hx.1]
      refine ⟨_, rfl, a, rfl, ⟨_, sqT_same ha (same_upd npo)⟩, for_tup (K := K) (a := a) (xs := ts.map V.ref) (fun i σ H' => ∃ (po : Addr) (us : List Addr) (v7 : Option V), σ = [some (.str "window"), some (.ref a), some (.ref b), some (.ref pi), some (.int (sz sa l)), some (.ref pf), some (.ref po), v7, none] ∧
          Same H1 H' ∧ H1 po = none ∧ H' po = some (.lst (us.map V.ref)) ∧ Axes K H' us (replM (.window l m wd st) fresh (sa.take i)))
        ⟨po, [], none, rfl, same_upd npo, npo, upd_same, Axes.nil⟩ (fun i σ H' _ ⟨_, _, _, _, e, _⟩ => sqT_same ha e) ?_ ?_⟩
      · rintro i x σ H' hi6 ⟨po, us, v7, rfl, sm, hpo, hpo2, hus⟩
        obtain ⟨t, p, rfl, g1, g2, g3⟩ := (hx.same sm).at hi6
        have e1 := replM_snoc (.window l m wd st) fresh (sa.take i) p
        rw [← take_snoc g2] at e1
        have hul : us.length ≤ 20 := by
          rw [hus.1]
          refine Nat.le_trans (replM_len _ fresh _) (Nat.le_trans (Nat.mul_le_mul (show (sa.take i).length ≤ 4 by rw [List.length_take]; omega) (show fresh.length + 1 ≤ 5 by omega)) (by decide))
        have hii := sqT_same hi1 sm
        have hne : ∀ x : Addr, H1 x ≠ none → x ≠ po := fun x h e => h (by rw [e]; exact hpo)
        have hsm : ∀ o, Same H1 (upd H' po o) := fun o x u e => by
          rw [upd_ne (hne x (by rw [e]; exact fun z => nomatch z))]
          exact sm _ _ e
        refine ⟨_, rfl, t, _, (0 : Nat), _, rfl, rfl, g3, i0, _, rfl, pi, _, (0 : Nat), _, rfl, rfl, hii, i0, rfl, _, rfl, ?_⟩
        by_cases el : p.1 = l
        · rw [decide_eq_true (show V.str (one p.1) = V.str (one l) by rw [el])]
          refine iteT ⟨_, rfl, _, rfl, po, pf, _, _, rfl, rfl, hpo2, sm _ _ hpf, ?_, fun pn npn => ?_⟩
          · rw [List.length_map, List.length_map, hfx.1]
            exact fit (by omega)
          · have sn := same_upd (o := .lst (us.map V.ref ++ fus.map V.ref)) npn
            refine ⟨pn, us ++ fus, _, rfl, sm.trans sn, Same.free sm npn, by rw [upd_same, List.map_append], ?_⟩
            rw [e1, if_pos (show p.1 = Mv.ax (.window l m wd st) from el)]
            exact (hus.same sn).append ((hfx.same sm).same sn)
        · rw [decide_eq_false (fun z => el (one_inj (V.str.inj z)))]
          refine iteF ?_
          refine ⟨_, rfl, rfl, _, rfl, iteTd (show (!decide (V.str "window" = V.str "fold")) = true by decide +kernel) ?_⟩
          refine ⟨_, rfl, .inl ⟨rfl, _, SqL.of hpo2⟩, _, rfl, po, _, _, rfl, rfl, hpo2, ?_, po, us ++ [t], _, rfl, hsm _, hpo, ?_, ?_⟩
          · rw [List.length_map]
            exact small1000 (by omega)
          · rw [upd_same, List.map_append]
            rfl
          · rw [e1, if_neg (show ¬ p.1 = Mv.ax (.window l m wd st) from el), if_pos (show keepM (.window l m wd st) p.1 = true from rfl)]
            exact (hus.snoc g3).keep (nl_upd hpo2)
      · rintro σ H' ⟨po, us, v7, rfl, sm, hpo, hpo2, hus⟩
        rw [hlen, List.take_length] at hus
        refine ⟨_, rfl, po, _, rfl, SqL.of hpo2, fun pl o npl ho => ?_⟩
        have sl := same_upd (o := .frz o (.tup (us.map V.ref))) npl
        exact (q _ ((s1.trans sm).trans sl)).2 _ rfl pl ⟨us, .inl (.inr ⟨o, upd_same⟩), hus.same sl⟩ ⟨o, ho, .inl ⟨_, upd_same⟩⟩
    | fold l m st zz =>
      refine ⟨_, rfl, rfl, _, rfl, iteFd (show decide (V.str "fold" = V.str "order") = false by decide +kernel) ?_⟩
      have hz := sz_le hf l
      refine ⟨_, rfl, _, rfl, pi, _, (0 : Nat), _, rfl, rfl, hi, i0, a, sa, l, rfl, hA, ?_⟩
      have hmv : mvS (.fold l m st zz) sa sb = if sz sa l = 0 then none else (newAx (.fold l m st zz) sa sb (sz sa l)).map fun fresh => replM (.fold l m st zz) fresh sa := rfl
      rw [hmv] at q
      refine ⟨_, rfl, rfl, _, rfl, iteFd (show decide (V.str "fold" = V.str "spread") = false by decide +kernel) ?_⟩
      refine ⟨fun σ' H' => ∃ v : V, σ' = [some (.str "fold"), some (.ref a), some (.ref b), some (.ref pi), some (.int (sz sa l)), some v, none, none, none] ∧ Same H H' ∧
        ((v = .non ∧ (sz sa l = 0 ∨ newAx (.fold l m st zz) sa sb (sz sa l) = none)) ∨ ∃ (pf : Addr) (fus : List Addr) (fresh : Sh), v = .ref pf ∧ sz sa l ≠ 0 ∧ newAx (.fold l m st zz) sa sb (sz sa l) = some fresh ∧ H' pf = some (.lst (fus.map V.ref)) ∧ Axes K H' fus fresh), ?_, ?_⟩
      · refine ⟨_, rfl, rfl, _, rfl, ?_⟩
        by_cases e0 : sz sa l = 0
        · rw [decide_eq_true (show V.int ((look sa l).getD 0) = V.int 0 from congrArg V.int e0)]
          exact iteT ⟨.non, rfl, Same.refl _, .inl ⟨rfl, .inl e0⟩⟩
        · rw [decide_eq_false (show ¬ V.int ((look sa l).getD 0) = V.int 0 from fun h => e0 (V.int.inj h))]
          refine iteF ⟨_, rfl, _, rfl, _, rfl, _, rfl, _, rfl, .fold l m st zz, a, b, pi, sa, sb, sz sa l, rfl, trivial, hA, hB, hi, la, lb, hok, by omega, by omega, fun H' s' => ⟨fun e => ⟨.non, rfl, s', .inl ⟨rfl, .inr e⟩⟩, fun ax e p us hp hx => ⟨.ref p, rfl, s', .inr ⟨p, us, ax, rfl, e0, e, hp, hx⟩⟩⟩⟩
      rintro σ' H1 ⟨v, rfl, s1, hv⟩
      rcases hv with ⟨rfl, he⟩ | ⟨pf, fus, fresh, rfl, hz0, hnew, hpf, hfx⟩
      · refine ⟨_, rfl, rfl, _, rfl, iteTd rfl ((q _ s1).1 ?_)⟩
        rcases he with he | he
        · rw [if_pos he]
        · rw [he]
          split <;> rfl
      refine ⟨_, rfl, rfl, _, rfl, iteFd (decide_eq_false (fun h => nomatch h)) ?_⟩
      rw [if_neg hz0, hnew] at q
      have hfl := newAx_len hnew lb
      obtain ⟨ts, ha, hx⟩ := hA.same s1
      have hi1 := sqT_same hi s1
      refine ⟨Nat.zero_le _, fun po npo => ?_⟩
      have hlen : (ts.map V.ref).length = sa.length := by rw [List.length_map, hx.1]
      refine ⟨_, rfl, a, rfl, ⟨_, sqT_same ha (same_upd npo)⟩, for_tup (K := K) (a := a) (xs := ts.map V.ref) (fun i σ H' => ∃ (po : Addr) (us : List Addr) (v7 : Option V), σ = [some (.str "fold"), some (.ref a), some (.ref b), some (.ref pi), some (.int (sz sa l)), some (.ref pf), some (.ref po), v7, none] ∧
          Same H1 H' ∧ H1 po = none ∧ H' po = some (.lst (us.map V.ref)) ∧ Axes K H' us (replM (.fold l m st zz) fresh (sa.take i)))
        ⟨po, [], none, rfl, same_upd npo, npo, upd_same, Axes.nil⟩ (fun i σ H' _ ⟨_, _, _, _, e, _⟩ => sqT_same ha e) ?_ ?_⟩
      · rintro i x σ H' hi6 ⟨po, us, v7, rfl, sm, hpo, hpo2, hus⟩
        obtain ⟨t, p, rfl, g1, g2, g3⟩ := (hx.same sm).at hi6
        have e1 := replM_snoc (.fold l m st zz) fresh (sa.take i) p
        rw [← take_snoc g2] at e1
        have hul : us.length ≤ 20 := by
          rw [hus.1]
          refine Nat.le_trans (replM_len _ fresh _) (Nat.le_trans (Nat.mul_le_mul (show (sa.take i).length ≤ 4 by rw [List.length_take]; omega) (show fresh.length + 1 ≤ 5 by omega)) (by decide))
        have hii := sqT_same hi1 sm
        have hne : ∀ x : Addr, H1 x ≠ none → x ≠ po := fun x h e => h (by rw [e]; exact hpo)
        have hsm : ∀ o, Same H1 (upd H' po o) := fun o x u e => by
          rw [upd_ne (hne x (by rw [e]; exact fun z => nomatch z))]
          exact sm _ _ e
        refine ⟨_, rfl, t, _, (0 : Nat), _, rfl, rfl, g3, i0, _, rfl, pi, _, (0 : Nat), _, rfl, rfl, hii, i0, rfl, _, rfl, ?_⟩
        by_cases el : p.1 = l
        · rw [decide_eq_true (show V.str (one p.1) = V.str (one l) by rw [el])]
          refine iteT ⟨_, rfl, _, rfl, po, pf, _, _, rfl, rfl, hpo2, sm _ _ hpf, ?_, fun pn npn => ?_⟩
          · rw [List.length_map, List.length_map, hfx.1]
            exact fit (by omega)
          · have sn := same_upd (o := .lst (us.map V.ref ++ fus.map V.ref)) npn
            refine ⟨pn, us ++ fus, _, rfl, sm.trans sn, Same.free sm npn, by rw [upd_same, List.map_append], ?_⟩
            rw [e1, if_pos (show p.1 = Mv.ax (.fold l m st zz) from el)]
            exact (hus.same sn).append ((hfx.same sm).same sn)
        · rw [decide_eq_false (fun z => el (one_inj (V.str.inj z)))]
          refine iteF ?_
          refine ⟨_, rfl, rfl, _, rfl, iteFd (show (!decide (V.str "fold" = V.str "fold")) = false by decide +kernel) ?_⟩
          refine ⟨_, rfl, t, _, (0 : Nat), _, rfl, rfl, g3, i0, _, rfl, pi, _, (1 : Nat), _, rfl, rfl, hii, i1, rfl, _, rfl, ?_⟩
          by_cases em : p.1 = m
          · rw [decide_eq_true (show V.str (one p.1) = V.str (one m) by rw [em])]
            refine iteF ⟨po, us, _, rfl, sm, hpo, hpo2, ?_⟩
            rw [e1, if_neg (show ¬ p.1 = Mv.ax (.fold l m st zz) from el), if_neg (show ¬ keepM (.fold l m st zz) p.1 = true from fun h => of_decide_eq_true h em), List.append_nil]
            exact hus
          · rw [decide_eq_false (fun z => em (one_inj (V.str.inj z)))]
            refine iteT ?_
            refine ⟨_, rfl, .inl ⟨rfl, _, SqL.of hpo2⟩, _, rfl, po, _, _, rfl, rfl, hpo2, ?_, po, us ++ [t], _, rfl, hsm _, hpo, ?_, ?_⟩
            · rw [List.length_map]
              exact small1000 (by omega)
            · rw [upd_same, List.map_append]
              rfl
            · rw [e1, if_neg (show ¬ p.1 = Mv.ax (.fold l m st zz) from el), if_pos (show keepM (.fold l m st zz) p.1 = true from decide_eq_true em)]
              exact (hus.snoc g3).keep (nl_upd hpo2)
      · rintro σ H' ⟨po, us, v7, rfl, sm, hpo, hpo2, hus⟩
        rw [hlen, List.take_length] at hus
        refine ⟨_, rfl, po, _, rfl, SqL.of hpo2, fun pl o npl ho => ?_⟩
        have sl := same_upd (o := .frz o (.tup (us.map V.ref))) npl
        exact (q _ ((s1.trans sm).trans sl)).2 _ rfl pl ⟨us, .inl (.inr ⟨o, upd_same⟩), hus.same sl⟩ ⟨o, ho, .inl ⟨_, upd_same⟩⟩
    | gather l =>
      refine ⟨_, rfl, rfl, _, rfl, iteFd (show decide (V.str "gather" = V.str "order") = false by decide +kernel) ?_⟩
      have hz := sz_le hf l
      refine ⟨_, rfl, _, rfl, pi, _, (0 : Nat), _, rfl, rfl, hi, i0, a, sa, l, rfl, hA, ?_⟩
      have hmv : mvS (.gather l) sa sb = if sz sa l = 0 then none else (newAx (.gather l) sa sb (sz sa l)).map fun fresh => replM (.gather l) fresh sa := rfl
      rw [hmv] at q
      refine ⟨_, rfl, rfl, _, rfl, iteFd (show decide (V.str "gather" = V.str "spread") = false by decide +kernel) ?_⟩
      refine ⟨fun σ' H' => ∃ v : V, σ' = [some (.str "gather"), some (.ref a), some (.ref b), some (.ref pi), some (.int (sz sa l)), some v, none, none, none] ∧ Same H H' ∧
        ((v = .non ∧ (sz sa l = 0 ∨ newAx (.gather l) sa sb (sz sa l) = none)) ∨ ∃ (pf : Addr) (fus : List Addr) (fresh : Sh), v = .ref pf ∧ sz sa l ≠ 0 ∧ newAx (.gather l) sa sb (sz sa l) = some fresh ∧ H' pf = some (.lst (fus.map V.ref)) ∧ Axes K H' fus fresh), ?_, ?_⟩
      · refine ⟨_, rfl, rfl, _, rfl, ?_⟩
        by_cases e0 : sz sa l = 0
        · rw [decide_eq_true (show V.int ((look sa l).getD 0) = V.int 0 from congrArg V.int e0)]
          exact iteT ⟨.non, rfl, Same.refl _, .inl ⟨rfl, .inl e0⟩⟩
        · rw [decide_eq_false (show ¬ V.int ((look sa l).getD 0) = V.int 0 from fun h => e0 (V.int.inj h))]
          refine iteF ⟨_, rfl, _, rfl, _, rfl, _, rfl, _, rfl, .gather l, a, b, pi, sa, sb, sz sa l, rfl, trivial, hA, hB, hi, la, lb, hok, by omega, by omega, fun H' s' => ⟨fun e => ⟨.non, rfl, s', .inl ⟨rfl, .inr e⟩⟩, fun ax e p us hp hx => ⟨.ref p, rfl, s', .inr ⟨p, us, ax, rfl, e0, e, hp, hx⟩⟩⟩⟩
      rintro σ' H1 ⟨v, rfl, s1, hv⟩
      rcases hv with ⟨rfl, he⟩ | ⟨pf, fus, fresh, rfl, hz0, hnew, hpf, hfx⟩
      · refine ⟨_, rfl, rfl, _, rfl, iteTd rfl ((q _ s1).1 ?_)⟩
        rcases he with he | he
        · rw [if_pos he]
        · rw [he]
          split <;> rfl
      refine ⟨_, rfl, rfl, _, rfl, iteFd (decide_eq_false (fun h => nomatch h)) ?_⟩
      rw [if_neg hz0, hnew] at q
      have hfl := newAx_len hnew lb
      obtain ⟨ts, ha, hx⟩ := hA.same s1
      have hi1 := sqT_same hi s1
      refine ⟨Nat.zero_le _, fun po npo => ?_⟩
      have hlen : (ts.map V.ref).length = sa.length := by rw [List.length_map, hx.1]
      refine ⟨_, rfl, a, rfl, ⟨_, sqT_same ha (same_upd npo)⟩, for_tup (K := K) (a := a) (xs := ts.map V.ref) (fun i σ H' => ∃ (po : Addr) (us : List Addr) (v7 : Option V), σ = [some (.str "gather"), some (.ref a), some (.ref b), some (.ref pi), some (.int (sz sa l)), some (.ref pf), some (.ref po), v7, none] ∧
          Same H1 H' ∧ H1 po = none ∧ H' po = some (.lst (us.map V.ref)) ∧ Axes K H' us (replM (.gather l) fresh (sa.take i)))
        ⟨po, [], none, rfl, same_upd npo, npo, upd_same, Axes.nil⟩ (fun i σ H' _ ⟨_, _, _, _, e, _⟩ => sqT_same ha e) ?_ ?_⟩
      · rintro i x σ H' hi6 ⟨po, us, v7, rfl, sm, hpo, hpo2, hus⟩
        obtain ⟨t, p, rfl, g1, g2, g3⟩ := (hx.same sm).at hi6
        have e1 := replM_snoc (.gather l) fresh (sa.take i) p
        rw [← take_snoc g2] at e1
        have hul : us.length ≤ 20 := by
          rw [hus.1]
          refine Nat.le_trans (replM_len _ fresh _) (Nat.le_trans (Nat.mul_le_mul (show (sa.take i).length ≤ 4 by rw [List.length_take]; omega) (show fresh.length + 1 ≤ 5 by omega)) (by decide))
        have hii := sqT_same hi1 sm
        have hne : ∀ x : Addr, H1 x ≠ none → x ≠ po := fun x h e => h (by rw [e]; exact hpo)
        have hsm : ∀ o, Same H1 (upd H' po o) := fun o x u e => by
          rw [upd_ne (hne x (by rw [e]; exact fun z => nomatch z))]
          exact sm _ _ e
        refine ⟨_, rfl, t, _, (0 : Nat), _, rfl, rfl, g3, i0, _, rfl, pi, _, (0 : Nat), _, rfl, rfl, hii, i0, rfl, _, rfl, ?_⟩
        by_cases el : p.1 = l
        · rw [decide_eq_true (show V.str (one p.1) = V.str (one l) by rw [el])]
          refine iteT ⟨_, rfl, _, rfl, po, pf, _, _, rfl, rfl, hpo2, sm _ _ hpf, ?_, fun pn npn => ?_⟩
          · rw [List.length_map, List.length_map, hfx.1]
            exact fit (by omega)
          · have sn := same_upd (o := .lst (us.map V.ref ++ fus.map V.ref)) npn
            refine ⟨pn, us ++ fus, _, rfl, sm.trans sn, Same.free sm npn, by rw [upd_same, List.map_append], ?_⟩
            rw [e1, if_pos (show p.1 = Mv.ax (.gather l) from el)]
            exact (hus.same sn).append ((hfx.same sm).same sn)
        · rw [decide_eq_false (fun z => el (one_inj (V.str.inj z)))]
          refine iteF ?_
          refine ⟨_, rfl, rfl, _, rfl, iteTd (show (!decide (V.str "gather" = V.str "fold")) = true by decide +kernel) ?_⟩
          refine ⟨_, rfl, .inl ⟨rfl, _, SqL.of hpo2⟩, _, rfl, po, _, _, rfl, rfl, hpo2, ?_, po, us ++ [t], _, rfl, hsm _, hpo, ?_, ?_⟩
          · rw [List.length_map]
            exact small1000 (by omega)
          · rw [upd_same, List.map_append]
            rfl
          · rw [e1, if_neg (show ¬ p.1 = Mv.ax (.gather l) from el), if_pos (show keepM (.gather l) p.1 = true from rfl)]
            exact (hus.snoc g3).keep (nl_upd hpo2)
      · rintro σ H' ⟨po, us, v7, rfl, sm, hpo, hpo2, hus⟩
        rw [hlen, List.take_length] at hus
        refine ⟨_, rfl, po, _, rfl, SqL.of hpo2, fun pl o npl ho => ?_⟩
        have sl := same_upd (o := .frz o (.tup (us.map V.ref))) npl
        exact (q _ ((s1.trans sm).trans sl)).2 _ rfl pl ⟨us, .inl (.inr ⟨o, upd_same⟩), hus.same sl⟩ ⟨o, ho, .inl ⟨_, upd_same⟩⟩
    | spread l zz =>
      refine ⟨_, rfl, rfl, _, rfl, iteFd (show decide (V.str "spread" = V.str "order") = false by decide +kernel) ?_⟩
      refine ⟨_, rfl, _, rfl, pi, _, (0 : Nat), _, rfl, rfl, hi, i0, a, sa, l, rfl, hA, ?_⟩
      refine ⟨_, rfl, rfl, _, rfl, iteTd (show decide (V.str "spread" = V.str "spread") = true by decide +kernel) ?_⟩
      have hmv : mvS (.spread l zz) sa sb = if 0 < sz sa l then none else some (sa ++ [(l, zz)]) := rfl
      rw [hmv] at q
      refine ⟨_, rfl, _, _, rfl, rfl, _, rfl, ite2 (fun e => (q _ (Same.refl _)).1 (by rw [if_pos (show 0 < sz sa l from of_decide_eq_true e)])) (fun e => ?_)⟩
      rw [if_neg (show ¬ 0 < sz sa l from fun x => e (decide_eq_true x))] at q
      have t1 : 1 ≤ sizeLine := by decide
      refine ⟨_, rfl, _, rfl, pi, _, (0 : Nat), _, rfl, rfl, hi, i0, _, rfl, pi, _, (1 : Nat), _, rfl, rfl, hi, i1, two_line, fun t nt => ⟨t1, fun p o np ho => ?_⟩⟩
      obtain ⟨d1, d2, d3⟩ := disp1 (K := K) ho nt np
      obtain ⟨ts, ha, hx⟩ := hA.same d3
      obtain ⟨ts2, hb, hx2⟩ := d1
      have e1 : (ts.map V.ref).length = sa.length := by rw [List.length_map, hx.1]
      have e3 : (ts2.map V.ref).length = 1 := by rw [List.length_map, hx2.1]; rfl
      refine ⟨a, p, _, _, rfl, rfl, ha, hb, fit (by omega), fun e => ?_, fun e e5 => ?_, fun e e5 p2 o2 np2 ho2 => ?_⟩
      · have : sa = [] := List.length_eq_zero_iff.mp (by rw [← e1, e]; rfl)
        subst this
        exact (q _ d3).2 _ rfl p ⟨ts2, hb, hx2⟩ d2
      · rw [e5] at e3
        cases e3
      · have s4 := same_upd (o := .frz o2 (.tup (ts.map V.ref ++ ts2.map V.ref))) np2
        refine (q _ (d3.trans s4)).2 _ rfl p2 ⟨ts ++ ts2, ?_, (hx.same s4).append (hx2.same s4)⟩ ⟨o2, ho2, .inl ⟨_, upd_same⟩⟩
        rw [List.map_append]
        exact .inl (.inr ⟨o2, upd_same⟩)
    | order ls =>
      refine ⟨_, rfl, rfl, _, rfl, iteTd (show decide (V.str "order" = V.str "order") = true by decide +kernel) ?_⟩
      have hmv : mvS (.order ls) sa sb = if ls.Perm (codes sa) then some (ls.map (sized sa)) else none := rfl
      rw [hmv] at q
      obtain ⟨h64, hlow⟩ := hok
      refine ⟨_, rfl, pi, _, (0 : Nat), _, rfl, rfl, hi, i0, _, rfl, by show ls.toArray.size < 64; simpa using h64, fun ys p1 hy1 hy2 np1 => ?_⟩
      have s1 := same_upd (o := .lst (ys.map V.str)) np1
      have hp1 : (upd H p1 (.lst (ys.map V.str))) p1 = some (.lst (ys.map V.str)) := upd_same
      generalize upd H p1 (.lst (ys.map V.str)) = H1 at *
      refine ⟨_, rfl, a, sa, rfl, hA.same s1, by omega, fun H2 s2 => ?_⟩
      have hcl : (codes sa).length = sa.length := by rw [codes, List.length_map]
      refine ⟨_, rfl, by show (codes sa).toArray.size < 64; simp; omega, fun ys' p2 hy3 hy4 np2 => ?_⟩
      have s3 := same_upd (o := .lst (ys'.map V.str)) np2
      have s123 := (s1.trans s2).trans s3
      have d1 : Dp K (upd H2 p2 (.lst (ys'.map V.str))) (.ref p1) (.list (ys.map PyData.str)) := .lst (SqL.of (s3 _ _ (s2 _ _ hp1))) (dpAll_strs ys)
      have d2 : Dp K (upd H2 p2 (.lst (ys'.map V.str))) (.ref p2) (.list (ys'.map PyData.str)) := .lst (SqL.of upd_same) (dpAll_strs ys')
      generalize upd H2 p2 (.lst (ys'.map V.str)) = H3 at *
      have hy1' : ys.Perm (ls.map one) := hy1
      have hy3' : ys'.Perm ((codes sa).map one) := hy3
      have hlc : ∀ c ∈ codes sa, c < 128 := fun c hc => by
        obtain ⟨p, hp, rfl⟩ := List.mem_map.mp hc
        exact hw p hp
      refine ⟨_, _, d1, d2, strs_shaped _ (perm_ok hy1' hlow), strs_shaped _ (perm_ok hy3' hlc), _, rfl, ?_⟩
      have ee : PyData.eqv (.list (ys.map PyData.str)) (.list (ys'.map PyData.str)) = decide (ys = ys') := by
        have : PyData.eqv (.list (ys.map PyData.str)) (.list (ys'.map PyData.str)) = PyData.eqvAll (ys.map PyData.str) (ys'.map PyData.str) := by simp only [PyData.eqv]
        rw [this, strs_eqv]
      rw [ee]
      have hiff := sorted_iff hy1' hy2 hy3' hy4
      by_cases hp : ls.Perm (codes sa)
      · rw [decide_eq_true (hiff.mpr hp)]
        rw [if_pos hp] at q
        have hi3 := sqT_same hi s123
        refine iteF ⟨_, rfl, pi, _, (0 : Nat), _, rfl, rfl, hi3, i0, ⟨ls.toArray⟩, rfl, fun D nD => lc_it walk_str (fun i H' => ∃ us : List Addr, Same H3 H' ∧ H' D = some (.lst (us.map V.ref)) ∧ Axes K H' us ((ls.take i).map (sized sa)))
          ⟨[], same_upd nD, upd_same, Axes.nil⟩ (fun _ _ _ _ => trivial) ?_ ?_⟩
        · rintro i x H5 _ hi5 ⟨us, sm, hD, hax⟩ ⟨rfl, c, hc, rfl⟩
          have hc' : ls[i]? = some c := by
            have : ls.toArray[i]? = some c := hc
            simpa using this
          refine ⟨rfl, ?_⟩
          unfold tYes
          dsimp only
          rw [if_pos rfl]
          refine ⟨_, rfl, _, rfl, _, rfl, a, sa, c, rfl, hA.same (s123.trans sm), two_line, fun t nt => ?_⟩
          have s6 := same_upd (o := .tup [.str (one c), .int ((look sa c).getD 0)]) nt
          refine ⟨_, s6 _ _ hD, ?_, us ++ [t], ?_, ?_, ?_⟩
          · rw [List.length_map, hax.1, List.length_map, List.length_take]
            exact small1000 (by omega)
          · exact fun b o e => by rw [upd_ne (ne_of_none e nD)]; exact s6 _ _ (sm _ _ e)
          · rw [upd_same, List.map_append]
            rfl
          · rw [take_snoc hc', List.map_append]
            exact ((hax.same s6).snoc (p := sized sa c) (SqT.of upd_same)).keep (nl_upd (s6 _ _ hD))
        · rintro H5 ⟨us, sm, hD, hax⟩
          have hsz : (⟨ls.toArray⟩ : Str).cps.size = ls.length := by show ls.toArray.size = ls.length; simp
          rw [hsz, List.take_length] at hax
          refine ⟨D, _, rfl, SqL.of hD, fun l o nl ho => ?_⟩
          have s7 := same_upd (o := .frz o (.tup (us.map V.ref))) nl
          exact (q _ ((s123.trans sm).trans s7)).2 _ rfl l ⟨us, .inl (.inr ⟨o, upd_same⟩), hax.same s7⟩ ⟨o, ho, .inl ⟨_, upd_same⟩⟩
      · rw [decide_eq_false (fun e => hp (hiff.mp e))]
        exact iteT ((q _ s123).1 (by rw [if_neg hp]))
end

/-! ### the law's intervals -/
def ptB : Bk → Int → Int
  | .neg, x => -x
  | .clamp lo hi, x => mx lo (mn hi x)
  | .shift n, x => shf x n
  | _, x => x
def spanL : Nd → List Dom → Int × Int
  | .bc .less _, _ => (0, 1)
  | .bc .equal _, _ => (0, 1)
  | .bc .wher _, [_, d, e] => (mn d.lo e.lo, mx d.hi e.hi)
  | .bc .add _, [d, e] => (d.lo + e.lo, d.hi + e.hi)
  | .bc .sub _, [d, e] => (d.lo - e.hi, d.hi - e.lo)
  | .bc .mul _, [d, e] => (1 * lst (corn d.lo d.hi e.lo e.hi), 1 * grt (corn d.lo d.hi e.lo e.hi))
  | .bc .max _, [d, e] => (mx d.lo e.lo, mx d.hi e.hi)
  | .bc .min _, [d, e] => (mn d.lo e.lo, mn d.hi e.hi)
  | .bc k _, [d] => (lst [ptB k d.lo, ptB k d.hi], grt [ptB k d.lo, ptB k d.hi])
  | .dot l _, [d, e] => (sz d.sh l * lst (corn d.lo d.hi e.lo e.hi), sz d.sh l * grt (corn d.lo d.hi e.lo e.hi))
  | .mv (.sum l) _, [d] => (sz d.sh l * d.lo, sz d.sh l * d.hi)
  | .mv (.pad _ _ _) _, [d] => (mn d.lo 0, mx d.hi 0)
  | .mv (.fold _ m _ _) _, [d] => (mn (sz d.sh m * d.lo) 0, mx (sz d.sh m * d.hi) 0)
  | .mv (.join _) _, [d, e] => (mn d.lo e.lo, mx d.hi e.hi)
  | .mv _ _, d :: _ => (d.lo, d.hi)
  | _, _ => (0, 0)
/-- how many domains are given -/
def arN : Nd → Nat
  | .input _ _ _ => 0 | .const _ _ => 0
  | .bc k _ => match k with | .neg => 1 | .clamp _ _ => 1 | .shift _ => 1 | .wher => 3 | _ => 2
  | .dot _ _ => 2
  | .mv k _ => match k with | .join _ => 2 | .gather _ => 2 | _ => 1
def isDone : Nd → Prop
  | .input _ _ _ => False | .const _ _ => False
  | .bc (.shift n) _ => 1 ≤ n ∧ n ≤ 30
  | _ => True
section
variable {P : Program} {w : World} {K : PySem.W.Frag} {mg : Str → Option Value} {base : Heap}
/-- an interval stands there -/
def IvAt (K : PySem.W.Frag) (H : Hp) (v : V) (d : Dom) : Prop := ∃ p, v = .ref p ∧ SqT K H p [.int d.lo, .int d.hi]
theorem IvAt.same {H H' : Hp} {v : V} {d : Dom} (h : IvAt K H v d) (s : Same H H') : IvAt K H' v d := by
  obtain ⟨p, e, h1⟩ := h
  exact ⟨p, e, sqT_same h1 s⟩
def Ivs (K : PySem.W.Frag) (H : Hp) (vs : List V) (ds : List Dom) : Prop := vs.length = ds.length ∧ ∀ (i : Nat) (v : V) (d : Dom), vs[i]? = some v → ds[i]? = some d → IvAt K H v d
theorem Ivs.same {H H' : Hp} {vs : List V} {ds : List Dom} (h : Ivs K H vs ds) (s : Same H H') : Ivs K H' vs ds := ⟨h.1, fun i v d a b => (h.2 i v d a b).same s⟩
theorem Ivs.one {H : Hp} {vs : List V} {d : Dom} (h : Ivs K H vs [d]) : ∃ p, vs = [.ref p] ∧ SqT K H p [.int d.lo, .int d.hi] := by
  match vs, h with
  | [v], h =>
    obtain ⟨p, rfl, e⟩ := h.2 0 v d rfl rfl
    exact ⟨p, rfl, e⟩
  | [], h => nomatch h.1
  | _ :: _ :: _, h => nomatch h.1
theorem Ivs.two {H : Hp} {vs : List V} {d e : Dom} (h : Ivs K H vs [d, e]) : ∃ p p2, vs = [.ref p, .ref p2] ∧ SqT K H p [.int d.lo, .int d.hi] ∧ SqT K H p2 [.int e.lo, .int e.hi] := by
  match vs, h with
  | [v, u], h =>
    obtain ⟨p, rfl, e1⟩ := h.2 0 v d rfl rfl
    obtain ⟨p2, rfl, e2⟩ := h.2 1 u e rfl rfl
    exact ⟨p, p2, rfl, e1, e2⟩
  | [], h => nomatch h.1
  | [_], h => nomatch h.1
  | _ :: _ :: _ :: _, h => nomatch h.1
theorem Ivs.three {H : Hp} {vs : List V} {d e g : Dom} (h : Ivs K H vs [d, e, g]) : ∃ p p2 p3, vs = [.ref p, .ref p2, .ref p3] ∧ SqT K H p [.int d.lo, .int d.hi] ∧ SqT K H p2 [.int e.lo, .int e.hi] ∧ SqT K H p3 [.int g.lo, .int g.hi] := by
  match vs, h with
  | [v, u, x], h =>
    obtain ⟨p, rfl, e1⟩ := h.2 0 v d rfl rfl
    obtain ⟨p2, rfl, e2⟩ := h.2 1 u e rfl rfl
    obtain ⟨p3, rfl, e3⟩ := h.2 2 x g rfl rfl
    exact ⟨p, p2, p3, rfl, e1, e2, e3⟩
  | [], h => nomatch h.1
  | [_], h => nomatch h.1
  | [_, _], h => nomatch h.1
  | _ :: _ :: _ :: _ :: _, h => nomatch h.1
theorem ShsAt.head {H : Hp} {as : List Addr} {d : Dom} {ds : List Dom} (h : ShsAt K H as (d :: ds)) : ∃ a r, as = a :: r ∧ ShT K H a d.sh ∧ NoD K H a := by
  match as, h with
  | a :: r, h => exact ⟨a, r, rfl, (h.2 0 a d rfl rfl).1, (h.2 0 a d rfl rfl).2⟩
  | [], h => nomatch h.1
abbrev nSn : List Str := ["kind", "info", "shapes", "spans", "l", "h", "ends", "n", "p", "q", "low", "high"]
theorem scSn : FnScope nSn ["kind", "info", "shapes", "spans"] (defScope s_law_span) := ⟨rfl, rfl, rfl, by decide +kernel, rfl, by decide +kernel, by decide +kernel⟩
def spSpan (K : PySem.W.Frag) : Sp := fun vs H Q _ => ∃ (nd : Nd) (pi ps pg : Addr) (as : List Addr) (us : List V) (ds : List Dom), vs = [.str nd.nm, .ref pi, .ref ps, .ref pg] ∧ SqL K H ps (as.map V.ref) ∧ SqL K H pg us ∧ InfoAt K H pi nd ∧ ShsAt K H as ds ∧ Ivs K H us ds ∧ isDone nd ∧ ds.length = arN nd ∧ (∀ d ∈ ds, Bg 300 d.lo ∧ Bg 300 d.hi ∧ Fine d.sh ∧ d.sh.length ≤ 4) ∧ IvQ K (spanL nd ds).1 (spanL nd ds).2 Q H
theorem bg_sz {sh : Sh} (h : Fine sh) (l : Nat) : Bg 300 (sz sh l) := by
  have := sz_le h l
  unfold Bg
  have e : (sz sh l).natAbs ≤ 16 := by omega
  exact Nat.lt_of_le_of_lt e (by decide)
theorem ok_span {f fPt fSz fCo : Addr} {fd fdPt fdSz fdCo : FuncData} (F : Fun K "_law_span" "_law_span" s_law_span f fd) (mi : mg "min" = none) (ma : mg "max" = none) (ml : mg "len" = none)
    (GPt : FnOk P w K mg base CX0 2 fPt fdPt ["kind", "v", "info"] (spPoint K)) (kPt : PySem.W.keepIn K (.ref fPt) = true) (bPt : Binds K fdPt ["kind", "v", "info"] []) (gPt : mg "_law_point" = some (.ref fPt))
    (GSz : FnOk P w K mg base CX0 1 fSz fdSz ["shape", "letter"] (spSizeT K)) (kSz : PySem.W.keepIn K (.ref fSz) = true) (bSz : Binds K fdSz ["shape", "letter"] []) (gSz : mg "_law_size" = some (.ref fSz))
    (GCo : FnOk P w K mg base CX0 1 fCo fdCo ["one", "two"] (spCorners K)) (kCo : PySem.W.keepIn K (.ref fCo) = true) (bCo : Binds K fdCo ["one", "two"] []) (gCo : mg "_law_corners" = some (.ref fCo))
    : FnOk P w K mg base CX0 3 f fd ["kind", "info", "shapes", "spans"] (spSpan K) := by
  refine F.ok scSn (fun vs H Q E h => ?_) (fun cdv A outer s H vs Q E hr h => ?_)
  · obtain ⟨nd, pi, ps, pg, as, us, ds, rfl, _⟩ := h
    rfl
  · obtain ⟨nd, pi, ps, pg, as, us, ds, rfl, hps, hg, hi, hS, hI, hdn, hlen, hb, q⟩ := h
    have hr1 : Room 1 _ := hr.mono (by decide)
    have hr2 : Room 2 _ := hr.mono (by decide)
    have c : ∀ {x y : Int}, Bg 300 x → Bg 300 y → CMulW x y := fun a b => Bg.cmul a b (by decide) (by decide) (by decide)
    refine ⟨_, (pss_cons (ps_asg (pe_ix ix_list (pv 3) pe_int (fun _ _ => rfl)) (pg_tup rfl (pgs_cons (pg_name (i := 4) scSn.nd rfl (.inl rfl)) (pgs_cons (pg_name (i := 5) scSn.nd rfl (.inl rfl)) pgs_nil))))
      (pss_cons (ps_if (pt_inS (zs := ["neg", "clamp", "shift"]) (by decide) (pv 0) (pa_cons (pe_str) (pa_cons (pe_str) (pa_cons (pe_str) pa_nil)))) (pss_cons (ps_set (i := 6) scSn.nd rfl (.inl rfl) (pe_lst (pa_cons (pe_call GPt hr2 (by rfl) gPt kPt bPt .nil pass0 (pa_cons (pv 0) (pa_cons (pe_tup (pa_cons (pv 4) pa_nil)) (pa_cons (pv 1) pa_nil)))) (pa_cons (pe_call GPt hr2 (by rfl) gPt kPt bPt .nil pass0 (pa_cons (pv 0) (pa_cons (pe_tup (pa_cons (pv 5) pa_nil)) (pa_cons (pv 1) pa_nil)))) pa_nil))))
      (pss_one (ps_ret (pe_tup (pa_cons (pe_callB (cr_min (by rfl)) (by rfl) mi (by decide +kernel) (pa_cons (pv 6) pa_nil)) (pa_cons (pe_callB (cr_max (by rfl)) (by rfl) ma (by decide +kernel) (pa_cons (pv 6) pa_nil)) pa_nil)))))) pss_nil)
      (pss_cons (ps_if (pt_inS (zs := ["less", "equal"]) (by decide) (pv 0) (pa_cons (pe_str) (pa_cons (pe_str) pa_nil))) (pss_one (ps_ret (pe_tup (pa_cons (pe_int) (pa_cons (pe_int) pa_nil))))) pss_nil)
      (pss_cons (ps_if (pt_cmpR op_eq (pv 0) (pe_str) (nomark _)) (pss_one (ps_ret (pe_tup (pa_cons (pe_callB (call_min2 rfl) (by rfl) mi (by decide +kernel) (pa_cons (pe_ix ix_tup (pe_ix ix_list (pv 3) pe_int (fun _ _ => rfl)) pe_int (fun _ _ => rfl)) (pa_cons (pe_ix ix_tup (pe_ix ix_list (pv 3) pe_int (fun _ _ => rfl)) pe_int (fun _ _ => rfl)) pa_nil))) (pa_cons (pe_callB (call_max2 rfl) (by rfl) ma (by decide +kernel) (pa_cons (pe_ix ix_tup (pe_ix ix_list (pv 3) pe_int (fun _ _ => rfl)) pe_int (fun _ _ => rfl)) (pa_cons (pe_ix ix_tup (pe_ix ix_list (pv 3) pe_int (fun _ _ => rfl)) pe_int (fun _ _ => rfl)) pa_nil))) pa_nil))))) pss_nil)
      (pss_cons (ps_if (pt_cmpR op_eq (pv 0) (pe_str) (nomark _)) (pss_cons (ps_set (i := 7) scSn.nd rfl (.inl rfl) (pe_call GSz hr1 (by rfl) gSz kSz bSz .nil pass0 (pa_cons (pe_ix ix_list (pv 2) pe_int (fun _ _ => rfl)) (pa_cons (pe_ix ix_tup (pv 1) pe_int (fun _ _ => rfl)) pa_nil))))
      (pss_one (ps_ret (pe_tup (pa_cons (pe_op op_mulW (pv 7) (pv 4)) (pa_cons (pe_op op_mulW (pv 7) (pv 5)) pa_nil)))))) pss_nil)
      (pss_cons (ps_if (pt_cmpR op_eq (pv 0) (pe_str) (nomark _)) (pss_one (ps_ret (pe_tup (pa_cons (pe_callB (call_min2 rfl) (by rfl) mi (by decide +kernel) (pa_cons (pv 4) (pa_cons (pe_int) pa_nil))) (pa_cons (pe_callB (call_max2 rfl) (by rfl) ma (by decide +kernel) (pa_cons (pv 5) (pa_cons (pe_int) pa_nil))) pa_nil))))) pss_nil)
      (pss_cons (ps_if (pt_cmpR op_eq (pv 0) (pe_str) (nomark _)) (pss_cons (ps_set (i := 7) scSn.nd rfl (.inl rfl) (pe_call GSz hr1 (by rfl) gSz kSz bSz .nil pass0 (pa_cons (pe_ix ix_list (pv 2) pe_int (fun _ _ => rfl)) (pa_cons (pe_ix ix_tup (pv 1) pe_int (fun _ _ => rfl)) pa_nil))))
      (pss_one (ps_ret (pe_tup (pa_cons (pe_callB (call_min2 rfl) (by rfl) mi (by decide +kernel) (pa_cons (pe_op op_mulW (pv 7) (pv 4)) (pa_cons (pe_int) pa_nil))) (pa_cons (pe_callB (call_max2 rfl) (by rfl) ma (by decide +kernel) (pa_cons (pe_op op_mulW (pv 7) (pv 5)) (pa_cons (pe_int) pa_nil))) pa_nil)))))) pss_nil)
      (pss_cons (ps_if (PW.pt (pw_or (pt_cmpR op_eq (pe_callB call_len_seq (by rfl) ml PySem.boot_len (pa_cons (pv 3) pa_nil)) (pe_int) (nomark _)) (pw_or1 (pt_cmpR op_eq (pv 0) (pe_str) (nomark _))))) (pss_one (ps_ret (pe_tup (pa_cons (pv 4) (pa_cons (pv 5) pa_nil))))) pss_nil)
      (pss_cons (ps_asg (pe_ix ix_list (pv 3) pe_int (fun _ _ => rfl)) (pg_tup rfl (pgs_cons (pg_name (i := 8) scSn.nd rfl (.inl rfl)) (pgs_cons (pg_name (i := 9) scSn.nd rfl (.inl rfl)) pgs_nil))))
      (pss_cons (ps_if (pt_cmpR op_eq (pv 0) (pe_str) (nomark _)) (pss_one (ps_ret (pe_tup (pa_cons (pe_op op_add (pv 4) (pv 8)) (pa_cons (pe_op op_add (pv 5) (pv 9)) pa_nil))))) pss_nil)
      (pss_cons (ps_if (pt_cmpR op_eq (pv 0) (pe_str) (nomark _)) (pss_one (ps_ret (pe_tup (pa_cons (pe_op op_sub (pv 4) (pv 9)) (pa_cons (pe_op op_sub (pv 5) (pv 8)) pa_nil))))) pss_nil)
      (pss_cons (ps_if (pt_cmpR op_eq (pv 0) (pe_str) (nomark _)) (pss_one (ps_ret (pe_tup (pa_cons (pe_callB (call_max2 rfl) (by rfl) ma (by decide +kernel) (pa_cons (pv 4) (pa_cons (pv 8) pa_nil))) (pa_cons (pe_callB (call_max2 rfl) (by rfl) ma (by decide +kernel) (pa_cons (pv 5) (pa_cons (pv 9) pa_nil))) pa_nil))))) pss_nil)
      (pss_cons (ps_if (pt_cmpR op_eq (pv 0) (pe_str) (nomark _)) (pss_one (ps_ret (pe_tup (pa_cons (pe_callB (call_min2 rfl) (by rfl) mi (by decide +kernel) (pa_cons (pv 4) (pa_cons (pv 8) pa_nil))) (pa_cons (pe_callB (call_min2 rfl) (by rfl) mi (by decide +kernel) (pa_cons (pv 5) (pa_cons (pv 9) pa_nil))) pa_nil))))) pss_nil)
      (pss_cons (ps_if (pt_cmpR op_eq (pv 0) (pe_str) (nomark _)) (pss_one (ps_ret (pe_tup (pa_cons (pe_callB (call_min2 rfl) (by rfl) mi (by decide +kernel) (pa_cons (pv 4) (pa_cons (pv 8) pa_nil))) (pa_cons (pe_callB (call_max2 rfl) (by rfl) ma (by decide +kernel) (pa_cons (pv 5) (pa_cons (pv 9) pa_nil))) pa_nil))))) pss_nil)
      (pss_cons (ps_asg (pe_call GCo hr1 (by rfl) gCo kCo bCo .nil pass0 (pa_cons (pe_ix ix_list (pv 3) pe_int (fun _ _ => rfl)) (pa_cons (pe_ix ix_list (pv 3) pe_int (fun _ _ => rfl)) pa_nil))) (pg_tup rfl (pgs_cons (pg_name (i := 10) scSn.nd rfl (.inl rfl)) (pgs_cons (pg_name (i := 11) scSn.nd rfl (.inl rfl)) pgs_nil))))
      (pss_cons (ps_set (i := 7) scSn.nd rfl (.inl rfl) (pe_ifExp (pt_cmpR op_eq (pv 0) (pe_str) (nomark _)) (pe_call GSz hr1 (by rfl) gSz kSz bSz .nil pass0 (pa_cons (pe_ix ix_list (pv 2) pe_int (fun _ _ => rfl)) (pa_cons (pe_ix ix_tup (pv 1) pe_int (fun _ _ => rfl)) pa_nil))) (pe_int)))
      (pss_one (ps_ret (pe_tup (pa_cons (pe_op op_mulW (pv 7) (pv 10)) (pa_cons (pe_op op_mulW (pv 7) (pv 11)) pa_nil))))))))))))))))))))), ?_⟩
    cases nd with
    | input sh lo hi => exact absurd hdn id
    | const sh ns => exact absurd hdn id
    | bc k args =>
      cases k with
      | add =>
        match ds, hlen, hS, hI, hb, q with
        | [d, e], _, hS, hI, hb, q =>
          obtain ⟨p, p2, rfl, h1, h2⟩ := hI.two
          obtain ⟨a, ar, rfl, hA, _⟩ := hS.head
          obtain ⟨b1, b2, hf, hl4⟩ := hb d List.mem_cons_self
          obtain ⟨b3, b4, _, _⟩ := hb e (List.mem_cons_of_mem _ List.mem_cons_self)
          refine ⟨_, rfl, pg, _, (0 : Nat), _, rfl, rfl, hg, i0, p, _, rfl, h1, rfl, _, _, rfl, _, _, rfl, rfl, ?_⟩
          refine ⟨_, rfl, fun HI1 si1 => ⟨_, rfl, iteFd (show decide (("add" : Str) ∈ (["neg", "clamp", "shift"] : List Str)) = false by decide +kernel) ?_⟩⟩
          refine ⟨_, rfl, fun HI2 si2 => ⟨_, rfl, iteFd (show decide (("add" : Str) ∈ (["less", "equal"] : List Str)) = false by decide +kernel) ?_⟩⟩
          have st2 := si1.trans si2
          refine ⟨_, rfl, rfl, _, rfl, iteFd (show decide (V.str "add" = V.str "where") = false by decide +kernel) ?_⟩
          refine ⟨_, rfl, rfl, _, rfl, iteFd (show decide (V.str "add" = V.str "sum") = false by decide +kernel) ?_⟩
          refine ⟨_, rfl, rfl, _, rfl, iteFd (show decide (V.str "add" = V.str "pad") = false by decide +kernel) ?_⟩
          refine ⟨_, rfl, rfl, _, rfl, iteFd (show decide (V.str "add" = V.str "fold") = false by decide +kernel) ?_⟩
          refine ⟨_, rfl, pg, _, rfl, .inl (sqL_same hg st2), rfl, _, rfl, iteFd (show decide (V.int ((2 : Nat) : Int) = V.int 1) = false by decide +kernel) ?_⟩
          refine ⟨_, rfl, rfl, _, rfl, iteFd (show decide (V.str "add" = V.str "gather") = false by decide +kernel) ?_⟩
          refine ⟨_, rfl, pg, _, (1 : Nat), _, rfl, rfl, sqL_same hg st2, i1, p2, _, rfl, sqT_same h2 st2, rfl, _, _, rfl, _, _, rfl, rfl, ?_⟩
          refine ⟨_, rfl, rfl, _, rfl, iteTd (show decide (V.str "add" = V.str "add") = true by decide +kernel) ?_⟩
          exact ⟨_, rfl, _, rfl, _, _, rfl, rfl, _, rfl, _, rfl, _, _, rfl, rfl, two_line, fun px np => q _ px (st2.trans (same_upd np)) (SqT.of upd_same)⟩
      | sub =>
        match ds, hlen, hS, hI, hb, q with
        | [d, e], _, hS, hI, hb, q =>
          obtain ⟨p, p2, rfl, h1, h2⟩ := hI.two
          obtain ⟨a, ar, rfl, hA, _⟩ := hS.head
          obtain ⟨b1, b2, hf, hl4⟩ := hb d List.mem_cons_self
          obtain ⟨b3, b4, _, _⟩ := hb e (List.mem_cons_of_mem _ List.mem_cons_self)
          refine ⟨_, rfl, pg, _, (0 : Nat), _, rfl, rfl, hg, i0, p, _, rfl, h1, rfl, _, _, rfl, _, _, rfl, rfl, ?_⟩
          refine ⟨_, rfl, fun HI1 si1 => ⟨_, rfl, iteFd (show decide (("sub" : Str) ∈ (["neg", "clamp", "shift"] : List Str)) = false by decide +kernel) ?_⟩⟩
          refine ⟨_, rfl, fun HI2 si2 => ⟨_, rfl, iteFd (show decide (("sub" : Str) ∈ (["less", "equal"] : List Str)) = false by decide +kernel) ?_⟩⟩
          have st2 := si1.trans si2
          refine ⟨_, rfl, rfl, _, rfl, iteFd (show decide (V.str "sub" = V.str "where") = false by decide +kernel) ?_⟩
          refine ⟨_, rfl, rfl, _, rfl, iteFd (show decide (V.str "sub" = V.str "sum") = false by decide +kernel) ?_⟩
          refine ⟨_, rfl, rfl, _, rfl, iteFd (show decide (V.str "sub" = V.str "pad") = false by decide +kernel) ?_⟩
          refine ⟨_, rfl, rfl, _, rfl, iteFd (show decide (V.str "sub" = V.str "fold") = false by decide +kernel) ?_⟩
          refine ⟨_, rfl, pg, _, rfl, .inl (sqL_same hg st2), rfl, _, rfl, iteFd (show decide (V.int ((2 : Nat) : Int) = V.int 1) = false by decide +kernel) ?_⟩
          refine ⟨_, rfl, rfl, _, rfl, iteFd (show decide (V.str "sub" = V.str "gather") = false by decide +kernel) ?_⟩
          refine ⟨_, rfl, pg, _, (1 : Nat), _, rfl, rfl, sqL_same hg st2, i1, p2, _, rfl, sqT_same h2 st2, rfl, _, _, rfl, _, _, rfl, rfl, ?_⟩
          refine ⟨_, rfl, rfl, _, rfl, iteFd (show decide (V.str "sub" = V.str "add") = false by decide +kernel) ?_⟩
          refine ⟨_, rfl, rfl, _, rfl, iteTd (show decide (V.str "sub" = V.str "sub") = true by decide +kernel) ?_⟩
          exact ⟨_, rfl, _, rfl, _, _, rfl, rfl, _, rfl, _, rfl, _, _, rfl, rfl, two_line, fun px np => q _ px (st2.trans (same_upd np)) (SqT.of upd_same)⟩
      | mul =>
        match ds, hlen, hS, hI, hb, q with
        | [d, e], _, hS, hI, hb, q =>
          obtain ⟨p, p2, rfl, h1, h2⟩ := hI.two
          obtain ⟨a, ar, rfl, hA, _⟩ := hS.head
          obtain ⟨b1, b2, hf, hl4⟩ := hb d List.mem_cons_self
          obtain ⟨b3, b4, _, _⟩ := hb e (List.mem_cons_of_mem _ List.mem_cons_self)
          refine ⟨_, rfl, pg, _, (0 : Nat), _, rfl, rfl, hg, i0, p, _, rfl, h1, rfl, _, _, rfl, _, _, rfl, rfl, ?_⟩
          refine ⟨_, rfl, fun HI1 si1 => ⟨_, rfl, iteFd (show decide (("mul" : Str) ∈ (["neg", "clamp", "shift"] : List Str)) = false by decide +kernel) ?_⟩⟩
          refine ⟨_, rfl, fun HI2 si2 => ⟨_, rfl, iteFd (show decide (("mul" : Str) ∈ (["less", "equal"] : List Str)) = false by decide +kernel) ?_⟩⟩
          have st2 := si1.trans si2
          refine ⟨_, rfl, rfl, _, rfl, iteFd (show decide (V.str "mul" = V.str "where") = false by decide +kernel) ?_⟩
          refine ⟨_, rfl, rfl, _, rfl, iteFd (show decide (V.str "mul" = V.str "sum") = false by decide +kernel) ?_⟩
          refine ⟨_, rfl, rfl, _, rfl, iteFd (show decide (V.str "mul" = V.str "pad") = false by decide +kernel) ?_⟩
          refine ⟨_, rfl, rfl, _, rfl, iteFd (show decide (V.str "mul" = V.str "fold") = false by decide +kernel) ?_⟩
          refine ⟨_, rfl, pg, _, rfl, .inl (sqL_same hg st2), rfl, _, rfl, iteFd (show decide (V.int ((2 : Nat) : Int) = V.int 1) = false by decide +kernel) ?_⟩
          refine ⟨_, rfl, rfl, _, rfl, iteFd (show decide (V.str "mul" = V.str "gather") = false by decide +kernel) ?_⟩
          refine ⟨_, rfl, pg, _, (1 : Nat), _, rfl, rfl, sqL_same hg st2, i1, p2, _, rfl, sqT_same h2 st2, rfl, _, _, rfl, _, _, rfl, rfl, ?_⟩
          refine ⟨_, rfl, rfl, _, rfl, iteFd (show decide (V.str "mul" = V.str "add") = false by decide +kernel) ?_⟩
          refine ⟨_, rfl, rfl, _, rfl, iteFd (show decide (V.str "mul" = V.str "sub") = false by decide +kernel) ?_⟩
          refine ⟨_, rfl, rfl, _, rfl, iteFd (show decide (V.str "mul" = V.str "max") = false by decide +kernel) ?_⟩
          refine ⟨_, rfl, rfl, _, rfl, iteFd (show decide (V.str "mul" = V.str "min") = false by decide +kernel) ?_⟩
          refine ⟨_, rfl, rfl, _, rfl, iteFd (show decide (V.str "mul" = V.str "join") = false by decide +kernel) ?_⟩
          refine ⟨_, rfl, pg, _, (0 : Nat), _, rfl, rfl, sqL_same hg st2, i0, _, rfl, pg, _, (1 : Nat), _, rfl, rfl, sqL_same hg st2, i1, p, p2, _, _, _, _, rfl, sqT_same h1 st2, sqT_same h2 st2, b1, b2, b3, b4, fun H4 p4 s4 hp4 => ?_⟩
          refine ⟨p4, _, rfl, hp4, rfl, _, _, rfl, _, _, rfl, rfl, ?_⟩
          have sf := st2.trans s4
          have hne : corn d.lo d.hi e.lo e.hi ≠ [] := List.cons_ne_nil _ _
          have cc : ∀ {x y : Int}, Bg 300 x → Bg 600 y → CMulW x y := fun a b => Bg.cmul a b (by decide) (by decide) (by decide)
          refine ⟨_, rfl, rfl, _, rfl, iteFd (show decide (V.str "mul" = V.str "dot") = false by decide +kernel) ?_⟩
          exact ⟨_, rfl, _, rfl, _, _, rfl, rfl, cc ((show Bg 300 1 by unfold Bg; decide)) (corn_bg b1 b2 b3 b4 (lst_mem _ hne)), _, rfl, _, rfl, _, _, rfl, rfl, cc ((show Bg 300 1 by unfold Bg; decide)) (corn_bg b1 b2 b3 b4 (grt_mem _ hne)), two_line, fun px np => q _ px (sf.trans (same_upd np)) (SqT.of upd_same)⟩
      | max =>
        match ds, hlen, hS, hI, hb, q with
        | [d, e], _, hS, hI, hb, q =>
          obtain ⟨p, p2, rfl, h1, h2⟩ := hI.two
          obtain ⟨a, ar, rfl, hA, _⟩ := hS.head
          obtain ⟨b1, b2, hf, hl4⟩ := hb d List.mem_cons_self
          obtain ⟨b3, b4, _, _⟩ := hb e (List.mem_cons_of_mem _ List.mem_cons_self)
          refine ⟨_, rfl, pg, _, (0 : Nat), _, rfl, rfl, hg, i0, p, _, rfl, h1, rfl, _, _, rfl, _, _, rfl, rfl, ?_⟩
          refine ⟨_, rfl, fun HI1 si1 => ⟨_, rfl, iteFd (show decide (("max" : Str) ∈ (["neg", "clamp", "shift"] : List Str)) = false by decide +kernel) ?_⟩⟩
          refine ⟨_, rfl, fun HI2 si2 => ⟨_, rfl, iteFd (show decide (("max" : Str) ∈ (["less", "equal"] : List Str)) = false by decide +kernel) ?_⟩⟩
          have st2 := si1.trans si2
          refine ⟨_, rfl, rfl, _, rfl, iteFd (show decide (V.str "max" = V.str "where") = false by decide +kernel) ?_⟩
          refine ⟨_, rfl, rfl, _, rfl, iteFd (show decide (V.str "max" = V.str "sum") = false by decide +kernel) ?_⟩
          refine ⟨_, rfl, rfl, _, rfl, iteFd (show decide (V.str "max" = V.str "pad") = false by decide +kernel) ?_⟩
          refine ⟨_, rfl, rfl, _, rfl, iteFd (show decide (V.str "max" = V.str "fold") = false by decide +kernel) ?_⟩
          refine ⟨_, rfl, pg, _, rfl, .inl (sqL_same hg st2), rfl, _, rfl, iteFd (show decide (V.int ((2 : Nat) : Int) = V.int 1) = false by decide +kernel) ?_⟩
          refine ⟨_, rfl, rfl, _, rfl, iteFd (show decide (V.str "max" = V.str "gather") = false by decide +kernel) ?_⟩
          refine ⟨_, rfl, pg, _, (1 : Nat), _, rfl, rfl, sqL_same hg st2, i1, p2, _, rfl, sqT_same h2 st2, rfl, _, _, rfl, _, _, rfl, rfl, ?_⟩
          refine ⟨_, rfl, rfl, _, rfl, iteFd (show decide (V.str "max" = V.str "add") = false by decide +kernel) ?_⟩
          refine ⟨_, rfl, rfl, _, rfl, iteFd (show decide (V.str "max" = V.str "sub") = false by decide +kernel) ?_⟩
          refine ⟨_, rfl, rfl, _, rfl, iteTd (show decide (V.str "max" = V.str "max") = true by decide +kernel) ?_⟩
          exact ⟨_, rfl, _, rfl, _, _, rfl, _, rfl, _, rfl, _, _, rfl, two_line, fun px np => q _ px (st2.trans (same_upd np)) (SqT.of upd_same)⟩
      | min =>
        match ds, hlen, hS, hI, hb, q with
        | [d, e], _, hS, hI, hb, q =>
          obtain ⟨p, p2, rfl, h1, h2⟩ := hI.two
          obtain ⟨a, ar, rfl, hA, _⟩ := hS.head
          obtain ⟨b1, b2, hf, hl4⟩ := hb d List.mem_cons_self
          obtain ⟨b3, b4, _, _⟩ := hb e (List.mem_cons_of_mem _ List.mem_cons_self)
          refine ⟨_, rfl, pg, _, (0 : Nat), _, rfl, rfl, hg, i0, p, _, rfl, h1, rfl, _, _, rfl, _, _, rfl, rfl, ?_⟩
          refine ⟨_, rfl, fun HI1 si1 => ⟨_, rfl, iteFd (show decide (("min" : Str) ∈ (["neg", "clamp", "shift"] : List Str)) = false by decide +kernel) ?_⟩⟩
          refine ⟨_, rfl, fun HI2 si2 => ⟨_, rfl, iteFd (show decide (("min" : Str) ∈ (["less", "equal"] : List Str)) = false by decide +kernel) ?_⟩⟩
          have st2 := si1.trans si2
          refine ⟨_, rfl, rfl, _, rfl, iteFd (show decide (V.str "min" = V.str "where") = false by decide +kernel) ?_⟩
          refine ⟨_, rfl, rfl, _, rfl, iteFd (show decide (V.str "min" = V.str "sum") = false by decide +kernel) ?_⟩
          refine ⟨_, rfl, rfl, _, rfl, iteFd (show decide (V.str "min" = V.str "pad") = false by decide +kernel) ?_⟩
          refine ⟨_, rfl, rfl, _, rfl, iteFd (show decide (V.str "min" = V.str "fold") = false by decide +kernel) ?_⟩
          refine ⟨_, rfl, pg, _, rfl, .inl (sqL_same hg st2), rfl, _, rfl, iteFd (show decide (V.int ((2 : Nat) : Int) = V.int 1) = false by decide +kernel) ?_⟩
          refine ⟨_, rfl, rfl, _, rfl, iteFd (show decide (V.str "min" = V.str "gather") = false by decide +kernel) ?_⟩
          refine ⟨_, rfl, pg, _, (1 : Nat), _, rfl, rfl, sqL_same hg st2, i1, p2, _, rfl, sqT_same h2 st2, rfl, _, _, rfl, _, _, rfl, rfl, ?_⟩
          refine ⟨_, rfl, rfl, _, rfl, iteFd (show decide (V.str "min" = V.str "add") = false by decide +kernel) ?_⟩
          refine ⟨_, rfl, rfl, _, rfl, iteFd (show decide (V.str "min" = V.str "sub") = false by decide +kernel) ?_⟩
          refine ⟨_, rfl, rfl, _, rfl, iteFd (show decide (V.str "min" = V.str "max") = false by decide +kernel) ?_⟩
          refine ⟨_, rfl, rfl, _, rfl, iteTd (show decide (V.str "min" = V.str "min") = true by decide +kernel) ?_⟩
          exact ⟨_, rfl, _, rfl, _, _, rfl, _, rfl, _, rfl, _, _, rfl, two_line, fun px np => q _ px (st2.trans (same_upd np)) (SqT.of upd_same)⟩
      | less =>
        match ds, hlen, hS, hI, hb, q with
        | [d, e], _, hS, hI, hb, q =>
          obtain ⟨p, p2, rfl, h1, h2⟩ := hI.two
          obtain ⟨a, ar, rfl, hA, _⟩ := hS.head
          obtain ⟨b1, b2, hf, hl4⟩ := hb d List.mem_cons_self
          obtain ⟨b3, b4, _, _⟩ := hb e (List.mem_cons_of_mem _ List.mem_cons_self)
          refine ⟨_, rfl, pg, _, (0 : Nat), _, rfl, rfl, hg, i0, p, _, rfl, h1, rfl, _, _, rfl, _, _, rfl, rfl, ?_⟩
          refine ⟨_, rfl, fun HI1 si1 => ⟨_, rfl, iteFd (show decide (("less" : Str) ∈ (["neg", "clamp", "shift"] : List Str)) = false by decide +kernel) ?_⟩⟩
          refine ⟨_, rfl, fun HI2 si2 => ⟨_, rfl, iteTd (show decide (("less" : Str) ∈ (["less", "equal"] : List Str)) = true by decide +kernel) ?_⟩⟩
          have st2 := si1.trans si2
          exact ⟨two_line, fun px np => q _ px (st2.trans (same_upd np)) (SqT.of upd_same)⟩
      | equal =>
        match ds, hlen, hS, hI, hb, q with
        | [d, e], _, hS, hI, hb, q =>
          obtain ⟨p, p2, rfl, h1, h2⟩ := hI.two
          obtain ⟨a, ar, rfl, hA, _⟩ := hS.head
          obtain ⟨b1, b2, hf, hl4⟩ := hb d List.mem_cons_self
          obtain ⟨b3, b4, _, _⟩ := hb e (List.mem_cons_of_mem _ List.mem_cons_self)
          refine ⟨_, rfl, pg, _, (0 : Nat), _, rfl, rfl, hg, i0, p, _, rfl, h1, rfl, _, _, rfl, _, _, rfl, rfl, ?_⟩
          refine ⟨_, rfl, fun HI1 si1 => ⟨_, rfl, iteFd (show decide (("equal" : Str) ∈ (["neg", "clamp", "shift"] : List Str)) = false by decide +kernel) ?_⟩⟩
          refine ⟨_, rfl, fun HI2 si2 => ⟨_, rfl, iteTd (show decide (("equal" : Str) ∈ (["less", "equal"] : List Str)) = true by decide +kernel) ?_⟩⟩
          have st2 := si1.trans si2
          exact ⟨two_line, fun px np => q _ px (st2.trans (same_upd np)) (SqT.of upd_same)⟩
      | neg =>
        match ds, hlen, hS, hI, hb, q with
        | [d], _, hS, hI, hb, q =>
          obtain ⟨p, rfl, h1⟩ := hI.one
          obtain ⟨a, ar, rfl, hA, _⟩ := hS.head
          obtain ⟨b1, b2, hf, hl4⟩ := hb d List.mem_cons_self
          refine ⟨_, rfl, pg, _, (0 : Nat), _, rfl, rfl, hg, i0, p, _, rfl, h1, rfl, _, _, rfl, _, _, rfl, rfl, ?_⟩
          refine ⟨_, rfl, fun HI1 si1 => ⟨_, rfl, iteTd (show decide (("neg" : Str) ∈ (["neg", "clamp", "shift"] : List Str)) = true by decide +kernel) ?_⟩⟩
          have hi' := hi
          have one_line : 1 ≤ sizeLine := by decide
          refine ⟨_, rfl, _, rfl, one_line, fun t1 n1 => ⟨_, rfl, _, t1, pi, d.lo, ptB .neg d.lo, rfl, SqT.of upd_same, .inl ⟨rfl, rfl⟩, ?_⟩⟩
          have s1 := si1.trans (same_upd (o := .tup [.int d.lo]) n1)
          refine ⟨_, rfl, _, rfl, one_line, fun t2 n2 => ⟨_, rfl, _, t2, pi, d.hi, ptB .neg d.hi, rfl, SqT.of upd_same, .inl ⟨rfl, rfl⟩, two_line, fun pe npe => ?_⟩⟩
          have s2 := s1.trans (same_upd (o := .tup [.int d.hi]) n2)
          have s3 := s2.trans (same_upd (o := .lst [.int (ptB .neg d.lo), .int (ptB .neg d.hi)]) npe)
          refine ⟨_, rfl, pe, [ptB .neg d.lo, ptB .neg d.hi], rfl, SqL.of upd_same, (by show 0 < 2; decide), fun m1 e1 e2 => ⟨_, rfl, pe, [ptB .neg d.lo, ptB .neg d.hi], rfl, SqL.of upd_same, (by show 0 < 2; decide), fun m2 e3 e4 => ⟨two_line, fun p5 np5 => ?_⟩⟩⟩
          rw [lst_is e1 e2, grt_is e3 e4]
          exact q _ p5 (s3.trans (same_upd np5)) (SqT.of upd_same)
      | clamp cl ch =>
        match ds, hlen, hS, hI, hb, q with
        | [d], _, hS, hI, hb, q =>
          obtain ⟨p, rfl, h1⟩ := hI.one
          obtain ⟨a, ar, rfl, hA, _⟩ := hS.head
          obtain ⟨b1, b2, hf, hl4⟩ := hb d List.mem_cons_self
          refine ⟨_, rfl, pg, _, (0 : Nat), _, rfl, rfl, hg, i0, p, _, rfl, h1, rfl, _, _, rfl, _, _, rfl, rfl, ?_⟩
          refine ⟨_, rfl, fun HI1 si1 => ⟨_, rfl, iteTd (show decide (("clamp" : Str) ∈ (["neg", "clamp", "shift"] : List Str)) = true by decide +kernel) ?_⟩⟩
          have hi' := hi
          have one_line : 1 ≤ sizeLine := by decide
          refine ⟨_, rfl, _, rfl, one_line, fun t1 n1 => ⟨_, rfl, _, t1, pi, d.lo, ptB (.clamp cl ch) d.lo, rfl, SqT.of upd_same, .inr (.inl ⟨rfl, cl, ch, sqT_same hi' (si1.trans (same_upd n1)), rfl⟩), ?_⟩⟩
          have s1 := si1.trans (same_upd (o := .tup [.int d.lo]) n1)
          refine ⟨_, rfl, _, rfl, one_line, fun t2 n2 => ⟨_, rfl, _, t2, pi, d.hi, ptB (.clamp cl ch) d.hi, rfl, SqT.of upd_same, .inr (.inl ⟨rfl, cl, ch, sqT_same hi' (s1.trans (same_upd n2)), rfl⟩), two_line, fun pe npe => ?_⟩⟩
          have s2 := s1.trans (same_upd (o := .tup [.int d.hi]) n2)
          have s3 := s2.trans (same_upd (o := .lst [.int (ptB (.clamp cl ch) d.lo), .int (ptB (.clamp cl ch) d.hi)]) npe)
          refine ⟨_, rfl, pe, [ptB (.clamp cl ch) d.lo, ptB (.clamp cl ch) d.hi], rfl, SqL.of upd_same, (by show 0 < 2; decide), fun m1 e1 e2 => ⟨_, rfl, pe, [ptB (.clamp cl ch) d.lo, ptB (.clamp cl ch) d.hi], rfl, SqL.of upd_same, (by show 0 < 2; decide), fun m2 e3 e4 => ⟨two_line, fun p5 np5 => ?_⟩⟩⟩
          rw [lst_is e1 e2, grt_is e3 e4]
          exact q _ p5 (s3.trans (same_upd np5)) (SqT.of upd_same)
      | shift n =>
        match ds, hlen, hS, hI, hb, q with
        | [d], _, hS, hI, hb, q =>
          obtain ⟨p, rfl, h1⟩ := hI.one
          obtain ⟨a, ar, rfl, hA, _⟩ := hS.head
          obtain ⟨b1, b2, hf, hl4⟩ := hb d List.mem_cons_self
          refine ⟨_, rfl, pg, _, (0 : Nat), _, rfl, rfl, hg, i0, p, _, rfl, h1, rfl, _, _, rfl, _, _, rfl, rfl, ?_⟩
          refine ⟨_, rfl, fun HI1 si1 => ⟨_, rfl, iteTd (show decide (("shift" : Str) ∈ (["neg", "clamp", "shift"] : List Str)) = true by decide +kernel) ?_⟩⟩
          have hi' := hi
          have one_line : 1 ≤ sizeLine := by decide
          refine ⟨_, rfl, _, rfl, one_line, fun t1 n1 => ⟨_, rfl, _, t1, pi, d.lo, ptB (.shift n) d.lo, rfl, SqT.of upd_same, .inr (.inr ⟨rfl, n, sqT_same hi' (si1.trans (same_upd n1)), hdn.1, hdn.2, rfl⟩), ?_⟩⟩
          have s1 := si1.trans (same_upd (o := .tup [.int d.lo]) n1)
          refine ⟨_, rfl, _, rfl, one_line, fun t2 n2 => ⟨_, rfl, _, t2, pi, d.hi, ptB (.shift n) d.hi, rfl, SqT.of upd_same, .inr (.inr ⟨rfl, n, sqT_same hi' (s1.trans (same_upd n2)), hdn.1, hdn.2, rfl⟩), two_line, fun pe npe => ?_⟩⟩
          have s2 := s1.trans (same_upd (o := .tup [.int d.hi]) n2)
          have s3 := s2.trans (same_upd (o := .lst [.int (ptB (.shift n) d.lo), .int (ptB (.shift n) d.hi)]) npe)
          refine ⟨_, rfl, pe, [ptB (.shift n) d.lo, ptB (.shift n) d.hi], rfl, SqL.of upd_same, (by show 0 < 2; decide), fun m1 e1 e2 => ⟨_, rfl, pe, [ptB (.shift n) d.lo, ptB (.shift n) d.hi], rfl, SqL.of upd_same, (by show 0 < 2; decide), fun m2 e3 e4 => ⟨two_line, fun p5 np5 => ?_⟩⟩⟩
          rw [lst_is e1 e2, grt_is e3 e4]
          exact q _ p5 (s3.trans (same_upd np5)) (SqT.of upd_same)
      | wher =>
        match ds, hlen, hS, hI, hb, q with
        | [d, e, g], _, hS, hI, hb, q =>
          obtain ⟨p, p2, p3, rfl, h1, h2, h3⟩ := hI.three
          obtain ⟨a, ar, rfl, hA, _⟩ := hS.head
          obtain ⟨b1, b2, hf, hl4⟩ := hb d List.mem_cons_self
          obtain ⟨b3, b4, _, _⟩ := hb e (List.mem_cons_of_mem _ List.mem_cons_self)
          refine ⟨_, rfl, pg, _, (0 : Nat), _, rfl, rfl, hg, i0, p, _, rfl, h1, rfl, _, _, rfl, _, _, rfl, rfl, ?_⟩
          refine ⟨_, rfl, fun HI1 si1 => ⟨_, rfl, iteFd (show decide (("where" : Str) ∈ (["neg", "clamp", "shift"] : List Str)) = false by decide +kernel) ?_⟩⟩
          refine ⟨_, rfl, fun HI2 si2 => ⟨_, rfl, iteFd (show decide (("where" : Str) ∈ (["less", "equal"] : List Str)) = false by decide +kernel) ?_⟩⟩
          have st2 := si1.trans si2
          refine ⟨_, rfl, rfl, _, rfl, iteTd (show decide (V.str "where" = V.str "where") = true by decide +kernel) ?_⟩
          exact ⟨_, rfl, pg, _, (1 : Nat), _, rfl, rfl, sqL_same hg st2, i1, p2, _, (0 : Nat), _, rfl, rfl, sqT_same h2 st2, i0, _, rfl, pg, _, (2 : Nat), _, rfl, rfl, sqL_same hg st2, i2, p3, _, (0 : Nat), _, rfl, rfl, sqT_same h3 st2, i0, _, _, rfl,
            _, rfl, pg, _, (1 : Nat), _, rfl, rfl, sqL_same hg st2, i1, p2, _, (1 : Nat), _, rfl, rfl, sqT_same h2 st2, i1, _, rfl, pg, _, (2 : Nat), _, rfl, rfl, sqL_same hg st2, i2, p3, _, (1 : Nat), _, rfl, rfl, sqT_same h3 st2, i1, _, _, rfl, two_line, fun px np => q _ px (st2.trans (same_upd np)) (SqT.of upd_same)⟩
    | dot l args =>
      match ds, hlen, hS, hI, hb, q with
      | [d, e], _, hS, hI, hb, q =>
        obtain ⟨p, p2, rfl, h1, h2⟩ := hI.two
        obtain ⟨a, ar, rfl, hA, _⟩ := hS.head
        obtain ⟨b1, b2, hf, hl4⟩ := hb d List.mem_cons_self
        obtain ⟨b3, b4, _, _⟩ := hb e (List.mem_cons_of_mem _ List.mem_cons_self)
        refine ⟨_, rfl, pg, _, (0 : Nat), _, rfl, rfl, hg, i0, p, _, rfl, h1, rfl, _, _, rfl, _, _, rfl, rfl, ?_⟩
        refine ⟨_, rfl, fun HI1 si1 => ⟨_, rfl, iteFd (show decide (("dot" : Str) ∈ (["neg", "clamp", "shift"] : List Str)) = false by decide +kernel) ?_⟩⟩
        refine ⟨_, rfl, fun HI2 si2 => ⟨_, rfl, iteFd (show decide (("dot" : Str) ∈ (["less", "equal"] : List Str)) = false by decide +kernel) ?_⟩⟩
        have st2 := si1.trans si2
        refine ⟨_, rfl, rfl, _, rfl, iteFd (show decide (V.str "dot" = V.str "where") = false by decide +kernel) ?_⟩
        refine ⟨_, rfl, rfl, _, rfl, iteFd (show decide (V.str "dot" = V.str "sum") = false by decide +kernel) ?_⟩
        refine ⟨_, rfl, rfl, _, rfl, iteFd (show decide (V.str "dot" = V.str "pad") = false by decide +kernel) ?_⟩
        refine ⟨_, rfl, rfl, _, rfl, iteFd (show decide (V.str "dot" = V.str "fold") = false by decide +kernel) ?_⟩
        refine ⟨_, rfl, pg, _, rfl, .inl (sqL_same hg st2), rfl, _, rfl, iteFd (show decide (V.int ((2 : Nat) : Int) = V.int 1) = false by decide +kernel) ?_⟩
        refine ⟨_, rfl, rfl, _, rfl, iteFd (show decide (V.str "dot" = V.str "gather") = false by decide +kernel) ?_⟩
        refine ⟨_, rfl, pg, _, (1 : Nat), _, rfl, rfl, sqL_same hg st2, i1, p2, _, rfl, sqT_same h2 st2, rfl, _, _, rfl, _, _, rfl, rfl, ?_⟩
        refine ⟨_, rfl, rfl, _, rfl, iteFd (show decide (V.str "dot" = V.str "add") = false by decide +kernel) ?_⟩
        refine ⟨_, rfl, rfl, _, rfl, iteFd (show decide (V.str "dot" = V.str "sub") = false by decide +kernel) ?_⟩
        refine ⟨_, rfl, rfl, _, rfl, iteFd (show decide (V.str "dot" = V.str "max") = false by decide +kernel) ?_⟩
        refine ⟨_, rfl, rfl, _, rfl, iteFd (show decide (V.str "dot" = V.str "min") = false by decide +kernel) ?_⟩
        refine ⟨_, rfl, rfl, _, rfl, iteFd (show decide (V.str "dot" = V.str "join") = false by decide +kernel) ?_⟩
        refine ⟨_, rfl, pg, _, (0 : Nat), _, rfl, rfl, sqL_same hg st2, i0, _, rfl, pg, _, (1 : Nat), _, rfl, rfl, sqL_same hg st2, i1, p, p2, _, _, _, _, rfl, sqT_same h1 st2, sqT_same h2 st2, b1, b2, b3, b4, fun H4 p4 s4 hp4 => ?_⟩
        refine ⟨p4, _, rfl, hp4, rfl, _, _, rfl, _, _, rfl, rfl, ?_⟩
        have sf := st2.trans s4
        have hne : corn d.lo d.hi e.lo e.hi ≠ [] := List.cons_ne_nil _ _
        have cc : ∀ {x y : Int}, Bg 300 x → Bg 600 y → CMulW x y := fun a b => Bg.cmul a b (by decide) (by decide) (by decide)
        refine ⟨_, rfl, rfl, _, rfl, iteTd (show decide (V.str "dot" = V.str "dot") = true by decide +kernel) ?_⟩
        refine ⟨_, rfl, ps, _, (0 : Nat), _, rfl, rfl, sqL_same hps sf, i0, _, rfl, pi, _, (0 : Nat), _, rfl, rfl, sqT_same hi sf, i0, a, d.sh, l, rfl, hA.same sf, ?_⟩
        exact ⟨_, rfl, _, rfl, _, _, rfl, rfl, cc (bg_sz hf l) (corn_bg b1 b2 b3 b4 (lst_mem _ hne)), _, rfl, _, rfl, _, _, rfl, rfl, cc (bg_sz hf l) (corn_bg b1 b2 b3 b4 (grt_mem _ hne)), two_line, fun px np => q _ px (sf.trans (same_upd np)) (SqT.of upd_same)⟩
    | mv k args =>
      cases k with
      | sum l =>
        match ds, hlen, hS, hI, hb, q with
        | [d], _, hS, hI, hb, q =>
          obtain ⟨p, rfl, h1⟩ := hI.one
          obtain ⟨a, ar, rfl, hA, _⟩ := hS.head
          obtain ⟨b1, b2, hf, hl4⟩ := hb d List.mem_cons_self
          refine ⟨_, rfl, pg, _, (0 : Nat), _, rfl, rfl, hg, i0, p, _, rfl, h1, rfl, _, _, rfl, _, _, rfl, rfl, ?_⟩
          refine ⟨_, rfl, fun HI1 si1 => ⟨_, rfl, iteFd (show decide (("sum" : Str) ∈ (["neg", "clamp", "shift"] : List Str)) = false by decide +kernel) ?_⟩⟩
          refine ⟨_, rfl, fun HI2 si2 => ⟨_, rfl, iteFd (show decide (("sum" : Str) ∈ (["less", "equal"] : List Str)) = false by decide +kernel) ?_⟩⟩
          have st2 := si1.trans si2
          refine ⟨_, rfl, rfl, _, rfl, iteFd (show decide (V.str "sum" = V.str "where") = false by decide +kernel) ?_⟩
          refine ⟨_, rfl, rfl, _, rfl, iteTd (show decide (V.str "sum" = V.str "sum") = true by decide +kernel) ?_⟩
          refine ⟨_, rfl, ps, _, (0 : Nat), _, rfl, rfl, sqL_same hps st2, i0, _, rfl, pi, _, (0 : Nat), _, rfl, rfl, sqT_same hi st2, i0, a, d.sh, l, rfl, hA.same st2, ?_⟩
          exact ⟨_, rfl, _, rfl, _, _, rfl, rfl, c (bg_sz hf l) b1, _, rfl, _, rfl, _, _, rfl, rfl, c (bg_sz hf l) b2, two_line, fun px np => q _ px (st2.trans (same_upd np)) (SqT.of upd_same)⟩
      | peak l =>
        match ds, hlen, hS, hI, hb, q with
        | [d], _, hS, hI, hb, q =>
          obtain ⟨p, rfl, h1⟩ := hI.one
          obtain ⟨a, ar, rfl, hA, _⟩ := hS.head
          obtain ⟨b1, b2, hf, hl4⟩ := hb d List.mem_cons_self
          refine ⟨_, rfl, pg, _, (0 : Nat), _, rfl, rfl, hg, i0, p, _, rfl, h1, rfl, _, _, rfl, _, _, rfl, rfl, ?_⟩
          refine ⟨_, rfl, fun HI1 si1 => ⟨_, rfl, iteFd (show decide (("peak" : Str) ∈ (["neg", "clamp", "shift"] : List Str)) = false by decide +kernel) ?_⟩⟩
          refine ⟨_, rfl, fun HI2 si2 => ⟨_, rfl, iteFd (show decide (("peak" : Str) ∈ (["less", "equal"] : List Str)) = false by decide +kernel) ?_⟩⟩
          have st2 := si1.trans si2
          refine ⟨_, rfl, rfl, _, rfl, iteFd (show decide (V.str "peak" = V.str "where") = false by decide +kernel) ?_⟩
          refine ⟨_, rfl, rfl, _, rfl, iteFd (show decide (V.str "peak" = V.str "sum") = false by decide +kernel) ?_⟩
          refine ⟨_, rfl, rfl, _, rfl, iteFd (show decide (V.str "peak" = V.str "pad") = false by decide +kernel) ?_⟩
          refine ⟨_, rfl, rfl, _, rfl, iteFd (show decide (V.str "peak" = V.str "fold") = false by decide +kernel) ?_⟩
          refine ⟨_, rfl, pg, _, rfl, .inl (sqL_same hg st2), rfl, _, rfl, iteTd rfl ?_⟩
          exact ⟨_, rfl, _, rfl, two_line, fun px np => q _ px (st2.trans (same_upd np)) (SqT.of upd_same)⟩
      | order ls =>
        match ds, hlen, hS, hI, hb, q with
        | [d], _, hS, hI, hb, q =>
          obtain ⟨p, rfl, h1⟩ := hI.one
          obtain ⟨a, ar, rfl, hA, _⟩ := hS.head
          obtain ⟨b1, b2, hf, hl4⟩ := hb d List.mem_cons_self
          refine ⟨_, rfl, pg, _, (0 : Nat), _, rfl, rfl, hg, i0, p, _, rfl, h1, rfl, _, _, rfl, _, _, rfl, rfl, ?_⟩
          refine ⟨_, rfl, fun HI1 si1 => ⟨_, rfl, iteFd (show decide (("order" : Str) ∈ (["neg", "clamp", "shift"] : List Str)) = false by decide +kernel) ?_⟩⟩
          refine ⟨_, rfl, fun HI2 si2 => ⟨_, rfl, iteFd (show decide (("order" : Str) ∈ (["less", "equal"] : List Str)) = false by decide +kernel) ?_⟩⟩
          have st2 := si1.trans si2
          refine ⟨_, rfl, rfl, _, rfl, iteFd (show decide (V.str "order" = V.str "where") = false by decide +kernel) ?_⟩
          refine ⟨_, rfl, rfl, _, rfl, iteFd (show decide (V.str "order" = V.str "sum") = false by decide +kernel) ?_⟩
          refine ⟨_, rfl, rfl, _, rfl, iteFd (show decide (V.str "order" = V.str "pad") = false by decide +kernel) ?_⟩
          refine ⟨_, rfl, rfl, _, rfl, iteFd (show decide (V.str "order" = V.str "fold") = false by decide +kernel) ?_⟩
          refine ⟨_, rfl, pg, _, rfl, .inl (sqL_same hg st2), rfl, _, rfl, iteTd rfl ?_⟩
          exact ⟨_, rfl, _, rfl, two_line, fun px np => q _ px (st2.trans (same_upd np)) (SqT.of upd_same)⟩
      | rename l m =>
        match ds, hlen, hS, hI, hb, q with
        | [d], _, hS, hI, hb, q =>
          obtain ⟨p, rfl, h1⟩ := hI.one
          obtain ⟨a, ar, rfl, hA, _⟩ := hS.head
          obtain ⟨b1, b2, hf, hl4⟩ := hb d List.mem_cons_self
          refine ⟨_, rfl, pg, _, (0 : Nat), _, rfl, rfl, hg, i0, p, _, rfl, h1, rfl, _, _, rfl, _, _, rfl, rfl, ?_⟩
          refine ⟨_, rfl, fun HI1 si1 => ⟨_, rfl, iteFd (show decide (("rename" : Str) ∈ (["neg", "clamp", "shift"] : List Str)) = false by decide +kernel) ?_⟩⟩
          refine ⟨_, rfl, fun HI2 si2 => ⟨_, rfl, iteFd (show decide (("rename" : Str) ∈ (["less", "equal"] : List Str)) = false by decide +kernel) ?_⟩⟩
          have st2 := si1.trans si2
          refine ⟨_, rfl, rfl, _, rfl, iteFd (show decide (V.str "rename" = V.str "where") = false by decide +kernel) ?_⟩
          refine ⟨_, rfl, rfl, _, rfl, iteFd (show decide (V.str "rename" = V.str "sum") = false by decide +kernel) ?_⟩
          refine ⟨_, rfl, rfl, _, rfl, iteFd (show decide (V.str "rename" = V.str "pad") = false by decide +kernel) ?_⟩
          refine ⟨_, rfl, rfl, _, rfl, iteFd (show decide (V.str "rename" = V.str "fold") = false by decide +kernel) ?_⟩
          refine ⟨_, rfl, pg, _, rfl, .inl (sqL_same hg st2), rfl, _, rfl, iteTd rfl ?_⟩
          exact ⟨_, rfl, _, rfl, two_line, fun px np => q _ px (st2.trans (same_upd np)) (SqT.of upd_same)⟩
      | spread l zz =>
        match ds, hlen, hS, hI, hb, q with
        | [d], _, hS, hI, hb, q =>
          obtain ⟨p, rfl, h1⟩ := hI.one
          obtain ⟨a, ar, rfl, hA, _⟩ := hS.head
          obtain ⟨b1, b2, hf, hl4⟩ := hb d List.mem_cons_self
          refine ⟨_, rfl, pg, _, (0 : Nat), _, rfl, rfl, hg, i0, p, _, rfl, h1, rfl, _, _, rfl, _, _, rfl, rfl, ?_⟩
          refine ⟨_, rfl, fun HI1 si1 => ⟨_, rfl, iteFd (show decide (("spread" : Str) ∈ (["neg", "clamp", "shift"] : List Str)) = false by decide +kernel) ?_⟩⟩
          refine ⟨_, rfl, fun HI2 si2 => ⟨_, rfl, iteFd (show decide (("spread" : Str) ∈ (["less", "equal"] : List Str)) = false by decide +kernel) ?_⟩⟩
          have st2 := si1.trans si2
          refine ⟨_, rfl, rfl, _, rfl, iteFd (show decide (V.str "spread" = V.str "where") = false by decide +kernel) ?_⟩
          refine ⟨_, rfl, rfl, _, rfl, iteFd (show decide (V.str "spread" = V.str "sum") = false by decide +kernel) ?_⟩
          refine ⟨_, rfl, rfl, _, rfl, iteFd (show decide (V.str "spread" = V.str "pad") = false by decide +kernel) ?_⟩
          refine ⟨_, rfl, rfl, _, rfl, iteFd (show decide (V.str "spread" = V.str "fold") = false by decide +kernel) ?_⟩
          refine ⟨_, rfl, pg, _, rfl, .inl (sqL_same hg st2), rfl, _, rfl, iteTd rfl ?_⟩
          exact ⟨_, rfl, _, rfl, two_line, fun px np => q _ px (st2.trans (same_upd np)) (SqT.of upd_same)⟩
      | cut l st ct =>
        match ds, hlen, hS, hI, hb, q with
        | [d], _, hS, hI, hb, q =>
          obtain ⟨p, rfl, h1⟩ := hI.one
          obtain ⟨a, ar, rfl, hA, _⟩ := hS.head
          obtain ⟨b1, b2, hf, hl4⟩ := hb d List.mem_cons_self
          refine ⟨_, rfl, pg, _, (0 : Nat), _, rfl, rfl, hg, i0, p, _, rfl, h1, rfl, _, _, rfl, _, _, rfl, rfl, ?_⟩
          refine ⟨_, rfl, fun HI1 si1 => ⟨_, rfl, iteFd (show decide (("cut" : Str) ∈ (["neg", "clamp", "shift"] : List Str)) = false by decide +kernel) ?_⟩⟩
          refine ⟨_, rfl, fun HI2 si2 => ⟨_, rfl, iteFd (show decide (("cut" : Str) ∈ (["less", "equal"] : List Str)) = false by decide +kernel) ?_⟩⟩
          have st2 := si1.trans si2
          refine ⟨_, rfl, rfl, _, rfl, iteFd (show decide (V.str "cut" = V.str "where") = false by decide +kernel) ?_⟩
          refine ⟨_, rfl, rfl, _, rfl, iteFd (show decide (V.str "cut" = V.str "sum") = false by decide +kernel) ?_⟩
          refine ⟨_, rfl, rfl, _, rfl, iteFd (show decide (V.str "cut" = V.str "pad") = false by decide +kernel) ?_⟩
          refine ⟨_, rfl, rfl, _, rfl, iteFd (show decide (V.str "cut" = V.str "fold") = false by decide +kernel) ?_⟩
          refine ⟨_, rfl, pg, _, rfl, .inl (sqL_same hg st2), rfl, _, rfl, iteTd rfl ?_⟩
          exact ⟨_, rfl, _, rfl, two_line, fun px np => q _ px (st2.trans (same_upd np)) (SqT.of upd_same)⟩
      | pad l bb cc =>
        match ds, hlen, hS, hI, hb, q with
        | [d], _, hS, hI, hb, q =>
          obtain ⟨p, rfl, h1⟩ := hI.one
          obtain ⟨a, ar, rfl, hA, _⟩ := hS.head
          obtain ⟨b1, b2, hf, hl4⟩ := hb d List.mem_cons_self
          refine ⟨_, rfl, pg, _, (0 : Nat), _, rfl, rfl, hg, i0, p, _, rfl, h1, rfl, _, _, rfl, _, _, rfl, rfl, ?_⟩
          refine ⟨_, rfl, fun HI1 si1 => ⟨_, rfl, iteFd (show decide (("pad" : Str) ∈ (["neg", "clamp", "shift"] : List Str)) = false by decide +kernel) ?_⟩⟩
          refine ⟨_, rfl, fun HI2 si2 => ⟨_, rfl, iteFd (show decide (("pad" : Str) ∈ (["less", "equal"] : List Str)) = false by decide +kernel) ?_⟩⟩
          have st2 := si1.trans si2
          refine ⟨_, rfl, rfl, _, rfl, iteFd (show decide (V.str "pad" = V.str "where") = false by decide +kernel) ?_⟩
          refine ⟨_, rfl, rfl, _, rfl, iteFd (show decide (V.str "pad" = V.str "sum") = false by decide +kernel) ?_⟩
          refine ⟨_, rfl, rfl, _, rfl, iteTd (show decide (V.str "pad" = V.str "pad") = true by decide +kernel) ?_⟩
          exact ⟨_, rfl, _, _, rfl, _, rfl, _, _, rfl, two_line, fun px np => q _ px (st2.trans (same_upd np)) (SqT.of upd_same)⟩
      | join l =>
        match ds, hlen, hS, hI, hb, q with
        | [d, e], _, hS, hI, hb, q =>
          obtain ⟨p, p2, rfl, h1, h2⟩ := hI.two
          obtain ⟨a, ar, rfl, hA, _⟩ := hS.head
          obtain ⟨b1, b2, hf, hl4⟩ := hb d List.mem_cons_self
          obtain ⟨b3, b4, _, _⟩ := hb e (List.mem_cons_of_mem _ List.mem_cons_self)
          refine ⟨_, rfl, pg, _, (0 : Nat), _, rfl, rfl, hg, i0, p, _, rfl, h1, rfl, _, _, rfl, _, _, rfl, rfl, ?_⟩
          refine ⟨_, rfl, fun HI1 si1 => ⟨_, rfl, iteFd (show decide (("join" : Str) ∈ (["neg", "clamp", "shift"] : List Str)) = false by decide +kernel) ?_⟩⟩
          refine ⟨_, rfl, fun HI2 si2 => ⟨_, rfl, iteFd (show decide (("join" : Str) ∈ (["less", "equal"] : List Str)) = false by decide +kernel) ?_⟩⟩
          have st2 := si1.trans si2
          refine ⟨_, rfl, rfl, _, rfl, iteFd (show decide (V.str "join" = V.str "where") = false by decide +kernel) ?_⟩
          refine ⟨_, rfl, rfl, _, rfl, iteFd (show decide (V.str "join" = V.str "sum") = false by decide +kernel) ?_⟩
          refine ⟨_, rfl, rfl, _, rfl, iteFd (show decide (V.str "join" = V.str "pad") = false by decide +kernel) ?_⟩
          refine ⟨_, rfl, rfl, _, rfl, iteFd (show decide (V.str "join" = V.str "fold") = false by decide +kernel) ?_⟩
          refine ⟨_, rfl, pg, _, rfl, .inl (sqL_same hg st2), rfl, _, rfl, iteFd (show decide (V.int ((2 : Nat) : Int) = V.int 1) = false by decide +kernel) ?_⟩
          refine ⟨_, rfl, rfl, _, rfl, iteFd (show decide (V.str "join" = V.str "gather") = false by decide +kernel) ?_⟩
          refine ⟨_, rfl, pg, _, (1 : Nat), _, rfl, rfl, sqL_same hg st2, i1, p2, _, rfl, sqT_same h2 st2, rfl, _, _, rfl, _, _, rfl, rfl, ?_⟩
          refine ⟨_, rfl, rfl, _, rfl, iteFd (show decide (V.str "join" = V.str "add") = false by decide +kernel) ?_⟩
          refine ⟨_, rfl, rfl, _, rfl, iteFd (show decide (V.str "join" = V.str "sub") = false by decide +kernel) ?_⟩
          refine ⟨_, rfl, rfl, _, rfl, iteFd (show decide (V.str "join" = V.str "max") = false by decide +kernel) ?_⟩
          refine ⟨_, rfl, rfl, _, rfl, iteFd (show decide (V.str "join" = V.str "min") = false by decide +kernel) ?_⟩
          refine ⟨_, rfl, rfl, _, rfl, iteTd (show decide (V.str "join" = V.str "join") = true by decide +kernel) ?_⟩
          exact ⟨_, rfl, _, rfl, _, _, rfl, _, rfl, _, rfl, _, _, rfl, two_line, fun px np => q _ px (st2.trans (same_upd np)) (SqT.of upd_same)⟩
      | window l m wd st =>
        match ds, hlen, hS, hI, hb, q with
        | [d], _, hS, hI, hb, q =>
          obtain ⟨p, rfl, h1⟩ := hI.one
          obtain ⟨a, ar, rfl, hA, _⟩ := hS.head
          obtain ⟨b1, b2, hf, hl4⟩ := hb d List.mem_cons_self
          refine ⟨_, rfl, pg, _, (0 : Nat), _, rfl, rfl, hg, i0, p, _, rfl, h1, rfl, _, _, rfl, _, _, rfl, rfl, ?_⟩
          refine ⟨_, rfl, fun HI1 si1 => ⟨_, rfl, iteFd (show decide (("window" : Str) ∈ (["neg", "clamp", "shift"] : List Str)) = false by decide +kernel) ?_⟩⟩
          refine ⟨_, rfl, fun HI2 si2 => ⟨_, rfl, iteFd (show decide (("window" : Str) ∈ (["less", "equal"] : List Str)) = false by decide +kernel) ?_⟩⟩
          have st2 := si1.trans si2
          refine ⟨_, rfl, rfl, _, rfl, iteFd (show decide (V.str "window" = V.str "where") = false by decide +kernel) ?_⟩
          refine ⟨_, rfl, rfl, _, rfl, iteFd (show decide (V.str "window" = V.str "sum") = false by decide +kernel) ?_⟩
          refine ⟨_, rfl, rfl, _, rfl, iteFd (show decide (V.str "window" = V.str "pad") = false by decide +kernel) ?_⟩
          refine ⟨_, rfl, rfl, _, rfl, iteFd (show decide (V.str "window" = V.str "fold") = false by decide +kernel) ?_⟩
          refine ⟨_, rfl, pg, _, rfl, .inl (sqL_same hg st2), rfl, _, rfl, iteTd rfl ?_⟩
          exact ⟨_, rfl, _, rfl, two_line, fun px np => q _ px (st2.trans (same_upd np)) (SqT.of upd_same)⟩
      | fold l m st zz =>
        match ds, hlen, hS, hI, hb, q with
        | [d], _, hS, hI, hb, q =>
          obtain ⟨p, rfl, h1⟩ := hI.one
          obtain ⟨a, ar, rfl, hA, _⟩ := hS.head
          obtain ⟨b1, b2, hf, hl4⟩ := hb d List.mem_cons_self
          refine ⟨_, rfl, pg, _, (0 : Nat), _, rfl, rfl, hg, i0, p, _, rfl, h1, rfl, _, _, rfl, _, _, rfl, rfl, ?_⟩
          refine ⟨_, rfl, fun HI1 si1 => ⟨_, rfl, iteFd (show decide (("fold" : Str) ∈ (["neg", "clamp", "shift"] : List Str)) = false by decide +kernel) ?_⟩⟩
          refine ⟨_, rfl, fun HI2 si2 => ⟨_, rfl, iteFd (show decide (("fold" : Str) ∈ (["less", "equal"] : List Str)) = false by decide +kernel) ?_⟩⟩
          have st2 := si1.trans si2
          refine ⟨_, rfl, rfl, _, rfl, iteFd (show decide (V.str "fold" = V.str "where") = false by decide +kernel) ?_⟩
          refine ⟨_, rfl, rfl, _, rfl, iteFd (show decide (V.str "fold" = V.str "sum") = false by decide +kernel) ?_⟩
          refine ⟨_, rfl, rfl, _, rfl, iteFd (show decide (V.str "fold" = V.str "pad") = false by decide +kernel) ?_⟩
          refine ⟨_, rfl, rfl, _, rfl, iteTd (show decide (V.str "fold" = V.str "fold") = true by decide +kernel) ?_⟩
          refine ⟨_, rfl, ps, _, (0 : Nat), _, rfl, rfl, sqL_same hps st2, i0, _, rfl, pi, _, (1 : Nat), _, rfl, rfl, sqT_same hi st2, i1, a, d.sh, m, rfl, hA.same st2, ?_⟩
          exact ⟨_, rfl, _, rfl, _, _, rfl, rfl, c (bg_sz hf m) b1, _, _, rfl, _, rfl, _, rfl, _, _, rfl, rfl, c (bg_sz hf m) b2, _, _, rfl, two_line, fun px np => q _ px (st2.trans (same_upd np)) (SqT.of upd_same)⟩
      | gather l =>
        match ds, hlen, hS, hI, hb, q with
        | [d, e], _, hS, hI, hb, q =>
          obtain ⟨p, p2, rfl, h1, h2⟩ := hI.two
          obtain ⟨a, ar, rfl, hA, _⟩ := hS.head
          obtain ⟨b1, b2, hf, hl4⟩ := hb d List.mem_cons_self
          obtain ⟨b3, b4, _, _⟩ := hb e (List.mem_cons_of_mem _ List.mem_cons_self)
          refine ⟨_, rfl, pg, _, (0 : Nat), _, rfl, rfl, hg, i0, p, _, rfl, h1, rfl, _, _, rfl, _, _, rfl, rfl, ?_⟩
          refine ⟨_, rfl, fun HI1 si1 => ⟨_, rfl, iteFd (show decide (("gather" : Str) ∈ (["neg", "clamp", "shift"] : List Str)) = false by decide +kernel) ?_⟩⟩
          refine ⟨_, rfl, fun HI2 si2 => ⟨_, rfl, iteFd (show decide (("gather" : Str) ∈ (["less", "equal"] : List Str)) = false by decide +kernel) ?_⟩⟩
          have st2 := si1.trans si2
          refine ⟨_, rfl, rfl, _, rfl, iteFd (show decide (V.str "gather" = V.str "where") = false by decide +kernel) ?_⟩
          refine ⟨_, rfl, rfl, _, rfl, iteFd (show decide (V.str "gather" = V.str "sum") = false by decide +kernel) ?_⟩
          refine ⟨_, rfl, rfl, _, rfl, iteFd (show decide (V.str "gather" = V.str "pad") = false by decide +kernel) ?_⟩
          refine ⟨_, rfl, rfl, _, rfl, iteFd (show decide (V.str "gather" = V.str "fold") = false by decide +kernel) ?_⟩
          refine ⟨_, rfl, pg, _, rfl, .inl (sqL_same hg st2), rfl, _, rfl, iteFd (show decide (V.int ((2 : Nat) : Int) = V.int 1) = false by decide +kernel) ?_⟩
          refine ⟨_, rfl, rfl, _, rfl, iteTd (show decide (V.str "gather" = V.str "gather") = true by decide +kernel) ?_⟩
          exact ⟨_, rfl, _, rfl, two_line, fun px np => q _ px (st2.trans (same_upd np)) (SqT.of upd_same)⟩
end
structure Calls (P : Program) (w : World) (K : PySem.W.Frag) (mg : Str → Option Value) (base : Heap) (CX : CXT) (k : Nat) (name : Str) (ps : List Str) (sp : Sp) : Prop where
  ex : ∃ (f : Addr) (fd : FuncData), FnOk P w K mg base CX k f fd ps sp ∧ PySem.W.keepIn K (.ref f) = true ∧ Binds K fd ps [] ∧ mg name = some (.ref f)

/-! ### the law's domain -/
structure GD (d : Dom) : Prop where
  lo : Bg 300 d.lo
  hi : Bg 300 d.hi
  ck : chk d.sh = 0
  lw : Low d.sh
  ord : d.lo ≤ d.hi
theorem GD.le {d : Dom} (g : GD d) : d.sh.length ≤ 4 := (chk_zero.mp g.ck).1
theorem GD.nd {d : Dom} (g : GD d) : (codes d.sh).Nodup := (chk_zero.mp g.ck).2.1
theorem GD.fi {d : Dom} (g : GD d) : Fine d.sh := (chk_zero.mp g.ck).2.2.1
/-- the fields are small -/
def MvB : Mv → Prop
  | .spread _ z => 0 ≤ z ∧ z ≤ 100
  | .cut _ a b => 0 ≤ a ∧ a ≤ 100 ∧ 0 ≤ b ∧ b ≤ 100
  | .pad _ a b => 0 ≤ a ∧ a ≤ 100 ∧ 0 ≤ b ∧ b ≤ 100
  | .window _ _ w s => 0 ≤ w ∧ w ≤ 100 ∧ 1 ≤ s ∧ s ≤ 100
  | .fold _ _ s z => 1 ≤ s ∧ s ≤ 100 ∧ 0 ≤ z ∧ z ≤ 100
  | _ => True
def NdOk : Nd → Prop
  | .const _ ns => ns ≠ []
  | .bc (.shift n) _ => 1 ≤ n ∧ n ≤ 30
  | .mv k _ => MvOk k ∧ MvB k
  | _ => True
def castF (acc : Option Sh) (o : Sh) : Option Sh := acc.bind fun s => (cast s o).map (s ++ ·)
def castAll (s : Sh) (os : List Sh) : Option Sh := os.foldl castF (some s)
theorem castAll_snoc (s : Sh) (os : List Sh) (o : Sh) : castAll s (os ++ [o]) = castF (castAll s os) o := by unfold castAll; rw [List.foldl_append]; rfl
def dropL (sh : Sh) (l : Nat) : Sh := sh.filter fun p => decide (p.1 ≠ l)
theorem dropL_snoc (sh : Sh) (l : Nat) (p : Nat × Int) : dropL (sh ++ [p]) l = dropL sh l ++ if p.1 = l then [] else [p] := by
  unfold dropL
  rw [List.filter_append]
  congr 1
  by_cases h : p.1 = l
  · rw [if_pos h]
    simp [h]
  · rw [if_neg h]
    simp [h]
def shapeL : Nd → List Dom → Option Sh
  | .bc _ _, d :: ds => castAll d.sh (ds.map (·.sh))
  | .dot l _, [d, e] => (castAll d.sh [e.sh]).bind fun s => if sz d.sh l = 0 ∨ sz e.sh l = 0 then none else some (dropL s l)
  | .mv k _, [d] => mvS k d.sh d.sh
  | .mv k _, [d, e] => mvS k d.sh e.sh
  | _, _ => none
def finL (nd : Nd) (ds : List Dom) (sh : Sh) : Option Dom :=
  if 4 < sh.length ∨ 256 < prod (sizes sh) then none else if fineB sh = true then (if (spanL nd ds).1 < -W200 ∨ W200 < (spanL nd ds).2 then none else some ⟨sh, (spanL nd ds).1, (spanL nd ds).2⟩) else none
def lawD : Nd → List Dom → Option Dom
  | .input sh lo hi, _ => some ⟨sh, lo, hi⟩
  | .const sh ns, _ => some ⟨sh, lst ns, grt ns⟩
  | nd, ds => (shapeL nd ds).bind (finL nd ds)
def compu : Nd → Prop
  | .input _ _ _ => False
  | .const _ _ => False
  | _ => True
theorem lawD_compu {nd : Nd} (h : compu nd) (ds : List Dom) : lawD nd ds = (shapeL nd ds).bind (finL nd ds) := by
  cases nd <;> first | exact h.elim | rfl
def L12 : List Str := ["add", "sub", "mul", "max", "min", "less", "equal", "neg", "clamp", "shift", "where", "dot"]
def BN : List Str := ["add", "sub", "mul", "max", "min", "less", "equal", "neg", "clamp", "shift", "where"]
def MN : List Str := ["sum", "peak", "order", "rename", "spread", "cut", "pad", "join", "window", "fold", "gather"]
theorem bk_in (k : Bk) : k.nm ∈ BN := by
  cases k <;> first | exact (by decide +kernel : ("add" : Str) ∈ BN) | exact (by decide +kernel : ("sub" : Str) ∈ BN) | exact (by decide +kernel : ("mul" : Str) ∈ BN) | exact (by decide +kernel : ("max" : Str) ∈ BN) | exact (by decide +kernel : ("min" : Str) ∈ BN) | exact (by decide +kernel : ("less" : Str) ∈ BN) | exact (by decide +kernel : ("equal" : Str) ∈ BN) | exact (by decide +kernel : ("neg" : Str) ∈ BN) | exact (by decide +kernel : ("clamp" : Str) ∈ BN) | exact (by decide +kernel : ("shift" : Str) ∈ BN) | exact (by decide +kernel : ("where" : Str) ∈ BN)
theorem mv_in (k : Mv) : k.nm ∈ MN := by
  cases k <;> first | exact (by decide +kernel : ("sum" : Str) ∈ MN) | exact (by decide +kernel : ("peak" : Str) ∈ MN) | exact (by decide +kernel : ("order" : Str) ∈ MN) | exact (by decide +kernel : ("rename" : Str) ∈ MN) | exact (by decide +kernel : ("spread" : Str) ∈ MN) | exact (by decide +kernel : ("cut" : Str) ∈ MN) | exact (by decide +kernel : ("pad" : Str) ∈ MN) | exact (by decide +kernel : ("join" : Str) ∈ MN) | exact (by decide +kernel : ("window" : Str) ∈ MN) | exact (by decide +kernel : ("fold" : Str) ∈ MN) | exact (by decide +kernel : ("gather" : Str) ∈ MN)
theorem bn_all : ∀ z ∈ BN, z ≠ "input" ∧ z ≠ "const" ∧ z ∈ L12 ∧ z ≠ "dot" := by decide +kernel
theorem mn_all : ∀ z ∈ MN, z ≠ "input" ∧ z ≠ "const" ∧ z ∉ L12 := by decide +kernel
theorem bk_nm (k : Bk) : k.nm ≠ "input" ∧ k.nm ≠ "const" ∧ k.nm ∈ L12 ∧ k.nm ≠ "dot" := bn_all _ (bk_in k)
theorem mv_nm (k : Mv) : k.nm ≠ "input" ∧ k.nm ≠ "const" ∧ k.nm ∉ L12 := mn_all _ (mv_in k)
theorem arN_le (nd : Nd) : arN nd ≤ 3 := by
  have f : ∀ n : Nat, n = 0 ∨ n = 1 ∨ n = 2 ∨ n = 3 → n ≤ 3 := fun n h => by omega
  cases nd with
  | input _ _ _ => exact Nat.zero_le 3
  | const _ _ => exact Nat.zero_le 3
  | dot _ _ => exact f 2 (by omega)
  | bc k _ => cases k <;> first | exact f 1 (by omega) | exact f 2 (by omega) | exact f 3 (by omega)
  | mv k _ => cases k <;> first | exact f 1 (by omega) | exact f 2 (by omega)
theorem arN_pos {nd : Nd} (h : compu nd) : 1 ≤ arN nd := by
  have f : ∀ n : Nat, n = 1 ∨ n = 2 ∨ n = 3 → 1 ≤ n := fun n h => by omega
  cases nd with
  | input _ _ _ => exact h.elim
  | const _ _ => exact h.elim
  | dot _ _ => exact f 2 (by omega)
  | bc k _ => cases k <;> first | exact f 1 (by omega) | exact f 2 (by omega) | exact f 3 (by omega)
  | mv k _ => cases k <;> first | exact f 1 (by omega) | exact f 2 (by omega)
theorem arN_mv (k : Mv) (as : List Nat) : arN (.mv k as) = 1 ∨ arN (.mv k as) = 2 := by
  cases k <;> first | exact Or.inl rfl | exact Or.inr rfl
theorem compu_nm {nd : Nd} (h : compu nd) : nd.nm ≠ "input" ∧ nd.nm ≠ "const" := by
  cases nd with
  | input _ _ _ => exact h.elim
  | const _ _ => exact h.elim
  | bc k _ => exact ⟨(bk_nm k).1, (bk_nm k).2.1⟩
  | dot _ _ => exact ⟨by show ("dot" : Str) ≠ _; decide +kernel, by show ("dot" : Str) ≠ _; decide +kernel⟩
  | mv k _ => exact ⟨(mv_nm k).1, (mv_nm k).2.1⟩
theorem str_ne {a b : Str} (h : a ≠ b) : decide (V.str a = V.str b) = false := decide_eq_false fun z => h (by injection z)
theorem castF_len {s o r : Sh} (h : castF (some s) o = some r) : r.length ≤ s.length + o.length := by
  unfold castF at h
  dsimp only [Option.bind] at h
  cases e : cast s o with
  | none => rw [e] at h; cases h
  | some ad =>
    rw [e] at h
    cases h
    rw [List.length_append]
    have := cast_len e
    omega
theorem castF_fine {s o r : Sh} (h : castF (some s) o = some r) (m1 : Fine s) (m2 : Fine o) : Fine r := by
  unfold castF at h
  dsimp only [Option.bind] at h
  cases e : cast s o with
  | none => rw [e] at h; cases h
  | some ad =>
    rw [e] at h
    cases h
    exact cast_fine e m1 m2
theorem dropL_mem {sh : Sh} {l : Nat} {p : Nat × Int} (h : p ∈ dropL sh l) : p ∈ sh := (List.mem_filter.mp h).1
theorem mem_replM {k : Mv} {fresh a : Sh} {p : Nat × Int} (h : p ∈ replM k fresh a) : p ∈ a ∨ p ∈ fresh := by
  unfold replM at h
  obtain ⟨q, hq, hp⟩ := List.mem_flatMap.mp h
  split at hp
  · exact .inr hp
  · split at hp
    · rw [List.mem_singleton] at hp
      subst hp
      exact .inl hq
    · cases hp
theorem newAx_mod {k : Mv} {a b ax : Sh} {n : Int} (hk : MvB k) (n0 : 1 ≤ n) (n1 : n ≤ 16) (ha : Fine a) (hb : Fine b) (h : newAx k a b n = some ax) : Mod ax := by
  cases k with
  | sum l => cases h; intro p hp; cases hp
  | peak l => cases h; intro p hp; cases hp
  | order ls => cases h
  | rename l m =>
    replace h : (if m ∈ codes a then none else some [(m, n)]) = some ax := h
    split at h
    · cases h
    · cases h
      intro p hp
      rw [List.mem_singleton] at hp
      subst hp
      exact ⟨by show -1000 ≤ n; omega, by show n ≤ 1000; omega⟩
  | spread l z => cases h
  | cut l st ct =>
    obtain ⟨k1, k2, k3, k4⟩ := hk
    replace h : (if n < st + ct then none else some [(l, ct)]) = some ax := h
    split at h
    · cases h
    · cases h
      intro p hp
      rw [List.mem_singleton] at hp
      subst hp
      exact ⟨by show -1000 ≤ ct; omega, by show ct ≤ 1000; omega⟩
  | pad l x y =>
    obtain ⟨k1, k2, k3, k4⟩ := hk
    cases h
    intro p hp
    rw [List.mem_singleton] at hp
    subst hp
    exact ⟨by show -1000 ≤ x + n + y; omega, by show x + n + y ≤ 1000; omega⟩
  | join l =>
    replace h : (if codes a = codes b ∧ joinBad a b l = false then some [(l, n + sz b l)] else none) = some ax := h
    split at h
    · cases h
      intro p hp
      rw [List.mem_singleton] at hp
      subst hp
      obtain ⟨z1, z2⟩ := sz_le hb l
      exact ⟨by show -1000 ≤ n + sz b l; omega, by show n + sz b l ≤ 1000; omega⟩
    · cases h
  | window l m w s =>
    obtain ⟨k1, k2, k3, k4⟩ := hk
    replace h : (if m ∈ codes a ∨ n < w then none else some [(l, (n - w) / s + 1), (m, w)]) = some ax := h
    split at h
    · cases h
    · rename_i hn
      cases h
      intro p hp
      have hw : w ≤ n := by
        by_cases hw : n < w
        · exact absurd (.inr hw) hn
        · omega
      rcases List.mem_cons.mp hp with rfl | hp
      · have d1 : 0 ≤ (n - w) / s := Int.ediv_nonneg (by omega) (by omega)
        have d2 : (n - w) / s ≤ n - w := Int.ediv_le_self _ (by omega)
        exact ⟨by show -1000 ≤ (n - w) / s + 1; omega, by show (n - w) / s + 1 ≤ 1000; omega⟩
      · rw [List.mem_singleton] at hp
        subst hp
        exact ⟨by show -1000 ≤ w; omega, by show w ≤ 1000; omega⟩
  | fold l m s z =>
    obtain ⟨k1, k2, k3, k4⟩ := hk
    replace h : (if sz a m = 0 ∨ m = l ∨ z < s * (n - 1) + sz a m then none else some [(l, z)]) = some ax := h
    split at h
    · cases h
    · cases h
      intro p hp
      rw [List.mem_singleton] at hp
      subst hp
      exact ⟨by show -1000 ≤ z; omega, by show z ≤ 1000; omega⟩
  | gather l =>
    replace h : (if anyIn b a = true then none else some b) = some ax := h
    split at h
    · cases h
    · cases h
      exact hb.mod
theorem sized_fine {a : Sh} (ha : Fine a) (l : Nat) : -1000 ≤ (sized a l).2 ∧ (sized a l).2 ≤ 1000 := by
  obtain ⟨z1, z2⟩ := sz_le ha l
  exact ⟨by show -1000 ≤ sz a l; omega, by show sz a l ≤ 1000; omega⟩
theorem mvS_ok {k : Mv} {a b r : Sh} (hk : MvB k) (ha : Fine a) (hb : Fine b) (la : a.length ≤ 4) (lb : b.length ≤ 4) (h : mvS k a b = some r) : Mod r ∧ r.length ≤ 32 := by
  have gen : (if sz a k.ax = 0 then none else (newAx k a b (sz a k.ax)).map fun fresh => replM k fresh a) = some r → Mod r ∧ r.length ≤ 32 := fun h => by
    split at h
    · cases h
    · rename_i h0
      cases e : newAx k a b (sz a k.ax) with
      | none => rw [e] at h; cases h
      | some ax =>
        rw [e] at h
        cases h
        obtain ⟨z1, z2⟩ := sz_le ha k.ax
        have h1 := newAx_mod hk (by omega) z2 ha hb e
        refine ⟨fun p hp => (mem_replM hp).elim (fun z => ha.mod p z) (h1 p), ?_⟩
        have := replM_len k ax a
        have := newAx_len e lb
        have : a.length * (ax.length + 1) ≤ 4 * 5 := Nat.mul_le_mul la (by omega)
        show (replM k ax a).length ≤ 32
        omega
  cases k with
  | order ls =>
    replace h : (if ls.Perm (codes a) then some (ls.map (sized a)) else none) = some r := h
    split at h
    · rename_i hp
      cases h
      refine ⟨fun p hp' => ?_, ?_⟩
      · obtain ⟨l, _, rfl⟩ := List.mem_map.mp hp'
        exact sized_fine ha l
      · rw [List.length_map, hp.length_eq, codes, List.length_map]
        omega
    · cases h
  | spread l z =>
    obtain ⟨k1, k2⟩ := hk
    replace h : (if 0 < sz a l then none else some (a ++ [(l, z)])) = some r := h
    split at h
    · cases h
    · cases h
      refine ⟨fun p hp => ?_, ?_⟩
      · rcases List.mem_append.mp hp with hp | hp
        · exact ha.mod p hp
        · rw [List.mem_singleton] at hp
          subst hp
          exact ⟨by show -1000 ≤ z; omega, by show z ≤ 1000; omega⟩
      · rw [List.length_append]
        show a.length + 1 ≤ 32
        omega
  | sum l => exact gen h
  | peak l => exact gen h
  | rename l m => exact gen h
  | cut l s t => exact gen h
  | pad l s t => exact gen h
  | join l => exact gen h
  | window l m s t => exact gen h
  | fold l m s t => exact gen h
  | gather l => exact gen h
section
variable {P : Program} {w : World} {K : PySem.W.Frag} {mg : Str → Option Value} {base : Heap}
structure TxtG (mg : Str → Option Value) extends TxtD mg where
  tuple : mg "tuple" = none
  all : mg "all" = none
  min : mg "min" = none
  max : mg "max" = none
  range : mg "range" = none
  isi : mg "isinstance" = none
  bool : mg "bool" = none
def GivenN (as : List Nat) (ds gs : List Dom) : Prop := gs.length = as.length ∧ ∀ (i k : Nat), as[i]? = some k → ∃ d, ds[k]? = some d ∧ gs[i]? = some d
def spLD (K : PySem.W.Frag) : Sp := fun vs H Q _ => ∃ (pn : V) (pd : Addr) (nd : Nd) (us : List V) (ds gs : List Dom), vs = [pn, .ref pd] ∧ NdAt K H pn nd ∧ SqL K H pd us ∧ Dms K H us ds ∧ GivenN nd.args ds gs ∧ nd.args.length = arN nd ∧ NdOk nd ∧ (∀ g ∈ gs, GD g) ∧
  ∀ H', Same H H' → (lawD nd gs = none → Q .non H') ∧ ∀ d, lawD nd gs = some d → ∀ v, DmAt K H' v d → Q v H'
abbrev nLD : List Str := ["node", "doms", "kind", "args", "info", "shapes", "spans", "shape", "other", "low", "high", "k", "axis"]
theorem scLD : FnScope nLD ["node", "doms"] (defScope s_law_domain) := ⟨rfl, rfl, rfl, by decide +kernel, rfl, by decide +kernel, by decide +kernel⟩
theorem ok_ldomain {f : Addr} {fd : FuncData} (F : Fun K "_law_domain" "_law_domain" s_law_domain f fd) (T : TxtG mg) (cCt : Calls P w K mg base CX0 1 "_law_count" ["shape"] (spCountT K)) (cSz : Calls P w K mg base CX0 1 "_law_size" ["shape", "letter"] (spSizeT K)) (cCa : Calls P w K mg base CX0 2 "_law_cast" ["a", "b"] (spCast K)) (cMS : Calls P w K mg base CX0 3 "_law_moved_shape" ["kind", "a", "other", "info"] (spMS K)) (cSp : Calls P w K mg base CX0 3 "_law_span" ["kind", "info", "shapes", "spans"] (spSpan K)) : FnOk P w K mg base CX0 4 f fd ["node", "doms"] (spLD K) := by
  obtain ⟨fCt, dCt, GCt, kCt, bCt, gCt⟩ := cCt.ex
  obtain ⟨fSz, dSz, GSz, kSz, bSz, gSz⟩ := cSz.ex
  obtain ⟨fCa, dCa, GCa, kCa, bCa, gCa⟩ := cCa.ex
  obtain ⟨fMS, dMS, GMS, kMS, bMS, gMS⟩ := cMS.ex
  obtain ⟨fSp, dSp, GSp, kSp, bSp, gSp⟩ := cSp.ex
  refine F.ok scLD (fun vs H Q E h => ?_) (fun cdv A outer s H vs Q E hr3 h => ?_)
  · obtain ⟨pn, pd, nd, us, ds, gs, rfl, _⟩ := h
    rfl
  · obtain ⟨_, pd, nd, us, ds, gs, rfl, ⟨pn, pa, pi, rfl, hpn, hpa, hpi⟩, hpd, hD, hG, hal, hok, hgd, q⟩ := h
    have hr1 : Room 1 _ := hr3.mono (by decide)
    have hr2 : Room 2 _ := hr3.mono (by decide)
    refine ⟨_, (pss_cons (ps_asg (pv 0) (pg_tup rfl (pgs_cons (pg_name (i := 2) scLD.nd rfl (.inl rfl)) (pgs_cons (pg_name (i := 3) scLD.nd rfl (.inl rfl)) (pgs_cons (pg_name (i := 4) scLD.nd rfl (.inr rfl)) pgs_nil)))))
      (pss_cons (ps_if (pt_cmpR op_eq (pv 2) pe_str (nomark _)) (pss_one (ps_ret (pv 4))) pss_nil)
      (pss_cons (ps_if (pt_cmpR op_eq (pv 2) pe_str (nomark _)) (pss_one (ps_ret (pe_tup (pa_cons (pe_ix ix_tup (pv 4) pe_int (fun _ _ => rfl)) (pa_cons (pe_callB (cr_minT rfl) (by rfl) T.min (by decide +kernel) (pa_cons (pe_ix ix_tup (pv 4) pe_int (fun _ _ => rfl)) pa_nil)) (pa_cons (pe_callB (cr_maxT rfl) (by rfl) T.max (by decide +kernel) (pa_cons (pe_ix ix_tup (pv 4) pe_int (fun _ _ => rfl)) pa_nil)) pa_nil)))))) pss_nil)
      (pss_cons (ps_setLc (i := 5) (own := [("k", 11)]) (g := (gName 11)) (tt := tYes) (te := (tOp (rIxT K) (tOp (rIxL K) (tVar 1) (tVar 11)) (tC (.int 0)))) (by rfl) scLD.nd rfl rfl (sw_true rfl rfl rfl (by decide +kernel)) (pi_tup (pv 3)) (blkOk_by (N := nLD) (sc := defScope s_law_domain) (by decide +kernel)) (fun _ _ _ _ _ => (pg_name (i := 11) scLD.nd rfl (.inl rfl) (hf := Or.inr rfl))) (fun _ _ _ _ _ => pts_nil) (fun _ _ _ _ _ => (pe_ix ix_tup (pe_ix ix_list (pv 1) (pv 11) (fun _ _ => rfl)) pe_int (fun _ _ => rfl))))
      (pss_cons (ps_setLc (i := 6) (own := [("k", 11)]) (g := (gName 11)) (tt := tYes) (te := (tSl (rSlT K) (tOp (rIxL K) (tVar 1) (tVar 11)) (tPart (tC (.int 1))) tNoPart)) (by rfl) scLD.nd rfl rfl (sw_true rfl rfl rfl (by decide +kernel)) (pi_tup (pv 3)) (blkOk_by (N := nLD) (sc := defScope s_law_domain) (by decide +kernel)) (fun _ _ _ _ _ => (pg_name (i := 11) scLD.nd rfl (.inl rfl) (hf := Or.inr rfl))) (fun _ _ _ _ _ => pts_nil) (fun _ _ _ _ _ => (pe_slice sl_tup (pe_ix ix_list (pv 1) (pv 11) (fun _ _ => rfl)) (po_some pe_int) po_none)))
      (Evl.pss_cut (ps_if (pt_inS (zs := ["add", "sub", "mul", "max", "min", "less", "equal", "neg", "clamp", "shift", "where", "dot"]) (by decide) (pv 2) (pa_cons pe_str (pa_cons pe_str (pa_cons pe_str (pa_cons pe_str (pa_cons pe_str (pa_cons pe_str (pa_cons pe_str (pa_cons pe_str (pa_cons pe_str (pa_cons pe_str (pa_cons pe_str (pa_cons pe_str pa_nil))))))))))))) (pss_cons (ps_set (i := 7) scLD.nd rfl (.inl rfl) (pe_ix ix_list (pv 5) pe_int (fun _ _ => rfl)))
      (pss_cons (ps_for PassesOwn.never rfl (pi_list (pe_slice sl_list (pv 5) (po_some pe_int) po_none)) (pg_name (i := 8) scLD.nd rfl (.inl rfl)) (pss_one (ps_if (pt_cmpR op_notN (pv 7) pe_non (nomark _)) (pss_one (ps_set (i := 7) scLD.nd rfl (.inl rfl) (pe_call GCa hr2 (by rfl) gCa kCa bCa .nil pass0 (pa_cons (pv 7) (pa_cons (pv 8) pa_nil))))) pss_nil)))
      (pss_one (ps_if (PW.pt (pw_and (pt_cmpR op_eq (pv 2) pe_str (nomark _)) (pw_and1 (pt_cmpR op_notN (pv 7) pe_non (nomark _))))) (pss_cons (ps_if (PW.pt (pw_or (pt_cmpR op_eq (pe_call GSz hr1 (by rfl) gSz kSz bSz .nil pass0 (pa_cons (pe_ix ix_list (pv 5) pe_int (fun _ _ => rfl)) (pa_cons (pe_ix ix_tup (pv 4) pe_int (fun _ _ => rfl)) pa_nil))) pe_int (nomark _)) (pw_or1 (pt_cmpR op_eq (pe_call GSz hr1 (by rfl) gSz kSz bSz .nil pass0 (pa_cons (pe_ix ix_list (pv 5) pe_int (fun _ _ => rfl)) (pa_cons (pe_ix ix_tup (pv 4) pe_int (fun _ _ => rfl)) pa_nil))) pe_int (nomark _))))) (pss_one (ps_ret pe_non)) pss_nil)
      (pss_one (ps_set (i := 7) scLD.nd rfl (.inl rfl) (pe_callTy call_tuple_ofF (by rfl) T.tuple (by decide +kernel) (pa_cons (pe_lc (own := [("axis", 12)]) (g := (gName 12)) (tt := (tTest (tOp rNe (tOp (rIxT K) (tVar 12) (tC (.int 0))) (tOp (rIxT K) (tVar 4) (tC (.int 0)))))) (te := (tVar 12)) rfl scLD.nd (pi_tup (pv 7)) (blkOk_by (N := nLD) (sc := defScope s_law_domain) (by decide +kernel)) (fun _ _ _ _ _ => (pg_name (i := 12) scLD.nd rfl (.inl rfl) (hf := Or.inr rfl))) (fun _ _ _ _ _ => pts_one (pt_cmpR op_ne (pe_ix ix_tup (pv 12) pe_int (fun _ _ => rfl)) (pe_ix ix_tup (pv 4) pe_int (fun _ _ => rfl)) (nomark _))) (fun _ _ _ _ _ => (pv 12))) pa_nil))))) pss_nil)))) (pss_one (ps_set (i := 7) scLD.nd rfl (.inl rfl) (pe_call GMS hr3 (by rfl) gMS kMS bMS .nil pass0 (pa_cons (pv 2) (pa_cons (pe_ix ix_list (pv 5) pe_int (fun _ _ => rfl)) (pa_cons (pe_ix ix_list (pv 5) (pe_op op_sub (pe_callB call_len_seq (by rfl) T.len PySem.boot_len (pa_cons (pv 5) pa_nil)) pe_int) (fun _ _ => rfl)) (pa_cons (pv 4) pa_nil))))))))
      (pss_cons (ps_if (PW.pt (pw_or (pt_cmpR op_isN (pv 7) pe_non (nomark _)) (pw_or (pt_cmpR op_gt (pe_callB call_len_seq (by rfl) T.len PySem.boot_len (pa_cons (pv 7) pa_nil)) pe_int (nomark _)) (pw_or1 (pt_cmpR op_gt (pe_call GCt hr1 (by rfl) gCt kCt bCt .nil pass0 (pa_cons (pv 7) pa_nil)) pe_int (nomark _)))))) (pss_one (ps_ret pe_non)) pss_nil)
      (pss_cons (ps_if (pt_not (pt_val (pe_callB (cr_all rfl) (by rfl) T.all (by decide +kernel) (pa_cons (pe_lc (own := [("axis", 12)]) (g := (gName 12)) (tt := tYes) (te := (tChain (rI0 fun i j => .bl (decide (i ≤ j))) (rI0 fun i j => .bl (decide (i ≤ j))) (tC (.int 1)) (tOp (rIxT K) (tVar 12) (tC (.int 1))) (tC (.int 16)))) rfl scLD.nd (pi_tup (pv 7)) (blkOk_by (N := nLD) (sc := defScope s_law_domain) (by decide +kernel)) (fun _ _ _ _ _ => (pg_name (i := 12) scLD.nd rfl (.inl rfl) (hf := Or.inr rfl))) (fun _ _ _ _ _ => pts_nil) (fun _ _ _ _ _ => (pe_chain op_le op_le pe_int (pe_ix ix_tup (pv 12) pe_int (fun _ _ => rfl)) pe_int))) pa_nil)))) (pss_one (ps_ret pe_non)) pss_nil)
      (pss_cons (ps_asg (pe_call GSp hr3 (by rfl) gSp kSp bSp .nil pass0 (pa_cons (pv 2) (pa_cons (pv 4) (pa_cons (pv 5) (pa_cons (pv 6) pa_nil))))) (pg_tup rfl (pgs_cons (pg_name (i := 9) scLD.nd rfl (.inl rfl)) (pgs_cons (pg_name (i := 10) scLD.nd rfl (.inl rfl)) pgs_nil))))
      (pss_cons (ps_if (PW.pt (pw_or (pt_cmpR op_lt (pv 9) (pe_un un_neg (pe_op op_shl pe_int pe_int)) (nomark _)) (pw_or1 (pt_cmpR op_gt (pv 10) (pe_op op_shl pe_int pe_int) (nomark _))))) (pss_one (ps_ret pe_non)) pss_nil)
      (pss_one (ps_ret (pe_tup (pa_cons (pv 7) (pa_cons (pv 9) (pa_cons (pv 10) pa_nil)))))))))))))))), ?_⟩
    refine ⟨_, rfl, pn, _, rfl, hpn, rfl, _, _, rfl, _, _, rfl, _, _, rfl, rfl, _, rfl, rfl, _, rfl, ?_⟩
    have hcase : (∃ sh lo hi, nd = .input sh lo hi) ∨ (∃ sh ns, nd = .const sh ns) ∨ compu nd := by
      cases nd with
      | input sh lo hi => exact .inl ⟨_, _, _, rfl⟩
      | const sh ns => exact .inr (.inl ⟨_, _, rfl⟩)
      | bc k as => exact .inr (.inr trivial)
      | dot l as => exact .inr (.inr trivial)
      | mv k as => exact .inr (.inr trivial)
    rcases hcase with ⟨sh, lo, hi, rfl⟩ | ⟨sh, ns, rfl⟩ | hc
    · obtain ⟨a, h1, h2, h3⟩ := hpi
      exact iteT ⟨_, rfl, (q _ (Same.refl H)).2 _ rfl _ ⟨pi, a, rfl, h1, h2, h3⟩⟩
    · obtain ⟨a, pc, h1, h2, h3, h4⟩ := hpi
      have hns : 0 < ns.length := List.length_pos_iff.mpr hok
      refine iteF ⟨_, rfl, rfl, _, rfl, iteT ⟨_, rfl, pi, _, (0 : Nat), _, rfl, rfl, h1, i0, _, rfl, pi, _, (1 : Nat), _, rfl, rfl, h1, i1, pc, ns, rfl, h4, hns, fun m1 e1 e2 => ⟨_, rfl, pi, _, (1 : Nat), _, rfl, rfl, h1, i1, pc, ns, rfl, h4, hns, fun m2 e3 e4 => ⟨by show 3 ≤ sizeLine; decide, fun p np => ?_⟩⟩⟩⟩
      have s1 := same_upd (o := .tup [.ref a, .int m1, .int m2]) np
      refine (q _ s1).2 _ rfl _ ⟨p, a, rfl, ?_, h2.same s1, h3.same s1⟩
      rw [← lst_is e1 e2, ← grt_is e3 e4]
      exact SqT.of upd_same
    obtain ⟨nm1, nm2⟩ := compu_nm hc
    rw [str_ne nm1]
    refine iteF ⟨_, rfl, rfl, _, rfl, ?_⟩
    rw [str_ne nm2]
    refine iteF ?_
    have hgl : gs.length ≤ 3 := by
      rw [hG.1, hal]
      exact arN_le nd
    -- the shapes
    refine ⟨_, rfl, pa, rfl, ⟨_, hpa⟩, fun D nD => lc_tup (K := K) (a := pa) (xs := (asInts nd.args).map V.int) (fun i H' => ∃ as : List Addr, Same H H' ∧ H' D = some (.lst (as.map V.ref)) ∧ as.length = i ∧ ∀ (j : Nat) (a : Addr) (d : Dom), as[j]? = some a → gs[j]? = some d → ShT K H a d.sh ∧ NoD K H a)
      ⟨[], same_upd nD, upd_same, rfl, fun j v d h => by simp at h⟩ (fun i H' _ ⟨_, e, _⟩ => sqT_same hpa e) ?_ ?_⟩
    · rintro i x H' hi' ⟨as, sm, hDl, hasl, has⟩
      obtain ⟨an, rfl, ha⟩ := map_int_at hi'
      unfold asInts at ha
      rw [List.getElem?_map] at ha
      obtain ⟨k, hk, rfl⟩ := Option.map_eq_some_iff.mp ha
      obtain ⟨d, hd1, hd2⟩ := hG.2 i k hk
      have hkl : k < us.length := by rw [hD.1]; exact (List.getElem?_eq_some_iff.mp hd1).1
      have hua : us[k]? = some us[k] := List.getElem?_eq_getElem hkl
      obtain ⟨p, a, hv, h1, h2, h3⟩ := hD.2 k us[k] d hua hd1
      rw [hv] at hua
      have hil : i < nd.args.length := (List.getElem?_eq_some_iff.mp hk).1
      refine ⟨rfl, ?_⟩
      unfold tYes
      dsimp only
      rw [if_pos rfl]
      refine ⟨_, rfl, _, rfl, pd, _, _, _, rfl, rfl, sqL_same hpd sm, atI_nat hua, p, _, (0 : Nat), _, rfl, rfl, sqT_same h1 sm, i0, _, hDl, ?_, as ++ [a], fun b o e => by rw [upd_ne (ne_of_none e nD)]; exact sm _ _ e, by rw [upd_same, List.map_append]; rfl, by rw [List.length_append, hasl]; rfl, fun j v d' k1 k2 => ?_⟩
      · rw [List.length_map, hasl]
        exact small1000 (by rw [← hG.1] at hil; omega)
      · by_cases hj : j < as.length
        · rw [List.getElem?_append_left hj] at k1
          exact has j v d' k1 k2
        · rw [List.getElem?_append_right (by omega)] at k1
          cases z : j - as.length with
          | zero =>
            rw [z] at k1
            have e1 : a = v := Option.some.inj k1
            subst e1
            have ej : j = i := by omega
            subst ej
            rw [hd2] at k2
            cases k2
            exact ⟨h2, h3⟩
          | succ m =>
            rw [z] at k1
            simp at k1
    rintro H1 ⟨as, sm1, hDl, hasl, has⟩
    have hSh0 : ShsAt K H as gs := ⟨by rw [hasl, List.length_map, asInts, List.length_map, hG.1], has⟩
    clear has nD
    -- the spans
    refine ⟨_, rfl, pa, rfl, ⟨_, sqT_same hpa sm1⟩, fun D2 nD2 => lc_tup (K := K) (a := pa) (xs := (asInts nd.args).map V.int) (fun i H' => ∃ ws : List V, Same H1 H' ∧ H' D2 = some (.lst ws) ∧ ws.length = i ∧ ∀ (j : Nat) (v : V) (d : Dom), ws[j]? = some v → gs[j]? = some d → IvAt K H' v d)
      ⟨[], same_upd nD2, upd_same, rfl, fun j v d h => by simp at h⟩ (fun i H' _ ⟨_, e, _⟩ => sqT_same hpa (sm1.trans e)) ?_ ?_⟩
    · rintro i x H' hi' ⟨ws, sm, hD2l, hwl, hws⟩
      obtain ⟨an, rfl, ha⟩ := map_int_at hi'
      unfold asInts at ha
      rw [List.getElem?_map] at ha
      obtain ⟨k, hk, rfl⟩ := Option.map_eq_some_iff.mp ha
      obtain ⟨d, hd1, hd2⟩ := hG.2 i k hk
      have hkl : k < us.length := by rw [hD.1]; exact (List.getElem?_eq_some_iff.mp hd1).1
      have hua : us[k]? = some us[k] := List.getElem?_eq_getElem hkl
      obtain ⟨p, a, hv, h1, h2, h3⟩ := hD.2 k us[k] d hua hd1
      rw [hv] at hua
      have hil : i < nd.args.length := (List.getElem?_eq_some_iff.mp hk).1
      refine ⟨rfl, ?_⟩
      unfold tYes
      dsimp only
      rw [if_pos rfl]
      refine ⟨_, rfl, _, rfl, pd, _, _, _, rfl, rfl, sqL_same hpd (sm1.trans sm), atI_nat hua, 1, rfl, p, _, rfl, sqT_same h1 (sm1.trans sm), (show ¬ (HT.sIx 3 0 (some 1) = 0 ∧ HT.sIx 3 3 none = 3) by decide), fun t nt => ?_⟩
      have st := same_upd (o := .tup (cutV [V.ref a, .int d.lo, .int d.hi] (some 1) none)) nt
      have hD2t := st _ _ hD2l
      refine ⟨_, hD2t, ?_, ws ++ [.ref t], fun b o e => by rw [upd_ne (ne_of_none e nD2)]; exact st _ _ (sm _ _ e), upd_same, by rw [List.length_append, hwl]; rfl, fun j v d' k1 k2 => ?_⟩
      · rw [hwl]
        exact small1000 (by rw [← hG.1] at hil; omega)
      · have nlu : NL (upd H' t (.tup (cutV [V.ref a, .int d.lo, .int d.hi] (some 1) none))) (upd (upd H' t (.tup (cutV [V.ref a, .int d.lo, .int d.hi] (some 1) none))) D2 (.lst (ws ++ [.ref t]))) := nl_upd hD2t
        by_cases hj : j < ws.length
        · rw [List.getElem?_append_left hj] at k1
          obtain ⟨p2, e1, e2⟩ := (hws j v d' k1 k2).same st
          exact ⟨p2, e1, sqT_nl e2 nlu⟩
        · rw [List.getElem?_append_right (by omega)] at k1
          cases z : j - ws.length with
          | zero =>
            rw [z] at k1
            have e1 : V.ref t = v := Option.some.inj k1
            subst e1
            have ej : j = i := by omega
            subst ej
            rw [hd2] at k2
            cases k2
            refine ⟨t, rfl, sqT_nl (SqT.of ?_) nlu⟩
            rw [upd_same, cut_tail]
          | succ m =>
            rw [z] at k1
            simp at k1
    rintro H2 ⟨ws, sm2, hD2l, hwl, hws⟩
    have hIv : Ivs K H2 ws gs := ⟨by rw [hwl, List.length_map, asInts, List.length_map, hG.1], hws⟩
    have s02 := sm1.trans sm2
    have hSh : ShsAt K H2 as gs := hSh0.same s02
    have hps : SqL K H2 D (as.map V.ref) := SqL.of (sm2 _ _ hDl)
    have hpg : SqL K H2 D2 ws := SqL.of hD2l
    have hpi2 : InfoAt K H2 pi nd := hpi.keep (Same.nl s02)
    have hgl2 : gs.length = arN nd := by rw [hG.1, hal]
    clear hws nD2 hSh0 hDl hD2l hwl hasl sm1 sm2 hD hpd hpa hpn
    refine ⟨fun σ' H' => ∃ (x7 : V) (x8 : Option V), σ' = [some (.ref pn), some (.ref pd), some (.str nd.nm), some (.ref pa), some (.ref pi), some (.ref D), some (.ref D2), some x7, x8, none, none, none, none] ∧ Same H2 H' ∧
      ((shapeL nd gs = none ∧ x7 = .non) ∨ ∃ sh p, shapeL nd gs = some sh ∧ x7 = .ref p ∧ ShT K H' p sh ∧ NoD K H' p ∧ Mod sh ∧ sh.length ≤ 32), ?_, ?_⟩
    · -- the shape
      obtain ⟨d0, rest, rfl⟩ : ∃ d0 rest, gs = d0 :: rest := by
        cases gs with
        | nil => exact absurd (arN_pos hc) (by rw [← hgl2]; decide)
        | cons d0 rest => exact ⟨d0, rest, rfl⟩
      obtain ⟨a0, ar, rfl, hS0, hN0⟩ := hSh.head
      have g0 := hgd d0 (List.mem_cons_self ..)
      have hrl : ar.length = rest.length := by
        have := hSh.1
        rw [List.length_cons, List.length_cons] at this
        omega
      refine ⟨nd.nm, rfl, fun H3 s3 => ⟨_, rfl, ?_⟩⟩
      by_cases h12 : nd.nm ∈ L12
      · refine iteTd (decide_eq_true h12) ?_
        have hps3 := sqL_same hps s3
        refine ⟨_, rfl, D, _, (0 : Nat), _, rfl, rfl, hps3, i0, ?_⟩
        refine ⟨_, rfl, 1, rfl, D, _, rfl, hps3, fun p np => ?_⟩
        have e1 : cutV ((a0 :: ar).map V.ref) (some 1) none = ar.map V.ref := cut_tail (V.ref a0) (ar.map V.ref)
        rw [e1]
        have s4 := s3.trans (same_upd (o := .lst (ar.map V.ref)) np)
        have hp : (upd H3 p (.lst (ar.map V.ref))) p = some (.lst (ar.map V.ref)) := upd_same
        generalize upd H3 p (.lst (ar.map V.ref)) = H4 at *
        clear np
        refine ⟨p, rfl, ⟨_, SqL.of hp⟩, for_list (K := K) (a := p) (xs := ar.map V.ref) (fun i σ H' => ∃ (x7 : V) (x8 : Option V), σ = [some (.ref pn), some (.ref pd), some (.str nd.nm), some (.ref pa), some (.ref pi), some (.ref D), some (.ref D2), some x7, x8, none, none, none, none] ∧ Same H4 H' ∧
            ((castAll d0.sh ((rest.take i).map (·.sh)) = none ∧ x7 = .non) ∨ ∃ sh p, castAll d0.sh ((rest.take i).map (·.sh)) = some sh ∧ x7 = .ref p ∧ ShT K H' p sh ∧ NoD K H' p ∧ Fine sh ∧ sh.length ≤ 4 * (i + 1)))
          ⟨_, none, rfl, Same.refl _, .inr ⟨d0.sh, a0, rfl, rfl, hS0.same s4, hN0.same s4, g0.fi, g0.le⟩⟩ (fun i σ H' _ ⟨_, _, _, e, _⟩ => SqL.of (e _ _ hp)) ?_ ?_⟩
        · rintro i x σ H' hi ⟨x7, x8, rfl, s5, hx7⟩
          rw [List.getElem?_map] at hi
          obtain ⟨b, hb, rfl⟩ := Option.map_eq_some_iff.mp hi
          have hil : i < rest.length := by
            have h4 := (List.getElem?_eq_some_iff.mp hb).1
            omega
          have hrb : rest[i]? = some rest[i] := List.getElem?_eq_getElem hil
          obtain ⟨hSb, hNb⟩ := hSh.2 (i + 1) b rest[i] (by simpa using hb) (by simpa using hrb)
          have gb := hgd rest[i] (List.mem_cons_of_mem _ (List.getElem_mem hil))
          generalize rest[i] = db at hrb hSb gb
          have ec : castAll d0.sh ((rest.take (i + 1)).map (·.sh)) = castF (castAll d0.sh ((rest.take i).map (·.sh))) db.sh := by
            rw [take_snoc hrb, List.map_append]
            exact castAll_snoc _ _ _
          rw [ec]
          have hi2 : i < 2 := by
            rw [List.length_cons] at hgl
            omega
          rcases hx7 with ⟨en, rfl⟩ | ⟨sh, p7, es, rfl, hS7, hN7, hF7, hl7⟩
          · refine ⟨_, rfl, rfl, _, rfl, iteF ⟨_, _, rfl, s5, .inl ⟨?_, rfl⟩⟩⟩
            rw [en]
            rfl
          · refine ⟨_, rfl, rfl, _, rfl, iteT ⟨_, rfl, _, rfl, p7, b, sh, db.sh, rfl, hS7, hSb.same (s4.trans s5), hF7, by omega, by have := gb.le; omega, fun en H6 s6 => ?_, fun ad ea H6 p6 s6 hS6 hN6 => ?_⟩⟩
            · refine ⟨_, _, rfl, s5.trans s6, .inl ⟨?_, rfl⟩⟩
              rw [es]
              unfold castF
              dsimp only [Option.bind]
              rw [en]
              rfl
            · have ef : castF (some sh) db.sh = some (sh ++ ad) := by
                unfold castF
                dsimp only [Option.bind]
                rw [ea]
                rfl
              refine ⟨_, _, rfl, s5.trans s6, .inr ⟨sh ++ ad, p6, by rw [es]; exact ef, rfl, hS6, hN6, castF_fine ef hF7 gb.fi, ?_⟩⟩
              have := castF_len ef
              have := gb.le
              omega
        · rintro σ H5 ⟨x7, x8, rfl, s5, hx7⟩
          have hal7 : (ar.map V.ref).length = rest.length := by rw [List.length_map, hrl]
          rw [hal7, List.take_length] at hx7
          have s45 := s4.trans s5
          cases nd with
          | input _ _ _ => exact hc.elim
          | const _ _ => exact hc.elim
          | mv k as => exact absurd h12 (mv_nm k).2.2
          | bc k as =>
            refine ⟨_, rfl, rfl, _, rfl, ?_⟩
            refine iteFd (str_ne (bk_nm k).2.2.2) (iteF ⟨x7, x8, rfl, s45, ?_⟩)
            rcases hx7 with h | ⟨sh, p7, h1, h2, h3, h4, h5, h6⟩
            · exact .inl h
            · refine .inr ⟨sh, p7, h1, h2, h3, h4, h5.mod, ?_⟩
              rw [List.length_cons] at hgl
              omega
          | dot l as =>
            obtain ⟨d1, rfl⟩ : ∃ d1, rest = [d1] := by
              have : rest.length = 1 := by
                rw [List.length_cons] at hgl2
                have e : arN (.dot l as) = 2 := rfl
                omega
              match rest, this with
              | [d1], _ => exact ⟨d1, rfl⟩
            obtain ⟨a1, rfl⟩ : ∃ a1, ar = [a1] := by
              match ar, hrl with
              | [a1], _ => exact ⟨a1, rfl⟩
            refine ⟨_, rfl, rfl, _, rfl, iteT ?_⟩
            rcases hx7 with ⟨en, rfl⟩ | ⟨sh, p7, es, rfl, hS7, hN7, hF7, hl7⟩
            · refine ⟨_, rfl, rfl, _, rfl, iteF ⟨_, _, rfl, s45, .inl ⟨?_, rfl⟩⟩⟩
              show (castAll d0.sh [d1.sh]).bind _ = none
              rw [show castAll d0.sh [d1.sh] = none from en]
              rfl
            · have es : castAll d0.sh [d1.sh] = some sh := es
              refine ⟨_, rfl, rfl, _, rfl, iteT ?_⟩
              have hpi5 : SqT K H5 pi [.str (one l)] := sqT_same hpi2 s45
              have hps5 := sqL_same hps s45
              have hS05 := hS0.same s45
              have hS15 := (hSh.2 1 a1 d1 rfl rfl).1.same s45
              have bad : (sz d0.sh l = 0 ∨ sz d1.sh l = 0) → Q .non H5 := fun hz => (q _ (s02.trans s45)).1 (by
                show (shapeL (.dot l as) [d0, d1]).bind _ = none
                have : shapeL (.dot l as) [d0, d1] = none := by
                  show (castAll d0.sh [d1.sh]).bind _ = none
                  rw [es]
                  show (if _ then none else some _) = none
                  rw [if_pos hz]
                rw [this]
                rfl)
              refine ⟨_, rfl, D, _, (0 : Nat), _, rfl, rfl, hps5, i0, _, rfl, pi, _, (0 : Nat), _, rfl, rfl, hpi5, i0, a0, d0.sh, l, rfl, hS05, rfl, _, rfl, ite2 (fun e => iteT ?_) (fun e => ⟨_, rfl, D, _, (1 : Nat), _, rfl, rfl, hps5, i1, _, rfl, pi, _, (0 : Nat), _, rfl, rfl, hpi5, i0, a1, d1.sh, l, rfl, hS15, rfl, _, rfl, ite2 (fun e' => ?_) (fun e' => ?_)⟩)⟩
              · exact bad (.inl (V.int.inj (of_decide_eq_true e)))
              · exact bad (.inr (V.int.inj (of_decide_eq_true e')))
              · have hl8 : sh.length ≤ 8 := Nat.le_trans hl7 (by show 4 * (1 + 1) ≤ 8; decide)
                have z0 : ¬ sz d0.sh l = 0 := fun z => e (decide_eq_true (congrArg V.int z))
                have z1 : ¬ sz d1.sh l = 0 := fun z => e' (decide_eq_true (congrArg V.int z))
                obtain ⟨ts, ht7, hx⟩ := id hS7
                refine ⟨_, rfl, p7, rfl, ⟨_, ht7⟩, fun L nL => lc_tup (K := K) (a := p7) (xs := ts.map V.ref) (fun i H' => ∃ ts' : List Addr, Same H5 H' ∧ H' L = some (.lst (ts'.map V.ref)) ∧ ts'.length ≤ i ∧ Axes K H5 ts' (dropL (sh.take i) l))
                  ⟨[], same_upd nL, upd_same, Nat.le_refl _, Axes.nil⟩ (fun i H' _ ⟨_, e, _⟩ => sqT_same ht7 e) ?_ ?_⟩
                · rintro i x H' hi ⟨ts', sm, hL, hlt, hx'⟩
                  obtain ⟨t, p, rfl, g1, g2, g3⟩ := hx.at hi
                  have hil : i < sh.length := (List.getElem?_eq_some_iff.mp g2).1
                  refine ⟨rfl, _, rfl, t, _, (0 : Nat), _, rfl, rfl, sqT_same g3 sm, i0, _, rfl, pi, _, (0 : Nat), _, rfl, rfl, sqT_same hpi5 sm, i0, rfl, _, rfl, ?_⟩
                  rw [take_snoc g2, dropL_snoc]
                  by_cases hp : p.1 = l
                  · rw [if_pos hp, List.append_nil, decide_eq_true (by rw [hp] : V.str (one p.1) = V.str (one l))]
                    exact iteF ⟨ts', sm, hL, by omega, hx'⟩
                  · rw [if_neg hp, decide_eq_false (fun z => hp (one_inj (by injection z)))]
                    refine iteT ⟨_, rfl, _, hL, ?_, ts' ++ [t], fun b o e => by rw [upd_ne (ne_of_none e nL)]; exact sm _ _ e, by rw [upd_same, List.map_append]; rfl, by rw [List.length_append]; exact Nat.succ_le_succ hlt, hx'.snoc g3⟩
                    rw [List.length_map]
                    exact small1000 (by omega)
                · rintro H6 ⟨ts', s6, hL, hlt, hx'⟩
                  rw [show (ts.map V.ref).length = sh.length by rw [List.length_map, hx.1], List.take_length] at hx'
                  refine ⟨L, _, rfl, SqL.of hL, fun p o np hpl => ?_⟩
                  have s7 := same_upd (o := .frz o (.tup (ts'.map V.ref))) np
                  refine ⟨_, _, rfl, (s45.trans s6).trans s7, .inr ⟨dropL sh l, p, ?_, rfl, ⟨ts', .inl (.inr ⟨o, upd_same⟩), hx'.same (s6.trans s7)⟩, ⟨o, hpl, .inl ⟨_, upd_same⟩⟩, fun p hp => hF7.mod p (dropL_mem hp), ?_⟩⟩
                  · show (castAll d0.sh [d1.sh]).bind _ = some (dropL sh l)
                    rw [es]
                    show (if _ then none else some _) = _
                    rw [if_neg (fun z => z.elim z0 z1)]
                  · have := List.length_filter_le (fun p : Nat × Int => decide (p.1 ≠ l)) sh
                    show (dropL sh l).length ≤ 32
                    unfold dropL
                    have e7 : ([d1] : List Dom).length = 1 := rfl
                    rw [e7] at hl7
                    omega
      · refine iteFd (decide_eq_false h12) ?_
        cases nd with
        | input _ _ _ => exact hc.elim
        | const _ _ => exact hc.elim
        | bc k as => exact absurd (bk_nm k).2.2.1 h12
        | dot l as => exact absurd (by decide +kernel : ("dot" : Str) ∈ L12) h12
        | mv k as =>
          have hps3 := sqL_same hps s3
          have hpi3 : SqT K H3 pi k.fs := sqT_same hpi2 s3
          have gg := hgd
          rcases arN_mv k as with e1 | e1
          · obtain rfl : rest = [] := by
              rw [e1, List.length_cons] at hgl2
              exact List.eq_nil_of_length_eq_zero (by omega)
            obtain rfl : ar = [] := List.eq_nil_of_length_eq_zero (by rw [hrl]; rfl)
            refine ⟨_, rfl, _, rfl, D, _, (0 : Nat), _, rfl, rfl, hps3, i0, _, rfl, _, rfl, D, _, rfl, .inl hps3, _, _, rfl, rfl, D, _, (0 : Nat), _, rfl, rfl, hps3, i0, _, rfl, k, a0, a0, pi, d0.sh, d0.sh, rfl, hS0.same s3, hN0.same s3, hS0.same s3, hpi3, g0.le, g0.le, g0.fi, g0.lw, hok.1, fun H4 s4 => ⟨fun en => ?_, fun sh es p hp hn => ?_⟩⟩
            · exact ⟨_, _, rfl, s3.trans s4, .inl ⟨en, rfl⟩⟩
            · obtain ⟨m1, m2⟩ := mvS_ok hok.2 g0.fi g0.fi g0.le g0.le es
              exact ⟨_, _, rfl, s3.trans s4, .inr ⟨sh, p, es, rfl, hp, hn, m1, m2⟩⟩
          · obtain ⟨d1, rfl⟩ : ∃ d1, rest = [d1] := by
              have : rest.length = 1 := by
                rw [e1, List.length_cons] at hgl2
                omega
              match rest, this with
              | [d1], _ => exact ⟨d1, rfl⟩
            obtain ⟨a1, rfl⟩ : ∃ a1, ar = [a1] := by
              match ar, hrl with
              | [a1], _ => exact ⟨a1, rfl⟩
            have g1 := hgd d1 (List.mem_cons_of_mem _ (List.mem_cons_self ..))
            have hS1 := (hSh.2 1 a1 d1 rfl rfl).1.same s3
            refine ⟨_, rfl, _, rfl, D, _, (0 : Nat), _, rfl, rfl, hps3, i0, _, rfl, _, rfl, D, _, rfl, .inl hps3, _, _, rfl, rfl, D, _, (1 : Nat), _, rfl, rfl, hps3, i1, _, rfl, k, a0, a1, pi, d0.sh, d1.sh, rfl, hS0.same s3, hN0.same s3, hS1, hpi3, g0.le, g1.le, g0.fi, g0.lw, hok.1, fun H4 s4 => ⟨fun en => ?_, fun sh es p hp hn => ?_⟩⟩
            · exact ⟨_, _, rfl, s3.trans s4, .inl ⟨en, rfl⟩⟩
            · obtain ⟨m1, m2⟩ := mvS_ok hok.2 g0.fi g1.fi g0.le g1.le es
              exact ⟨_, _, rfl, s3.trans s4, .inr ⟨sh, p, es, rfl, hp, hn, m1, m2⟩⟩
    · -- the end
      rintro σ' H3 ⟨x7, x8, rfl, s3, hx7⟩
      have eL := lawD_compu hc gs
      have s03 := s02.trans s3
      rcases hx7 with ⟨en, rfl⟩ | ⟨sh, p7, es, rfl, hS7, hN7, hM7, hl7⟩
      · refine ⟨_, rfl, rfl, _, rfl, iteT (iteT ((q _ s03).1 ?_))⟩
        rw [eL, en]
        rfl
      rw [es] at eL
      have eL : lawD nd gs = finL nd gs sh := eL
      unfold finL at eL
      obtain ⟨ts, ht7, hx⟩ := id hS7
      have htl : (ts.map V.ref).length = sh.length := by rw [List.length_map, hx.1]
      refine ⟨_, rfl, rfl, _, rfl, iteF ⟨_, rfl, p7, _, rfl, .inr ht7, _, _, rfl, rfl, _, rfl, ?_⟩⟩
      rw [htl]
      refine ite2 (fun e => iteT ((q _ s03).1 ?_)) (fun e => ⟨_, rfl, p7, sh, rfl, hS7, hM7, _, _, rfl, rfl, _, rfl, ite2 (fun e' => (q _ s03).1 ?_) (fun e' => ?_)⟩)
      · have e : (4 : Int) < (sh.length : Int) := of_decide_eq_true e
        rw [eL, if_pos (.inl (by omega))]
      · rw [eL, if_pos (.inr (of_decide_eq_true e'))]
      have n1 : ¬ (4 < sh.length ∨ 256 < prod (sizes sh)) := by
        rintro (z | z)
        · exact e (decide_eq_true (by show (4 : Int) < (sh.length : Int); omega))
        · exact e' (decide_eq_true z)
      rw [if_neg n1] at eL
      refine ⟨_, rfl, p7, rfl, ⟨_, ht7⟩, fun L nL => lc_tup (K := K) (a := p7) (xs := ts.map V.ref) (fun i H' => Same H3 H' ∧ H' L = some (.lst (((sh.take i).map fun p => decide (1 ≤ p.2) && decide (p.2 ≤ 16)).map V.bl)))
        ⟨same_upd nL, upd_same⟩ (fun i H' _ h => sqT_same ht7 h.1) ?_ ?_⟩
      · rintro i x H' hi ⟨sm, hL⟩
        obtain ⟨t, p, rfl, g1, g2, g3⟩ := hx.at hi
        have hil : i < sh.length := (List.getElem?_eq_some_iff.mp g2).1
        have hle : (((sh.take i).map fun p => decide (1 ≤ p.2) && decide (p.2 ≤ 16)).map V.bl).length < sizeLine := by
          rw [List.length_map, List.length_map, List.length_take]
          exact small1000 (by omega)
        have sL : ∀ o : HO, Same H3 (upd H' L o) := fun o b u z => by rw [upd_ne (ne_of_none z nL)]; exact sm _ _ z
        refine ⟨rfl, ?_⟩
        unfold tYes
        dsimp only
        rw [if_pos rfl]
        refine ⟨_, rfl, t, _, (1 : Nat), _, rfl, rfl, sqT_same g3 sm, i1, _, _, rfl, rfl, _, rfl, ite2 (fun e1 => ⟨_, _, rfl, rfl, _, hL, hle, sL _, ?_⟩) (fun e1 => ⟨_, hL, hle, sL _, ?_⟩)⟩
        · rw [upd_same, take_snoc g2, List.map_append, List.map_append]
          show _ = some (HO.lst (_ ++ [V.bl (decide (1 ≤ p.2) && decide (p.2 ≤ 16))]))
          rw [show decide (1 ≤ p.2) = true from e1, Bool.true_and]
        · rw [upd_same, take_snoc g2, List.map_append, List.map_append]
          show _ = some (HO.lst (_ ++ [V.bl (decide (1 ≤ p.2) && decide (p.2 ≤ 16))]))
          rw [show decide (1 ≤ p.2) = false from Bool.eq_false_iff.mpr e1, Bool.false_and]
      · rintro H4 ⟨s4, hL⟩
        rw [htl, List.take_length] at hL
        refine ⟨L, _, rfl, SqL.of hL, _, rfl, ?_⟩
        have s04 := s03.trans s4
        have ef : (sh.map fun p => decide (1 ≤ p.2) && decide (p.2 ≤ 16)).all id = fineB sh := by
          unfold fineB
          rw [List.all_map]
          rfl
        rw [ef]
        cases hfb : fineB sh with
        | false =>
          rw [hfb, if_neg Bool.false_ne_true] at eL
          exact iteT ((q _ s04).1 eL)
        | true =>
          rw [hfb, if_pos rfl] at eL
          refine iteF ?_
          have s24 := s3.trans s4
          have hsd : isDone nd := by
            cases nd with
            | input _ _ _ => exact hc.elim
            | const _ _ => exact hc.elim
            | bc k as => cases k <;> first | exact hok | exact trivial
            | dot l as => exact trivial
            | mv k as => exact trivial
          refine ⟨_, rfl, _, rfl, _, rfl, _, rfl, nd, pi, D, D2, as, ws, gs, rfl, sqL_same hps s24, sqL_same hpg s24, hpi2.keep (Same.nl s24), hSh.same s24, hIv.same s24, hsd, hgl2, fun d hd => ⟨(hgd d hd).lo, (hgd d hd).hi, (hgd d hd).fi, (hgd d hd).le⟩, fun H5 p5 s5 hp5 => ⟨p5, _, rfl, hp5, rfl, _, _, rfl, _, _, rfl, rfl, ?_⟩⟩
          have s05 := s04.trans s5
          refine ⟨_, rfl, _, _, rfl, rfl, ⟨by decide, by decide, by decide⟩, _, rfl, _, _, rfl, rfl, _, rfl, ite2 (fun e6 => iteT ((q _ s05).1 ?_)) (fun e6 => ⟨_, rfl, _, _, rfl, rfl, ⟨by decide, by decide, by decide⟩, _, _, rfl, rfl, _, rfl, ite2 (fun e7 => (q _ s05).1 ?_) (fun e7 => ?_)⟩)⟩
          · rw [eL, if_pos (.inl (of_decide_eq_true e6))]
          · rw [eL, if_pos (.inr (of_decide_eq_true e7))]
          · have n2 : ¬ ((spanL nd gs).1 < -W200 ∨ W200 < (spanL nd gs).2) := by
              rintro (z | z)
              · exact e6 (decide_eq_true z)
              · exact e7 (decide_eq_true z)
            rw [if_neg n2] at eL
            refine ⟨_, rfl, _, rfl, _, rfl, by show 3 ≤ sizeLine; decide, fun p8 n8 => ?_⟩
            have s8 := same_upd (o := .tup [.ref p7, .int (spanL nd gs).1, .int (spanL nd gs).2]) n8
            exact (q _ (s05.trans s8)).2 _ eL _ ⟨p8, p7, rfl, SqT.of upd_same, (hS7.same (s4.trans s5)).same s8, (hN7.same (s4.trans s5)).same s8⟩
end

def Kb (d : Addr) (H H' : Hp) : Prop := ∀ b o, b ≠ d → H b = some o → H' b = some o
theorem Kb.refl (d : Addr) (H : Hp) : Kb d H H := fun _ _ _ h => h
theorem Kb.trans {d : Addr} {H H1 H2 : Hp} (a : Kb d H H1) (b : Kb d H1 H2) : Kb d H H2 := fun c o n h => b c o n (a c o n h)
theorem But.kb {d : Addr} {H H' : Hp} (k : But d H H') : Kb d H H' := fun b o n h => by rw [k b n]; exact h
theorem Same.kb {d : Addr} {H H' : Hp} (k : Same H H') : Kb d H H' := fun b o _ h => k b o h
theorem Kb.nl {d c : Addr} {H H' : Hp} (k : Kb d H H') (h : DrAt H d c) : NL H H' := fun b o e => by
  by_cases hb : b = d
  · subst hb
    obtain ⟨xs, hx⟩ := h.lst
    rw [hx] at e
    exact .inl ⟨xs, (Option.some.inj e).symm⟩
  · exact .inr (k b o hb e)
theorem new_ne {H : Hp} {d c D : Addr} (dr : DrAt H d c) (n : H D = none) : D ≠ d ∧ D ≠ c := ⟨(ne_of_none dr.lst.choose_spec n).symm, (ne_of_none dr.lstc.choose_spec n).symm⟩
theorem bnd_le {m : Int} (h : m ≤ 10000000000) : Bnd m := by
  unfold Bnd
  have : (10000000000 : Int) < 2 ^ 400 := by decide +kernel
  omega
def rNotSign : R2 := fun x y H Q => ∃ (c : Nat) (z : Str), x = .str ⟨#[c]⟩ ∧ y = .str z ∧ Q (.bl (!decide (c ∈ z.cps.toList))) H
def AllK : List Str := ["input", "const", "add", "sub", "mul", "max", "min", "less", "equal", "neg", "clamp", "shift", "where", "sum", "peak", "dot", "order", "rename", "spread", "cut", "pad", "join", "window", "fold", "gather"]
theorem cut_strs (zs : List Str) (lo hi : Option Int) : ∃ zs' : List Str, cutV (zs.map V.str) lo hi = zs'.map V.str ∧ zs'.Sublist zs := by
  refine ⟨(zs.drop (HT.sIx (zs.map V.str).length 0 lo)).take (HT.sIx (zs.map V.str).length (zs.map V.str).length hi - HT.sIx (zs.map V.str).length 0 lo), ?_, ?_⟩
  · rw [List.map_take, List.map_drop]
    rfl
  · exact (List.take_sublist _ _).trans (List.drop_sublist _ _)
theorem sub_len : ∀ (l m : List Nat), l.Nodup → (∀ x ∈ l, x ∈ m) → l.length ≤ m.length
  | [], _, _, _ => Nat.zero_le _
  | x :: l, m, hn, h => by
    have hx := h x (List.mem_cons_self ..)
    obtain ⟨hx2, hn2⟩ := List.nodup_cons.mp hn
    have ih := sub_len l (m.erase x) hn2 fun y hy => (List.mem_erase_of_ne (fun e => hx2 (by rw [← e]; exact hy))).mpr (h y (List.mem_cons_of_mem _ hy))
    rw [List.length_erase_of_mem hx] at ih
    have := List.length_pos_of_mem hx
    rw [List.length_cons]
    omega
section
variable {P : Program} {w : World} {K : PySem.W.Frag} {mg : Str → Option Value} {base : Heap}
def spKinds (_K : PySem.W.Frag) : Sp := fun vs H Q _ => ∃ (d c : Addr), vs = [.ref d] ∧ DrAt H d c ∧ ∀ H' p zs, Kb d H H' → DrAt H' d c → H' p = some (.lst (zs.map V.str)) → p ≠ d → zs ≠ [] → zs.length ≤ 30 → (∀ z ∈ zs, z ∈ AllK) → Q (.ref p) H'
abbrev nKi : List Str := ["d", "menu"]
theorem scKi : FnScope nKi ["d"] (defScope s_law_kinds) := ⟨rfl, rfl, rfl, by decide +kernel, rfl, by decide +kernel, by decide +kernel⟩
theorem ok_kinds {f : Addr} {fd : FuncData} (F : Fun K "_law_kinds" "_law_kinds" s_law_kinds f fd) (cT : Calls P w K mg base CX0 1 "_law_take" ["d", "many"] spTake) : FnOk P w K mg base CX0 2 f fd ["d"] (spKinds K) := by
  obtain ⟨fT, dT, GT, kT, bT, gT⟩ := cT.ex
  refine F.ok scKi (fun vs H Q E h => ?_) (fun cdv A outer s H vs Q E hr1 h => ?_)
  · obtain ⟨d, c, rfl, _⟩ := h
    rfl
  · obtain ⟨d, c, rfl, dr, q⟩ := h
    refine ⟨_, (pss_cons (ps_set (i := 1) scKi.nd rfl (.inl rfl) (pe_lst (pa_cons pe_str (pa_cons pe_str (pa_cons pe_str (pa_cons pe_str (pa_cons pe_str (pa_cons pe_str (pa_cons pe_str (pa_cons pe_str (pa_cons pe_str (pa_cons pe_str (pa_cons pe_str (pa_cons pe_str (pa_cons pe_str (pa_cons pe_str (pa_cons pe_str (pa_cons pe_str (pa_cons pe_str (pa_cons pe_str (pa_cons pe_str (pa_cons pe_str (pa_cons pe_str (pa_cons pe_str (pa_cons pe_str (pa_cons pe_str (pa_cons pe_str pa_nil)))))))))))))))))))))))))))
      (pss_cons (ps_if (pt_cmpR op_eq (pe_call GT hr1 (by rfl) gT kT bT .nil pass0 (pa_cons (pv 0) (pa_cons pe_int pa_nil))) pe_int (nomark _)) (pss_one (ps_ret (pe_op op_cat (pe_slice sl_list (pv 1) (po_some (pe_call GT hr1 (by rfl) gT kT bT .nil pass0 (pa_cons (pv 0) (pa_cons pe_int pa_nil)))) po_none) (pe_lst (pa_cons pe_str pa_nil))))) pss_nil)
      (pss_one (ps_ret (pv 1))))), ?_⟩
    refine ⟨by show 25 ≤ sizeLine; decide, fun p np => ?_⟩
    have s1 := same_upd (o := .lst (AllK.map V.str)) np
    obtain ⟨hpd, hpc⟩ := new_ne dr np
    have hp : (upd H p (.lst (AllK.map V.str))) p = some (.lst (AllK.map V.str)) := upd_same
    have dr1 := dr.same s1
    refine ⟨_, rfl, d, c, 3, rfl, dr1, by decide, bnd_le (by decide), fun H2 v k2 dr2 v0 v1 => ⟨rfl, _, rfl, ite2 (fun _ => ?_) (fun _ => ?_)⟩⟩
    · have hp2 : H2 p = some (.lst (AllK.map V.str)) := by rw [k2 p hpd]; exact hp
      refine ⟨_, rfl, _, rfl, d, c, 12, rfl, dr2, by decide, bnd_le (by decide), fun H3 v' k3 dr3 v0 v1 => ⟨_, rfl, p, _, rfl, SqL.of (by rw [k3 p hpd]; exact hp2), fun p2 np2 => ?_⟩⟩
      obtain ⟨zs, ez, hz⟩ := cut_strs AllK (some v') none
      have s4 := same_upd (o := .lst (cutV (AllK.map V.str) (some v') none)) np2
      refine ⟨by show 1 ≤ sizeLine; decide, fun p3 np3 => ⟨p2, p3, _, _, rfl, rfl, same_upd np3 _ _ upd_same, upd_same, ?_, fun p4 np4 => ?_⟩⟩
      · rw [ez, List.length_map]
        have h1 := hz.length_le
        have h2 : AllK.length = 25 := rfl
        exact Nat.le_trans (Nat.add_le_add_right (Nat.le_trans h1 (Nat.le_of_eq h2)) 1) (by decide)
      · have s5 := same_upd (o := .lst [.str "input"]) np3
        have s6 := same_upd (o := .lst (cutV (AllK.map V.str) (some v') none ++ [.str "input"])) np4
        have s46 := (s4.trans s5).trans s6
        have dr3' := ((dr3.same s4).same s5)
        refine q _ p4 (zs ++ (["input"] : List Str)) ((((Same.kb s1).trans k2.kb).trans k3.kb).trans (Same.kb s46)) (dr3'.same s6) ?_ (new_ne dr3' np4).1 (by simp) ?_ ?_
        · rw [upd_same, ez, List.map_append]
          rfl
        · rw [List.length_append]
          have h1 := hz.length_le
          have h2 : AllK.length = 25 := rfl
          show zs.length + 1 ≤ 30
          omega
        · intro z h
          rcases List.mem_append.mp h with h | h
          · exact hz.subset h
          · rw [List.mem_singleton] at h
            rw [h]
            decide +kernel
    · exact ⟨_, rfl, q _ p AllK ((Same.kb s1).trans k2.kb) dr2 (by rw [k2 p hpd]; exact hp) hpd (by decide) (by decide) fun z h => h⟩
def spLetters (_K : PySem.W.Frag) : Sp := fun vs H Q _ => ∃ (d c : Addr) (z : Str) (n : Nat), vs = [.ref d, .str z, .int (n : Int)] ∧ DrAt H d c ∧ z.cps.toList.Nodup ∧ n ≤ z.cps.toList.length ∧ z.cps.toList.length ≤ 30 ∧
  ∀ (H' : Hp) (ms : List Nat), Kb d H H' → DrAt H' d c → ms.length = n → ms.Nodup → (∀ c ∈ ms, c ∈ z.cps.toList) → Q (.str ⟨ms.toArray⟩) H'
abbrev nLe : List Str := ["d", "names", "many", "out", "k", "rest", "letter"]
theorem scLe : FnScope nLe ["d", "names", "many"] (defScope s_law_letters) := ⟨rfl, rfl, rfl, by decide +kernel, rfl, by decide +kernel, by decide +kernel⟩
theorem ok_letters {f : Addr} {fd : FuncData} (F : Fun K "_law_letters" "_law_letters" s_law_letters f fd) (T : TxtG mg) (cT : Calls P w K mg base CX0 1 "_law_take" ["d", "many"] spTake) : FnOk P w K mg base CX0 2 f fd ["d", "names", "many"] (spLetters K) := by
  obtain ⟨fT, dT, GT, kT, bT, gT⟩ := cT.ex
  refine F.ok scLe (fun vs H Q E h => ?_) (fun cdv A outer s H vs Q E hr1 h => ?_)
  · obtain ⟨d, c, z, n, rfl, _⟩ := h
    rfl
  · obtain ⟨d, c, z, n, rfl, dr, hzn, hnl, hzl, q⟩ := h
    refine ⟨_, (pss_cons (ps_set (i := 3) scLe.nd rfl (.inr rfl) pe_str)
      (pss_cons (ps_for PassesOwn.never rfl (pi_range1 rfl T.range (pa_cons (pv 2) pa_nil)) (pg_name (i := 4) scLe.nd rfl (.inl rfl)) (pss_cons (ps_setLc (i := 5) (own := [("letter", 6)]) (g := (gName 6)) (tt := (tTest (tOp rNotSign (tVar 6) (tVar 3)))) (te := (tVar 6)) (by rfl) scLe.nd rfl rfl (sw_true rfl rfl rfl (by decide +kernel)) (pi_str (pv 1)) (blkOk_by (N := nLe) (sc := defScope s_law_letters) (by decide +kernel)) (fun _ _ _ _ _ => (pg_name (i := 6) scLe.nd rfl (.inl rfl) (hf := Or.inr rfl))) (fun _ _ _ _ _ => pts_one (pt_cmpR op_notIn_sign (pv 6) (pv 3) rfl)) (fun _ _ _ _ _ => (pv 6)))
      (pss_one (ps_set (i := 3) scLe.nd rfl (.inr rfl) (pe_op op_add_str (pv 3) (pe_ix ix_list (pv 5) (pe_call GT hr1 (by rfl) gT kT bT .nil pass0 (pa_cons (pv 0) (pa_cons (pe_callB call_len_seq (by rfl) T.len PySem.boot_len (pa_cons (pv 5) pa_nil)) pa_nil))) (fun _ _ => rfl)))))))
      (pss_one (ps_ret (pv 3))))), ?_⟩
    refine ⟨_, rfl, _, rfl, by omega, by omega, for_range (lo := 0) (n := ((n : Nat) : Int).toNat) (fun i σ H' => ∃ (v4 v5 : Option V) (ms : List Nat), σ = [some (.ref d), some (.str z), some (.int (n : Int)), some (.str ⟨ms.toArray⟩), v4, v5, none] ∧ Kb d H H' ∧ DrAt H' d c ∧ ms.length = i ∧ ms.Nodup ∧ ∀ c ∈ ms, c ∈ z.cps.toList)
      ⟨none, none, [], rfl, Kb.refl _ _, dr, rfl, List.nodup_nil, fun _ h => by cases h⟩ ?_ ?_⟩
    · rintro i σ H1 hi ⟨v4, v5, ms, rfl, kb1, dr1, hml, hmn, hms⟩
      refine ⟨_, rfl, z, rfl, fun D nD => lc_it walk_str (fun j H' => Same H1 H' ∧ H' D = some (.lst (((z.cps.toList.take j).filter fun c => !decide (c ∈ ms)).map fun c => V.str (one c)))) ⟨same_upd nD, upd_same⟩ (fun _ _ _ _ => trivial) ?_ ?_⟩
      · rintro j x H' H'' hj ⟨sm, hD⟩ ⟨rfl, ch, hch, rfl⟩
        have hch' : z.cps.toList[j]? = some ch := by rw [Array.getElem?_toList]; exact hch
        refine ⟨rfl, _, rfl, _, rfl, ch, _, rfl, rfl, _, rfl, ?_⟩
        rw [take_snoc hch', List.filter_append, List.map_append]
        show if (!decide (ch ∈ ms)) = true then _ else _
        have hlen : (((z.cps.toList.take j).filter fun c => !decide (c ∈ ms)).map fun c => V.str (one c)).length < sizeLine := by
          rw [List.length_map]
          refine small1000 (Nat.le_trans (List.length_filter_le _ _) ?_)
          rw [List.length_take]
          omega
        by_cases hc : ch ∈ ms
        · rw [decide_eq_true hc]
          refine iteF ⟨sm, ?_⟩
          rw [show [ch].filter (fun c => !decide (c ∈ ms)) = [] by simp [hc], List.map_nil, List.append_nil]
          exact hD
        · rw [decide_eq_false hc]
          refine iteT ⟨_, rfl, _, hD, hlen, fun b o e => by rw [upd_ne (ne_of_none e nD)]; exact sm _ _ e, ?_⟩
          rw [upd_same, show [ch].filter (fun c => !decide (c ∈ ms)) = [ch] by simp [hc]]
          rfl
      · rintro H2 ⟨sm, hD⟩
        rw [show z.cps.size = z.cps.toList.length from Array.length_toList.symm, List.take_length] at hD
        obtain ⟨hDd, hDc⟩ := new_ne dr1 nD
        have dr2 := dr1.same sm
        have hne : 0 < (z.cps.toList.filter fun c => !decide (c ∈ ms)).length := by
          refine Nat.pos_of_ne_zero fun e => ?_
          have e := List.filter_eq_nil_iff.mp (List.eq_nil_of_length_eq_zero e)
          have := sub_len _ ms hzn fun x hx => by
            have := e x hx
            by_cases hx2 : x ∈ ms
            · exact hx2
            · exact absurd (by rw [decide_eq_false hx2]; rfl) this
          omega
        have hle : (z.cps.toList.filter fun c => !decide (c ∈ ms)).length ≤ 30 := Nat.le_trans (List.length_filter_le _ _) hzl
        have hmem : ∀ c ∈ z.cps.toList.filter fun c => !decide (c ∈ ms), c ∈ z.cps.toList ∧ c ∉ ms := fun c hc => by
          obtain ⟨h1, h2⟩ := List.mem_filter.mp hc
          refine ⟨h1, fun h3 => ?_⟩
          rw [decide_eq_true h3] at h2
          cases h2
        generalize (z.cps.toList.filter fun c => !decide (c ∈ ms)) = rest at *
        refine ⟨_, rfl, _, rfl, _, rfl, _, rfl, D, _, rfl, .inl (SqL.of hD), d, c, _, rfl, dr2, by rw [List.length_map]; omega, bnd_le (by rw [List.length_map]; omega), fun H3 v k3 dr3 v0 v1 => ?_⟩
        rw [List.length_map] at v1
        obtain ⟨vn, rfl⟩ : ∃ vn : Nat, v = (vn : Int) := ⟨v.toNat, by omega⟩
        have hr : rest[vn]? = some (rest[vn]'(by omega)) := List.getElem?_eq_getElem _
        obtain ⟨m1, m2⟩ := hmem _ (List.mem_of_getElem? hr)
        generalize (rest[vn]'(by omega)) = ch at hr m1 m2
        refine ⟨D, _, _, _, rfl, rfl, SqL.of (by rw [k3 D hDd]; exact hD), atI_nat (by rw [List.getElem?_map, hr]; rfl), _, _, rfl, rfl, ?_, some (.int (0 + (i : Int))), some (.ref D), ms ++ [ch], ?_, (kb1.trans (Same.kb sm)).trans k3.kb, dr3, ?_, ?_, ?_⟩
        · show (ms.toArray.size + 1) ≤ sizeLine
          rw [List.size_toArray]
          exact Nat.le_of_lt (small1000 (by omega))
        · rw [show (⟨(ms ++ [ch]).toArray⟩ : Str) = (⟨ms.toArray⟩ : Str) ++ one ch by
            show _ = (⟨ms.toArray ++ #[ch]⟩ : Str)
            congr 1
            simp]
          rfl
        · rw [List.length_append, hml]
          rfl
        · rw [List.nodup_append]
          refine ⟨hmn, (List.nodup_cons.mpr ⟨List.not_mem_nil, List.nodup_nil⟩), fun a ha b hb e => ?_⟩
          rw [List.mem_singleton] at hb
          subst hb e
          exact m2 ha
        · intro c hc
          rcases List.mem_append.mp hc with hc | hc
          · exact hms c hc
          · rw [List.mem_singleton] at hc
            subst hc
            exact m1
    · rintro σ H1 ⟨v4, v5, ms, rfl, kb1, dr1, hml, hmn, hms⟩
      exact ⟨_, rfl, q _ ms kb1 dr1 (by omega) hmn hms⟩
end

def MvG : Mv → Prop
  | .order ls => ls.length < 64 ∧ ∀ c ∈ ls, c < 128
  | .spread l z => l < 128 ∧ 1 ≤ z ∧ z ≤ 16
  | .rename l m => l < 128 ∧ m < 128
  | .cut l st ct => l < 128 ∧ 0 ≤ st ∧ st ≤ 16 ∧ 1 ≤ ct ∧ ct ≤ 16
  | .pad l x y => l < 128 ∧ 0 ≤ x ∧ x ≤ 16 ∧ 0 ≤ y ∧ y ≤ 16
  | .window l m w s => l < 128 ∧ m < 128 ∧ 1 ≤ w ∧ w ≤ 16 ∧ 1 ≤ s ∧ s ≤ 16
  | .fold l m s z => l < 128 ∧ m < 128 ∧ 1 ≤ s ∧ s ≤ 16 ∧ 0 ≤ z ∧ z ≤ 100
  | .sum l => l < 128
  | .peak l => l < 128
  | .join l => l < 128
  | .gather l => l < 128
/-- the fields of a computed node are in their ranges -/
def GoodF : Nd → Prop
  | .bc (.clamp lo hi) _ => lo ≤ hi ∧ -100 ≤ lo ∧ hi ≤ 100
  | .bc (.shift n) _ => 1 ≤ n ∧ n ≤ 30
  | .dot l _ => l < 128
  | .mv k _ => MvG k
  | _ => True
def CN : List Str := ["add", "sub", "mul", "max", "min", "less", "equal", "neg", "clamp", "shift", "where", "sum", "peak", "dot", "order", "rename", "spread", "cut", "pad", "join", "window", "fold", "gather"]
theorem ite_kind {kind z : Str} {A B : Prop} (h1 : kind = z → A) (h2 : kind ≠ z → B) : if decide (V.str kind = V.str z) = true then A else B := by
  by_cases h : kind = z
  · rw [if_pos (decide_eq_true (by rw [h]))]
    exact h1 h
  · rw [str_ne h, if_neg Bool.false_ne_true]
    exact h2 h
theorem ite_in {kind : Str} {zs : List Str} {A B : Prop} (h1 : kind ∈ zs → A) (h2 : kind ∉ zs → B) : if decide (kind ∈ zs) = true then A else B := by
  by_cases h : kind ∈ zs
  · rw [if_pos (decide_eq_true h)]
    exact h1 h
  · rw [if_neg (by rw [decide_eq_false h]; exact Bool.false_ne_true)]
    exact h2 h

theorem bk9 {kind : Str} (h : kind ∈ (["add", "sub", "mul", "max", "min", "less", "equal", "neg", "where"] : List Str)) : ∃ k : Bk, k.nm = kind ∧ k.fs = [] ∧ ∀ as, GoodF (.bc k as) := by
  simp only [List.mem_cons, List.not_mem_nil, or_false] at h
  rcases h with rfl | rfl | rfl | rfl | rfl | rfl | rfl | rfl | rfl
  · exact ⟨.add, rfl, rfl, fun _ => trivial⟩
  · exact ⟨.sub, rfl, rfl, fun _ => trivial⟩
  · exact ⟨.mul, rfl, rfl, fun _ => trivial⟩
  · exact ⟨.max, rfl, rfl, fun _ => trivial⟩
  · exact ⟨.min, rfl, rfl, fun _ => trivial⟩
  · exact ⟨.less, rfl, rfl, fun _ => trivial⟩
  · exact ⟨.equal, rfl, rfl, fun _ => trivial⟩
  · exact ⟨.neg, rfl, rfl, fun _ => trivial⟩
  · exact ⟨.wher, rfl, rfl, fun _ => trivial⟩
def OneK (K : PySem.W.Frag) (kind : Str) : Prop := ∃ mk : Nat → List Nat → Nd, ∀ l as, (mk l as).nm = kind ∧ (mk l as).args = as ∧ compu (mk l as) ∧ (l < 128 → GoodF (mk l as)) ∧ ∀ (H : Hp) (p : Addr), SqT K H p [.str (one l)] → InfoAt K H p (mk l as)
theorem one5 {K : PySem.W.Frag} {kind : Str} (h : kind ∈ CN) (n1 : kind ≠ "clamp") (n2 : kind ≠ "shift") (n3 : kind ≠ "order") (n4 : kind ≠ "spread") (n5 : kind ∉ (["add", "sub", "mul", "max", "min", "less", "equal", "neg", "where"] : List Str)) (n6 : kind ≠ "rename") (n7 : kind ≠ "cut") (n8 : kind ≠ "pad") (n9 : kind ≠ "window") (n10 : kind ≠ "fold") : OneK K kind := by
  unfold CN at h
  simp only [List.mem_cons, List.not_mem_nil, or_false, not_or] at h n5
  obtain ⟨m1, m2, m3, m4, m5, m6, m7, m8, m9⟩ := n5
  rcases h with h | h | h | h | h | h | h | h | h | h | h | h | h | h | h | h | h | h | h | h | h | h | h
  all_goals first
    | exact absurd h m1 | exact absurd h m2 | exact absurd h m3 | exact absurd h m4 | exact absurd h m5 | exact absurd h m6 | exact absurd h m7 | exact absurd h m8 | exact absurd h m9
    | exact absurd h n1 | exact absurd h n2 | exact absurd h n3 | exact absurd h n4 | exact absurd h n6 | exact absurd h n7 | exact absurd h n8 | exact absurd h n9 | exact absurd h n10
    | skip
  · subst h; exact ⟨fun l as => .mv (.sum l) as, fun l as => ⟨rfl, rfl, trivial, fun z => z, fun _ _ z => z⟩⟩
  · subst h; exact ⟨fun l as => .mv (.peak l) as, fun l as => ⟨rfl, rfl, trivial, fun z => z, fun _ _ z => z⟩⟩
  · subst h; exact ⟨fun l as => .dot l as, fun l as => ⟨rfl, rfl, trivial, fun z => z, fun _ _ z => z⟩⟩
  · subst h; exact ⟨fun l as => .mv (.join l) as, fun l as => ⟨rfl, rfl, trivial, fun z => z, fun _ _ z => z⟩⟩
  · subst h; exact ⟨fun l as => .mv (.gather l) as, fun l as => ⟨rfl, rfl, trivial, fun z => z, fun _ _ z => z⟩⟩
theorem ijk : ("ijkmpq" : Str).cps.toList.Nodup ∧ 1 ≤ ("ijkmpq" : Str).cps.toList.length ∧ ("ijkmpq" : Str).cps.toList.length ≤ 30 ∧ ∀ c ∈ ("ijkmpq" : Str).cps.toList, c < 128 := by decide +kernel
theorem vww : ("vw" : Str).cps.toList.Nodup ∧ 1 ≤ ("vw" : Str).cps.toList.length ∧ ("vw" : Str).cps.toList.length ≤ 30 ∧ ∀ c ∈ ("vw" : Str).cps.toList, c < 128 := by decide +kernel
theorem one_ne {a b : Nat} : (!decide (V.str (one a) = V.str (one b))) = !decide (a = b) := by
  congr 1
  rw [decide_eq_decide]
  refine ⟨fun h => ?_, fun h => by rw [h]⟩
  injection h with h
  have := congrArg (fun z : Str => z.cps.toList) h
  exact List.cons.inj this |>.1
theorem ite_neb {x y : V} {A B : Prop} (h1 : x ≠ y → A) (h2 : x = y → B) : if (!decide (x = y)) = true then A else B := by
  by_cases h : x = y
  · rw [decide_eq_true h]
    exact iteF (h2 h)
  · rw [decide_eq_false h]
    exact iteT (h1 h)
theorem cmul_sm {x y : Int} (h : -1000 ≤ x) (h2 : x ≤ 1000) : CMul x y := .inl ⟨by omega, by omega⟩
section
variable {P : Program} {w : World} {K : PySem.W.Frag} {mg : Str → Option Value} {base : Heap}
def spInfo (K : PySem.W.Frag) : Sp := fun vs H Q _ => ∃ (d c a b : Addr) (kind : Str) (sh : Sh), vs = [.ref d, .str kind, .ref a, .ref b] ∧ DrAt H d c ∧ kind ∈ CN ∧ ShT K H a sh ∧ chk sh = 0 ∧ Low sh ∧
  ∀ (H' : Hp) (p : Addr) (mk : List Nat → Nd), Kb d H H' → DrAt H' d c → (∀ as, (mk as).nm = kind ∧ (mk as).args = as ∧ compu (mk as) ∧ GoodF (mk as) ∧ InfoAt K H' p (mk as)) → Q (.ref p) H'
abbrev nIf : List Str := ["d", "kind", "shape", "other", "names", "low", "k", "n", "start", "rest", "second", "stride", "letter"]
theorem scIf : FnScope nIf ["d", "kind", "shape", "other"] (defScope s_law_info) := ⟨rfl, rfl, rfl, by decide +kernel, rfl, by decide +kernel, by decide +kernel⟩
theorem ok_info {f : Addr} {fd : FuncData} (F : Fun K "_law_info" "_law_info" s_law_info f fd) (T : TxtG mg) (cT : Calls P w K mg base CX0 1 "_law_take" ["d", "many"] spTake) (cS : Calls P w K mg base CX0 2 "_law_signed" ["d", "most"] spSigned) (cNm : Calls P w K mg base CX0 1 "_law_names" ["shape"] (spLettersOf K)) (cLe : Calls P w K mg base CX0 2 "_law_letters" ["d", "names", "many"] (spLetters K)) (cSz : Calls P w K mg base CX0 1 "_law_size" ["shape", "letter"] (spSizeT K)) : FnOk P w K mg base CX0 3 f fd ["d", "kind", "shape", "other"] (spInfo K) := by
  obtain ⟨fT, dT, GT, kT, bT, gT⟩ := cT.ex
  obtain ⟨fS, dS, GS, kS, bS, gS⟩ := cS.ex
  obtain ⟨fNm, dNm, GNm, kNm, bNm, gNm⟩ := cNm.ex
  obtain ⟨fLe, dLe, GLe, kLe, bLe, gLe⟩ := cLe.ex
  obtain ⟨fSz, dSz, GSz, kSz, bSz, gSz⟩ := cSz.ex
  refine F.ok scIf (fun vs H Q E h => ?_) (fun cdv A outer s H vs Q E hr2 h => ?_)
  · obtain ⟨d, c, a, b, kind, sh, rfl, _⟩ := h
    rfl
  · obtain ⟨d, c, a, b, kind, sh, rfl, dr, hk, ha, hch, hlow, q⟩ := h
    have hr1 : Room 1 _ := hr2.mono (by decide)
    obtain ⟨hle, hnd, hfi, _⟩ := chk_zero.mp hch
    refine ⟨_, (pss_cons (ps_set (i := 4) scIf.nd rfl (.inl rfl) (pe_call GNm hr1 (by rfl) gNm kNm bNm .nil pass0 (pa_cons (pv 2) pa_nil)))
      (pss_cons (ps_if (pt_cmpR op_eq (pv 1) pe_str (nomark _)) (pss_cons (ps_set (i := 5) scIf.nd rfl (.inl rfl) (pe_call GS hr2 (by rfl) gS kS bS .nil pass0 (pa_cons (pv 0) (pa_cons pe_int pa_nil))))
      (pss_one (ps_ret (pe_tup (pa_cons (pv 5) (pa_cons (pe_op op_add (pv 5) (pe_call GT hr1 (by rfl) gT kT bT .nil pass0 (pa_cons (pv 0) (pa_cons pe_int pa_nil)))) pa_nil)))))) pss_nil)
      (pss_cons (ps_if (pt_cmpR op_eq (pv 1) pe_str (nomark _)) (pss_one (ps_ret (pe_tup (pa_cons (pe_op op_add pe_int (pe_call GT hr1 (by rfl) gT kT bT .nil pass0 (pa_cons (pv 0) (pa_cons pe_int pa_nil)))) pa_nil)))) pss_nil)
      (pss_cons (ps_if (pt_cmpR op_eq (pv 1) pe_str (nomark _)) (pss_one (ps_ret (pe_tup (pa_cons (pe_call GLe hr2 (by rfl) gLe kLe bLe .nil pass0 (pa_cons (pv 0) (pa_cons (pv 4) (pa_cons (pe_callB call_len_str (by rfl) T.len PySem.boot_len (pa_cons (pv 4) pa_nil)) pa_nil)))) pa_nil)))) pss_nil)
      (pss_cons (ps_if (pt_cmpR op_eq (pv 1) pe_str (nomark _)) (pss_one (ps_ret (pe_tup (pa_cons (pe_call GLe hr2 (by rfl) gLe kLe bLe .nil pass0 (pa_cons (pv 0) (pa_cons pe_str (pa_cons pe_int pa_nil)))) (pa_cons (pe_op op_add pe_int (pe_call GT hr1 (by rfl) gT kT bT .nil pass0 (pa_cons (pv 0) (pa_cons pe_int pa_nil)))) pa_nil))))) pss_nil)
      (pss_cons (ps_if (pt_inS (zs := ["add", "sub", "mul", "max", "min", "less", "equal", "neg", "where"]) (by decide) (pv 1) (pa_cons pe_str (pa_cons pe_str (pa_cons pe_str (pa_cons pe_str (pa_cons pe_str (pa_cons pe_str (pa_cons pe_str (pa_cons pe_str (pa_cons pe_str pa_nil)))))))))) (pss_one (ps_ret (pe_tup pa_nil))) pss_nil)
      (pss_cons (ps_set (i := 6) scIf.nd rfl (.inr rfl) (pe_ifExp (pt_cmpR op_ne (pv 4) pe_str (nomark _)) (pe_ix ix_str (pv 4) (pe_call GT hr1 (by rfl) gT kT bT .nil pass0 (pa_cons (pv 0) (pa_cons (pe_callB call_len_str (by rfl) T.len PySem.boot_len (pa_cons (pv 4) pa_nil)) pa_nil))) (fun _ _ => rfl)) pe_str))
      (pss_cons (ps_set (i := 7) scIf.nd rfl (.inl rfl) (pe_callB (call_max2 rfl) (by rfl) T.max (by decide +kernel) (pa_cons pe_int (pa_cons (pe_call GSz hr1 (by rfl) gSz kSz bSz .nil pass0 (pa_cons (pv 2) (pa_cons (pv 6) pa_nil))) pa_nil))))
      (pss_cons (ps_if (pt_cmpR op_eq (pv 1) pe_str (nomark _)) (pss_one (ps_ret (pe_tup (pa_cons (pv 6) (pa_cons (pe_call GLe hr2 (by rfl) gLe kLe bLe .nil pass0 (pa_cons (pv 0) (pa_cons pe_str (pa_cons pe_int pa_nil)))) pa_nil))))) pss_nil)
      (pss_cons (ps_if (pt_cmpR op_eq (pv 1) pe_str (nomark _)) (pss_cons (ps_set (i := 8) scIf.nd rfl (.inl rfl) (pe_call GT hr1 (by rfl) gT kT bT .nil pass0 (pa_cons (pv 0) (pa_cons (pv 7) pa_nil))))
      (pss_one (ps_ret (pe_tup (pa_cons (pv 6) (pa_cons (pv 8) (pa_cons (pe_op op_add pe_int (pe_call GT hr1 (by rfl) gT kT bT .nil pass0 (pa_cons (pv 0) (pa_cons (pe_op op_sub (pv 7) (pv 8)) pa_nil)))) pa_nil))))))) pss_nil)
      (pss_cons (ps_if (pt_cmpR op_eq (pv 1) pe_str (nomark _)) (pss_one (ps_ret (pe_tup (pa_cons (pv 6) (pa_cons (pe_call GT hr1 (by rfl) gT kT bT .nil pass0 (pa_cons (pv 0) (pa_cons pe_int pa_nil))) (pa_cons (pe_call GT hr1 (by rfl) gT kT bT .nil pass0 (pa_cons (pv 0) (pa_cons pe_int pa_nil))) pa_nil)))))) pss_nil)
      (pss_cons (ps_if (pt_cmpR op_eq (pv 1) pe_str (nomark _)) (pss_one (ps_ret (pe_tup (pa_cons (pv 6) (pa_cons (pe_call GLe hr2 (by rfl) gLe kLe bLe .nil pass0 (pa_cons (pv 0) (pa_cons pe_str (pa_cons pe_int pa_nil)))) (pa_cons (pe_op op_add pe_int (pe_call GT hr1 (by rfl) gT kT bT .nil pass0 (pa_cons (pv 0) (pa_cons (pe_callB (call_min2 rfl) (by rfl) T.min (by decide +kernel) (pa_cons (pv 7) (pa_cons pe_int pa_nil))) pa_nil)))) (pa_cons (pe_op op_add pe_int (pe_call GT hr1 (by rfl) gT kT bT .nil pass0 (pa_cons (pv 0) (pa_cons pe_int pa_nil)))) pa_nil))))))) pss_nil)
      (pss_cons (ps_if (pt_cmpR op_eq (pv 1) pe_str (nomark _)) (pss_cons (ps_set (i := 9) scIf.nd rfl (.inl rfl) (pe_op op_cat (pe_lc (own := [("letter", 12)]) (g := (gName 12)) (tt := (tTest (tOp rNe (tVar 12) (tVar 6)))) (te := (tVar 12)) rfl scIf.nd (pi_str (pv 4)) (blkOk_by (N := nIf) (sc := defScope s_law_info) (by decide +kernel)) (fun _ _ _ _ _ => (pg_name (i := 12) scIf.nd rfl (.inl rfl) (hf := Or.inr rfl))) (fun _ _ _ _ _ => pts_one (pt_cmpR op_ne (pv 12) (pv 6) (nomark _))) (fun _ _ _ _ _ => (pv 12))) (pe_lst (pa_cons pe_str pa_nil))))
      (pss_cons (ps_set (i := 10) scIf.nd rfl (.inl rfl) (pe_ix ix_list (pv 9) (pe_call GT hr1 (by rfl) gT kT bT .nil pass0 (pa_cons (pv 0) (pa_cons (pe_callB (call_max2 rfl) (by rfl) T.max (by decide +kernel) (pa_cons pe_int (pa_cons (pe_op op_sub (pe_callB call_len_seq (by rfl) T.len PySem.boot_len (pa_cons (pv 9) pa_nil)) pe_int) pa_nil))) pa_nil))) (fun _ _ => rfl)))
      (pss_cons (ps_set (i := 11) scIf.nd rfl (.inl rfl) (pe_op op_add pe_int (pe_call GT hr1 (by rfl) gT kT bT .nil pass0 (pa_cons (pv 0) (pa_cons pe_int pa_nil)))))
      (pss_one (ps_ret (pe_tup (pa_cons (pv 6) (pa_cons (pv 10) (pa_cons (pv 11) (pa_cons (pe_op op_add (pe_op op_add (pe_op op_mul (pv 11) (pe_op op_sub (pv 7) pe_int)) (pe_callB (call_max2 rfl) (by rfl) T.max (by decide +kernel) (pa_cons pe_int (pa_cons (pe_call GSz hr1 (by rfl) gSz kSz bSz .nil pass0 (pa_cons (pv 2) (pa_cons (pv 10) pa_nil))) pa_nil)))) (pe_call GT hr1 (by rfl) gT kT bT .nil pass0 (pa_cons (pv 0) (pa_cons pe_int pa_nil)))) pa_nil)))))))))) pss_nil)
      (pss_one (ps_ret (pe_tup (pa_cons (pv 6) pa_nil))))))))))))))))), ?_⟩
    refine ⟨_, rfl, a, sh, rfl, ha, by omega, fun H1 s1 => ?_⟩
    have kb1 : Kb d H H1 := Same.kb s1
    have dr1 := dr.same s1
    have ha1 := ha.same s1
    refine ⟨_, rfl, rfl, _, rfl, ite_kind (fun hkd => ?_) (fun n1 => ?_)⟩
    · subst hkd
      refine ⟨_, rfl, d, c, 9, rfl, dr1, by decide, bnd_le (by decide), fun H2 v k2 dr2 v0 v1 => ?_⟩
      refine ⟨_, rfl, _, rfl, _, rfl, d, c, 12, rfl, dr2, by decide, bnd_le (by decide), fun H3 u k3 dr3 u0 u1 => ⟨_, _, rfl, rfl, by show 2 ≤ sizeLine; decide, fun p np => ?_⟩⟩
      exact q _ p (fun as => .bc (.clamp v (v + u)) as) (((kb1.trans k2.kb).trans k3.kb).trans (Same.kb (same_upd np))) (dr3.same (same_upd np)) fun as => ⟨rfl, rfl, trivial, ⟨by omega, by omega, by omega⟩, SqT.of upd_same⟩
    refine ⟨_, rfl, rfl, _, rfl, ite_kind (fun hkd => ?_) (fun n2 => ?_)⟩
    · subst hkd
      refine ⟨_, rfl, d, c, 3, rfl, dr1, by decide, bnd_le (by decide), fun H3 u k3 dr3 u0 u1 => ⟨_, _, rfl, rfl, by show 1 ≤ sizeLine; decide, fun p np => ?_⟩⟩
      obtain ⟨un, rfl⟩ : ∃ un : Nat, u = (un : Int) := ⟨u.toNat, by omega⟩
      have e : (1 : Int) + (un : Int) = ((1 + un : Nat) : Int) := by omega
      exact q _ p (fun as => .bc (.shift (1 + un)) as) ((kb1.trans k3.kb).trans (Same.kb (same_upd np))) (dr3.same (same_upd np)) fun as => ⟨rfl, rfl, trivial, ⟨by omega, by omega⟩, by show SqT K _ p [.int ((1 + un : Nat) : Int)]; rw [← e]; exact SqT.of upd_same⟩
    refine ⟨_, rfl, rfl, _, rfl, ite_kind (fun hkd => ?_) (fun n3 => ?_)⟩
    · subst hkd
      refine ⟨_, rfl, _, rfl, _, rfl, lets sh, rfl, ?_, d, c, lets sh, (codes sh).length, rfl, dr1, hnd, Nat.le_refl _, ?_, fun H3 ms k3 dr3 hml hmn hms => ⟨by show 1 ≤ sizeLine; decide, fun p np => ?_⟩⟩
      · show (codes sh).toArray.size ≤ sizeLine
        rw [List.size_toArray, codes, List.length_map]
        exact Nat.le_of_lt (small1000 (by omega))
      · show (codes sh).length ≤ 30
        rw [codes, List.length_map]
        omega
      · exact q _ p (fun as => .mv (.order ms) as) ((kb1.trans k3).trans (Same.kb (same_upd np))) (dr3.same (same_upd np)) fun as => ⟨rfl, rfl, trivial, ⟨by rw [hml, codes, List.length_map]; omega, fun c hc => by
          obtain ⟨p, hp, rfl⟩ := List.mem_map.mp (show c ∈ codes sh from hms c hc)
          exact hlow p hp⟩, SqT.of upd_same⟩
    refine ⟨_, rfl, rfl, _, rfl, ite_kind (fun hkd => ?_) (fun n4 => ?_)⟩
    · subst hkd
      refine ⟨_, rfl, d, c, "ijkmpq", 1, rfl, dr1, ijk.1, ijk.2.1, ijk.2.2.1, fun H2 ms k2 dr2 hml hmn hms => ?_⟩
      obtain ⟨l, rfl⟩ := List.length_eq_one_iff.mp hml
      have hl := ijk.2.2.2 l (hms l (List.mem_cons_self ..))
      refine ⟨_, rfl, d, c, 3, rfl, dr2, by decide, bnd_le (by decide), fun H3 u k3 dr3 u0 u1 => ⟨_, _, rfl, rfl, by show 2 ≤ sizeLine; decide, fun p np => ?_⟩⟩
      exact q _ p (fun as => .mv (.spread l (1 + u)) as) (((kb1.trans k2).trans k3.kb).trans (Same.kb (same_upd np))) (dr3.same (same_upd np)) fun as => ⟨rfl, rfl, trivial, ⟨hl, by omega, by omega⟩, SqT.of upd_same⟩
    refine ⟨kind, rfl, fun H2 s2 => ⟨_, rfl, ite_in (fun hin => ?_) (fun n5 => ?_)⟩⟩
    · obtain ⟨k, e1, e2, e3⟩ := bk9 hin
      refine ⟨by show 0 ≤ sizeLine; decide, fun p np => ?_⟩
      exact q _ p (fun as => .bc k as) (kb1.trans (Same.kb (s2.trans (same_upd np)))) ((dr1.same s2).same (same_upd np)) fun as => ⟨e1, rfl, trivial, e3 as, by show SqT K _ p k.fs; rw [e2]; exact SqT.of upd_same⟩
    have kb2 := kb1.trans (Same.kb s2)
    have dr2 := dr1.same s2
    have ha2 := ha1.same s2
    clear ha1 dr1 kb1 s1 s2
    refine ⟨_, rfl, rfl, _, rfl, ite_neb (fun hne => ?_) (fun heq => ?_)⟩
    · have hcl : 0 < (codes sh).length := by
        refine Nat.pos_of_ne_zero fun e => hne ?_
        have e := List.eq_nil_of_length_eq_zero e
        unfold lets
        rw [e]
        rfl
      have hcs : (codes sh).length ≤ 4 := by rw [codes, List.length_map]; exact hle
      refine ⟨_, rfl, _, rfl, _, rfl, lets sh, rfl, ?_, d, c, _, rfl, dr2, ?_, ?_, fun H3 v k3 dr3 v0 v1 => ?_⟩
      · show (codes sh).toArray.size ≤ sizeLine
        rw [List.size_toArray]
        exact Nat.le_of_lt (small1000 (by omega))
      · show 0 < ((codes sh).toArray.size : Int)
        rw [List.size_toArray]
        omega
      · refine bnd_le ?_
        show ((codes sh).toArray.size : Int) ≤ 10000000000
        rw [List.size_toArray]
        omega
      have v1' : v < ((codes sh).length : Int) := by
        have : v < ((codes sh).toArray.size : Int) := v1
        rw [List.size_toArray] at this
        exact this
      obtain ⟨vn, rfl⟩ : ∃ vn : Nat, v = (vn : Int) := ⟨v.toNat, by omega⟩
      have hr : (codes sh)[vn]? = some ((codes sh)[vn]'(by omega)) := List.getElem?_eq_getElem _
      have hm := List.mem_of_getElem? hr
      generalize ((codes sh)[vn]'(by omega)) = l at hr hm
      have hl : l < 128 := by
        obtain ⟨p, hp, rfl⟩ := List.mem_map.mp hm
        exact hlow p hp
      have kb3 := kb2.trans k3.kb
      have ha3 := ha2.keep (k3.kb.nl dr2)
      refine ⟨lets sh, (vn : Int), l, rfl, rfl, ?_, atI_nat hr, ?_⟩
      · show (codes sh).toArray.size ≤ sizeLine
        rw [List.size_toArray]
        exact Nat.le_of_lt (small1000 (by omega))
      refine ⟨_, rfl, _, rfl, a, sh, l, rfl, ha3, _, _, rfl, ?_⟩
      have hz := sz_le hfi l
      obtain ⟨n, hn, hn1, hn2⟩ : ∃ n, (if (look sh l).getD 0 > 1 then (look sh l).getD 0 else 1) = n ∧ 1 ≤ n ∧ n ≤ 16 := by
        unfold sz at hz
        refine ⟨_, rfl, ?_, ?_⟩
        · split <;> omega
        · split <;> omega
      rw [hn]
      refine ⟨_, rfl, rfl, _, rfl, ite_kind (fun hkd => ?_) (fun n6 => ?_)⟩
      · subst hkd
        refine ⟨_, rfl, _, rfl, d, c, "ijkmpq", 1, rfl, dr3, ijk.1, ijk.2.1, ijk.2.2.1, fun H4 ms k4 dr4 hml hmn hms => ?_⟩
        obtain ⟨m, rfl⟩ := List.length_eq_one_iff.mp hml
        have hm' := ijk.2.2.2 m (hms m (List.mem_cons_self ..))
        refine ⟨by show 2 ≤ sizeLine; decide, fun p np => ?_⟩
        exact q _ p (fun as => .mv (.rename l m) as) ((kb3.trans k4).trans (Same.kb (same_upd np))) (dr4.same (same_upd np)) fun as => ⟨rfl, rfl, trivial, ⟨hl, hm'⟩, SqT.of upd_same⟩
      refine ⟨_, rfl, rfl, _, rfl, ite_kind (fun hkd => ?_) (fun n7 => ?_)⟩
      · subst hkd
        refine ⟨_, rfl, _, rfl, d, c, n, rfl, dr3, by omega, bnd_le (by omega), fun H4 st k4 dr4 s0 s1 => ?_⟩
        refine ⟨_, rfl, _, rfl, _, rfl, _, rfl, _, rfl, _, _, rfl, rfl, d, c, n - st, rfl, dr4, by omega, bnd_le (by omega), fun H5 ct k5 dr5 c0 c1 => ⟨_, _, rfl, rfl, by show 3 ≤ sizeLine; decide, fun p np => ?_⟩⟩
        exact q _ p (fun as => .mv (.cut l st (1 + ct)) as) (((kb3.trans k4.kb).trans k5.kb).trans (Same.kb (same_upd np))) (dr5.same (same_upd np)) fun as => ⟨rfl, rfl, trivial, ⟨hl, by omega, by omega, by omega, by omega⟩, SqT.of upd_same⟩
      refine ⟨_, rfl, rfl, _, rfl, ite_kind (fun hkd => ?_) (fun n8 => ?_)⟩
      · subst hkd
        refine ⟨_, rfl, _, rfl, d, c, 2, rfl, dr3, by decide, bnd_le (by decide), fun H4 x k4 dr4 x0 x1 => ⟨_, rfl, d, c, 2, rfl, dr4, by decide, bnd_le (by decide), fun H5 y k5 dr5 y0 y1 => ⟨by show 3 ≤ sizeLine; decide, fun p np => ?_⟩⟩⟩
        exact q _ p (fun as => .mv (.pad l x y) as) (((kb3.trans k4.kb).trans k5.kb).trans (Same.kb (same_upd np))) (dr5.same (same_upd np)) fun as => ⟨rfl, rfl, trivial, ⟨hl, by omega, by omega, by omega, by omega⟩, SqT.of upd_same⟩
      refine ⟨_, rfl, rfl, _, rfl, ite_kind (fun hkd => ?_) (fun n9 => ?_)⟩
      · subst hkd
        refine ⟨_, rfl, _, rfl, d, c, "vw", 1, rfl, dr3, vww.1, vww.2.1, vww.2.2.1, fun H4 ms k4 dr4 hml hmn hms => ?_⟩
        obtain ⟨m, rfl⟩ := List.length_eq_one_iff.mp hml
        have hm' := vww.2.2.2 m (hms m (List.mem_cons_self ..))
        obtain ⟨b3, hb3, b31, b32⟩ : ∃ b3 : Int, (if (3 : Int) < n then 3 else n) = b3 ∧ 1 ≤ b3 ∧ b3 ≤ 3 := ⟨_, rfl, by split <;> omega, by split <;> omega⟩
        refine ⟨_, rfl, _, rfl, _, _, rfl, ?_⟩
        rw [hb3]
        refine ⟨d, c, b3, rfl, dr4, by omega, bnd_le (by omega), fun H5 x k5 dr5 x0 x1 => ⟨_, _, rfl, rfl, _, rfl, d, c, 2, rfl, dr5, by decide, bnd_le (by decide), fun H6 y k6 dr6 y0 y1 => ⟨_, _, rfl, rfl, by show 4 ≤ sizeLine; decide, fun p np => ?_⟩⟩⟩
        exact q _ p (fun as => .mv (.window l m (1 + x) (1 + y)) as) ((((kb3.trans k4).trans k5.kb).trans k6.kb).trans (Same.kb (same_upd np))) (dr6.same (same_upd np)) fun as => ⟨rfl, rfl, trivial, ⟨hl, hm', by omega, by omega, by omega, by omega⟩, SqT.of upd_same⟩
      refine ⟨_, rfl, rfl, _, rfl, ite_kind (fun hkd => ?_) (fun n10 => ?_)⟩
      · subst hkd
        refine ⟨_, rfl, lets sh, rfl, fun D nD => lc_it walk_str (fun j H' => Same H3 H' ∧ H' D = some (.lst (((codes sh).take j).filter (fun c => !decide (c = l)) |>.map fun c => V.str (one c)))) ⟨same_upd nD, upd_same⟩ (fun _ _ _ _ => trivial) ?_ ?_⟩
        · rintro j x H' H'' hj ⟨sm, hD⟩ ⟨rfl, ch, hch, rfl⟩
          have hch' : (codes sh)[j]? = some ch := by
            have : (lets sh).cps.toList[j]? = some ch := by rw [Array.getElem?_toList]; exact hch
            exact this
          refine ⟨rfl, _, rfl, _, rfl, rfl, _, rfl, ?_⟩
          show if (!decide (V.str (one ch) = V.str (one l))) = true then _ else _
          rw [one_ne, take_snoc hch', List.filter_append, List.map_append]
          have hlen : ((((codes sh).take j).filter fun c => !decide (c = l)).map fun c => V.str (one c)).length < sizeLine := by
            rw [List.length_map]
            refine small1000 (Nat.le_trans (List.length_filter_le _ _) ?_)
            rw [List.length_take, codes, List.length_map]
            omega
          by_cases hc : ch = l
          · rw [decide_eq_true hc]
            refine iteF ⟨sm, ?_⟩
            rw [show [ch].filter (fun c => !decide (c = l)) = [] by simp [hc], List.map_nil, List.append_nil]
            exact hD
          · rw [decide_eq_false hc]
            refine iteT ⟨_, rfl, _, hD, hlen, fun b o e => by rw [upd_ne (ne_of_none e nD)]; exact sm _ _ e, ?_⟩
            rw [upd_same, show [ch].filter (fun c => !decide (c = l)) = [ch] by simp [hc]]
            rfl
        · rintro H4 ⟨sm, hD⟩
          rw [show (lets sh).cps.size = (codes sh).length from List.size_toArray, List.take_length] at hD
          have dr4 := dr3.same sm
          have kb4 := kb3.trans (Same.kb sm)
          have ha4 := ha3.same sm
          have hfl : ((codes sh).filter fun c => !decide (c = l)).length ≤ 4 := by
            refine Nat.le_trans (List.length_filter_le _ _) ?_
            rw [codes, List.length_map]
            exact hle
          have hfm : ∀ c ∈ (codes sh).filter fun c => !decide (c = l), c < 128 := fun c hc => by
            obtain ⟨p, hp, rfl⟩ := List.mem_map.mp (List.mem_filter.mp hc).1
            exact hlow p hp
          generalize ((codes sh).filter fun c => !decide (c = l)) = fl at *
          refine ⟨by show 1 ≤ sizeLine; decide, fun p3 np3 => ⟨D, p3, _, _, rfl, rfl, same_upd np3 _ _ hD, upd_same, ?_, fun p4 np4 => ?_⟩⟩
          · rw [List.length_map]
            exact Nat.le_of_lt (small1000 (by show fl.length + 1 ≤ 1000; omega))
          have s5 := same_upd (o := .lst [.str "z"]) np3
          have s6 := same_upd (o := .lst ((fl.map fun c => V.str (one c)) ++ [.str "z"])) np4
          have dr5 := (dr4.same s5)
          have dr6 := dr5.same s6
          have kb6 := kb4.trans (Same.kb (s5.trans s6))
          have ha6 := (ha4.same s5).same s6
          have n4d := (new_ne dr5 np4).1
          have hp4 : (upd (upd H4 p3 (.lst [.str "z"])) p4 (.lst ((fl.map fun c => V.str (one c)) ++ [.str "z"]))) p4 = some (.lst ((fl ++ [122]).map fun c => V.str (one c))) := by
            rw [upd_same, List.map_append]
            rfl
          generalize (upd (upd H4 p3 (.lst [.str "z"])) p4 (.lst ((fl.map fun c => V.str (one c)) ++ [.str "z"]))) = H6 at *
          obtain ⟨ml, hml, hm1, hm2⟩ : ∃ ml : Int, (if ((((fl ++ [122]).map fun c => V.str (one c)).length : Nat) : Int) - 1 > 1 then ((((fl ++ [122]).map fun c => V.str (one c)).length : Nat) : Int) - 1 else 1) = ml ∧ 1 ≤ ml ∧ ml ≤ fl.length + 1 := by
            rw [List.length_map, List.length_append]
            refine ⟨_, rfl, ?_, ?_⟩
            · split <;> omega
            · split
              · show ((fl.length + 1 : Nat) : Int) - 1 ≤ _
                omega
              · omega
          refine ⟨_, rfl, _, rfl, _, rfl, p4, _, rfl, .inl (SqL.of hp4), _, _, rfl, rfl, _, _, rfl, ?_⟩
          rw [hml]
          refine ⟨d, c, ml, rfl, dr6, by omega, bnd_le (by omega), fun H7 v k7 dr7 v0 v1 => ?_⟩
          obtain ⟨vn, rfl⟩ : ∃ vn : Nat, v = (vn : Int) := ⟨v.toNat, by omega⟩
          have hr : (fl ++ [122])[vn]? = some ((fl ++ [122])[vn]'(by rw [List.length_append]; show vn < fl.length + 1; omega)) := List.getElem?_eq_getElem _
          have hm := List.mem_of_getElem? hr
          generalize ((fl ++ [122])[vn]'(by rw [List.length_append]; show vn < fl.length + 1; omega)) = m at hr hm
          have hm' : m < 128 := by
            rcases List.mem_append.mp hm with h | h
            · exact hfm m h
            · rw [List.mem_singleton] at h
              omega
          have ha7 := ha6.keep (k7.kb.nl dr6)
          have kb7 := kb6.trans k7.kb
          refine ⟨p4, _, (vn : Int), _, rfl, rfl, SqL.of (by rw [k7 p4 n4d]; exact hp4), atI_nat (by rw [List.getElem?_map, hr]; rfl), ?_⟩
          refine ⟨_, rfl, d, c, 2, rfl, dr7, by decide, bnd_le (by decide), fun H8 x k8 dr8 x0 x1 => ⟨_, _, rfl, rfl, ?_⟩⟩
          have ha8 := ha7.keep (k8.kb.nl dr7)
          have hy := sz_le hfi m
          obtain ⟨y, hyn, hy1, hy2⟩ : ∃ y, (if (look sh m).getD 0 > 1 then (look sh m).getD 0 else 1) = y ∧ 1 ≤ y ∧ y ≤ 16 := by
            unfold sz at hy
            refine ⟨_, rfl, ?_, ?_⟩
            · split <;> omega
            · split <;> omega
          refine ⟨_, rfl, _, rfl, _, rfl, _, rfl, _, rfl, _, _, rfl, rfl, _, _, rfl, rfl, cmul_sm (by omega) (by omega), _, rfl, _, rfl, a, sh, m, rfl, ha8, _, _, rfl, ?_⟩
          rw [hyn]
          refine ⟨_, _, rfl, rfl, _, rfl, d, c, 2, rfl, dr8, by decide, bnd_le (by decide), fun H9 t k9 dr9 t0 t1 => ⟨_, _, rfl, rfl, by show 4 ≤ sizeLine; decide, fun p np => ?_⟩⟩
          exact q _ p (fun as => .mv (.fold l m (1 + x) ((1 + x) * (n - 1) + y + t)) as) (((kb7.trans k8.kb).trans k9.kb).trans (Same.kb (same_upd np))) (dr9.same (same_upd np)) fun as => ⟨rfl, rfl, trivial, ⟨hl, hm', by omega, by omega, by
            rcases (show x = 0 ∨ x = 1 by omega) with rfl | rfl
            · omega
            · omega⟩, SqT.of upd_same⟩
      obtain ⟨mk, hmk⟩ := one5 (K := K) hk n1 n2 n3 n4 n5 n6 n7 n8 n9 n10
      refine ⟨_, rfl, by show 1 ≤ sizeLine; decide, fun p np => ?_⟩
      exact q _ p (mk l) (kb3.trans (Same.kb (same_upd np))) (dr3.same (same_upd np)) fun as => ⟨(hmk l as).1, (hmk l as).2.1, (hmk l as).2.2.1, (hmk l as).2.2.2.1 hl, (hmk l as).2.2.2.2 _ _ (SqT.of upd_same)⟩
    · have hl : 105 < 128 := by decide
      have kb3 := kb2
      have dr3 := dr2
      have ha3 := ha2
      have hI : ("i" : Str) = one 105 := by decide +kernel
      refine ⟨_, rfl, _, rfl, a, sh, 105, rfl, ha3, _, _, rfl, ?_⟩
      have hz := sz_le hfi 105
      obtain ⟨n, hn, hn1, hn2⟩ : ∃ n, (if (look sh 105).getD 0 > 1 then (look sh 105).getD 0 else 1) = n ∧ 1 ≤ n ∧ n ≤ 16 := by
        unfold sz at hz
        refine ⟨_, rfl, ?_, ?_⟩
        · split <;> omega
        · split <;> omega
      rw [hn]
      refine ⟨_, rfl, rfl, _, rfl, ite_kind (fun hkd => ?_) (fun n6 => ?_)⟩
      · subst hkd
        refine ⟨_, rfl, _, rfl, d, c, "ijkmpq", 1, rfl, dr3, ijk.1, ijk.2.1, ijk.2.2.1, fun H4 ms k4 dr4 hml hmn hms => ?_⟩
        obtain ⟨m, rfl⟩ := List.length_eq_one_iff.mp hml
        have hm' := ijk.2.2.2 m (hms m (List.mem_cons_self ..))
        refine ⟨by show 2 ≤ sizeLine; decide, fun p np => ?_⟩
        exact q _ p (fun as => .mv (.rename 105 m) as) ((kb3.trans k4).trans (Same.kb (same_upd np))) (dr4.same (same_upd np)) fun as => ⟨rfl, rfl, trivial, ⟨hl, hm'⟩, SqT.of upd_same⟩
      refine ⟨_, rfl, rfl, _, rfl, ite_kind (fun hkd => ?_) (fun n7 => ?_)⟩
      · subst hkd
        refine ⟨_, rfl, _, rfl, d, c, n, rfl, dr3, by omega, bnd_le (by omega), fun H4 st k4 dr4 s0 s1 => ?_⟩
        refine ⟨_, rfl, _, rfl, _, rfl, _, rfl, _, rfl, _, _, rfl, rfl, d, c, n - st, rfl, dr4, by omega, bnd_le (by omega), fun H5 ct k5 dr5 c0 c1 => ⟨_, _, rfl, rfl, by show 3 ≤ sizeLine; decide, fun p np => ?_⟩⟩
        exact q _ p (fun as => .mv (.cut 105 st (1 + ct)) as) (((kb3.trans k4.kb).trans k5.kb).trans (Same.kb (same_upd np))) (dr5.same (same_upd np)) fun as => ⟨rfl, rfl, trivial, ⟨hl, by omega, by omega, by omega, by omega⟩, SqT.of upd_same⟩
      refine ⟨_, rfl, rfl, _, rfl, ite_kind (fun hkd => ?_) (fun n8 => ?_)⟩
      · subst hkd
        refine ⟨_, rfl, _, rfl, d, c, 2, rfl, dr3, by decide, bnd_le (by decide), fun H4 x k4 dr4 x0 x1 => ⟨_, rfl, d, c, 2, rfl, dr4, by decide, bnd_le (by decide), fun H5 y k5 dr5 y0 y1 => ⟨by show 3 ≤ sizeLine; decide, fun p np => ?_⟩⟩⟩
        exact q _ p (fun as => .mv (.pad 105 x y) as) (((kb3.trans k4.kb).trans k5.kb).trans (Same.kb (same_upd np))) (dr5.same (same_upd np)) fun as => ⟨rfl, rfl, trivial, ⟨hl, by omega, by omega, by omega, by omega⟩, SqT.of upd_same⟩
      refine ⟨_, rfl, rfl, _, rfl, ite_kind (fun hkd => ?_) (fun n9 => ?_)⟩
      · subst hkd
        refine ⟨_, rfl, _, rfl, d, c, "vw", 1, rfl, dr3, vww.1, vww.2.1, vww.2.2.1, fun H4 ms k4 dr4 hml hmn hms => ?_⟩
        obtain ⟨m, rfl⟩ := List.length_eq_one_iff.mp hml
        have hm' := vww.2.2.2 m (hms m (List.mem_cons_self ..))
        obtain ⟨b3, hb3, b31, b32⟩ : ∃ b3 : Int, (if (3 : Int) < n then 3 else n) = b3 ∧ 1 ≤ b3 ∧ b3 ≤ 3 := ⟨_, rfl, by split <;> omega, by split <;> omega⟩
        refine ⟨_, rfl, _, rfl, _, _, rfl, ?_⟩
        rw [hb3]
        refine ⟨d, c, b3, rfl, dr4, by omega, bnd_le (by omega), fun H5 x k5 dr5 x0 x1 => ⟨_, _, rfl, rfl, _, rfl, d, c, 2, rfl, dr5, by decide, bnd_le (by decide), fun H6 y k6 dr6 y0 y1 => ⟨_, _, rfl, rfl, by show 4 ≤ sizeLine; decide, fun p np => ?_⟩⟩⟩
        exact q _ p (fun as => .mv (.window 105 m (1 + x) (1 + y)) as) ((((kb3.trans k4).trans k5.kb).trans k6.kb).trans (Same.kb (same_upd np))) (dr6.same (same_upd np)) fun as => ⟨rfl, rfl, trivial, ⟨hl, hm', by omega, by omega, by omega, by omega⟩, SqT.of upd_same⟩
      refine ⟨_, rfl, rfl, _, rfl, ite_kind (fun hkd => ?_) (fun n10 => ?_)⟩
      · subst hkd
        refine ⟨_, rfl, lets sh, rfl, fun D nD => lc_it walk_str (fun j H' => Same H2 H' ∧ H' D = some (.lst (((codes sh).take j).filter (fun c => !decide (c = 105)) |>.map fun c => V.str (one c)))) ⟨same_upd nD, upd_same⟩ (fun _ _ _ _ => trivial) ?_ ?_⟩
        · rintro j x H' H'' hj ⟨sm, hD⟩ ⟨rfl, ch, hch, rfl⟩
          have hch' : (codes sh)[j]? = some ch := by
            have : (lets sh).cps.toList[j]? = some ch := by rw [Array.getElem?_toList]; exact hch
            exact this
          refine ⟨rfl, _, rfl, _, rfl, rfl, _, rfl, ?_⟩
          show if (!decide (V.str (one ch) = V.str (one 105))) = true then _ else _
          rw [one_ne, take_snoc hch', List.filter_append, List.map_append]
          have hlen : ((((codes sh).take j).filter fun c => !decide (c = 105)).map fun c => V.str (one c)).length < sizeLine := by
            rw [List.length_map]
            refine small1000 (Nat.le_trans (List.length_filter_le _ _) ?_)
            rw [List.length_take, codes, List.length_map]
            omega
          by_cases hc : ch = 105
          · rw [decide_eq_true hc]
            refine iteF ⟨sm, ?_⟩
            rw [show [ch].filter (fun c => !decide (c = 105)) = [] by simp [hc], List.map_nil, List.append_nil]
            exact hD
          · rw [decide_eq_false hc]
            refine iteT ⟨_, rfl, _, hD, hlen, fun b o e => by rw [upd_ne (ne_of_none e nD)]; exact sm _ _ e, ?_⟩
            rw [upd_same, show [ch].filter (fun c => !decide (c = 105)) = [ch] by simp [hc]]
            rfl
        · rintro H4 ⟨sm, hD⟩
          rw [show (lets sh).cps.size = (codes sh).length from List.size_toArray, List.take_length] at hD
          have dr4 := dr3.same sm
          have kb4 := kb3.trans (Same.kb sm)
          have ha4 := ha3.same sm
          have hfl : ((codes sh).filter fun c => !decide (c = 105)).length ≤ 4 := by
            refine Nat.le_trans (List.length_filter_le _ _) ?_
            rw [codes, List.length_map]
            exact hle
          have hfm : ∀ c ∈ (codes sh).filter fun c => !decide (c = 105), c < 128 := fun c hc => by
            obtain ⟨p, hp, rfl⟩ := List.mem_map.mp (List.mem_filter.mp hc).1
            exact hlow p hp
          generalize ((codes sh).filter fun c => !decide (c = 105)) = fl at *
          refine ⟨by show 1 ≤ sizeLine; decide, fun p3 np3 => ⟨D, p3, _, _, rfl, rfl, same_upd np3 _ _ hD, upd_same, ?_, fun p4 np4 => ?_⟩⟩
          · rw [List.length_map]
            exact Nat.le_of_lt (small1000 (by show fl.length + 1 ≤ 1000; omega))
          have s5 := same_upd (o := .lst [.str "z"]) np3
          have s6 := same_upd (o := .lst ((fl.map fun c => V.str (one c)) ++ [.str "z"])) np4
          have dr5 := (dr4.same s5)
          have dr6 := dr5.same s6
          have kb6 := kb4.trans (Same.kb (s5.trans s6))
          have ha6 := (ha4.same s5).same s6
          have n4d := (new_ne dr5 np4).1
          have hp4 : (upd (upd H4 p3 (.lst [.str "z"])) p4 (.lst ((fl.map fun c => V.str (one c)) ++ [.str "z"]))) p4 = some (.lst ((fl ++ [122]).map fun c => V.str (one c))) := by
            rw [upd_same, List.map_append]
            rfl
          generalize (upd (upd H4 p3 (.lst [.str "z"])) p4 (.lst ((fl.map fun c => V.str (one c)) ++ [.str "z"]))) = H6 at *
          obtain ⟨ml, hml, hm1, hm2⟩ : ∃ ml : Int, (if ((((fl ++ [122]).map fun c => V.str (one c)).length : Nat) : Int) - 1 > 1 then ((((fl ++ [122]).map fun c => V.str (one c)).length : Nat) : Int) - 1 else 1) = ml ∧ 1 ≤ ml ∧ ml ≤ fl.length + 1 := by
            rw [List.length_map, List.length_append]
            refine ⟨_, rfl, ?_, ?_⟩
            · split <;> omega
            · split
              · show ((fl.length + 1 : Nat) : Int) - 1 ≤ _
                omega
              · omega
          refine ⟨_, rfl, _, rfl, _, rfl, p4, _, rfl, .inl (SqL.of hp4), _, _, rfl, rfl, _, _, rfl, ?_⟩
          rw [hml]
          refine ⟨d, c, ml, rfl, dr6, by omega, bnd_le (by omega), fun H7 v k7 dr7 v0 v1 => ?_⟩
          obtain ⟨vn, rfl⟩ : ∃ vn : Nat, v = (vn : Int) := ⟨v.toNat, by omega⟩
          have hr : (fl ++ [122])[vn]? = some ((fl ++ [122])[vn]'(by rw [List.length_append]; show vn < fl.length + 1; omega)) := List.getElem?_eq_getElem _
          have hm := List.mem_of_getElem? hr
          generalize ((fl ++ [122])[vn]'(by rw [List.length_append]; show vn < fl.length + 1; omega)) = m at hr hm
          have hm' : m < 128 := by
            rcases List.mem_append.mp hm with h | h
            · exact hfm m h
            · rw [List.mem_singleton] at h
              omega
          have ha7 := ha6.keep (k7.kb.nl dr6)
          have kb7 := kb6.trans k7.kb
          refine ⟨p4, _, (vn : Int), _, rfl, rfl, SqL.of (by rw [k7 p4 n4d]; exact hp4), atI_nat (by rw [List.getElem?_map, hr]; rfl), ?_⟩
          refine ⟨_, rfl, d, c, 2, rfl, dr7, by decide, bnd_le (by decide), fun H8 x k8 dr8 x0 x1 => ⟨_, _, rfl, rfl, ?_⟩⟩
          have ha8 := ha7.keep (k8.kb.nl dr7)
          have hy := sz_le hfi m
          obtain ⟨y, hyn, hy1, hy2⟩ : ∃ y, (if (look sh m).getD 0 > 1 then (look sh m).getD 0 else 1) = y ∧ 1 ≤ y ∧ y ≤ 16 := by
            unfold sz at hy
            refine ⟨_, rfl, ?_, ?_⟩
            · split <;> omega
            · split <;> omega
          refine ⟨_, rfl, _, rfl, _, rfl, _, rfl, _, rfl, _, _, rfl, rfl, _, _, rfl, rfl, cmul_sm (by omega) (by omega), _, rfl, _, rfl, a, sh, m, rfl, ha8, _, _, rfl, ?_⟩
          rw [hyn]
          refine ⟨_, _, rfl, rfl, _, rfl, d, c, 2, rfl, dr8, by decide, bnd_le (by decide), fun H9 t k9 dr9 t0 t1 => ⟨_, _, rfl, rfl, by show 4 ≤ sizeLine; decide, fun p np => ?_⟩⟩
          exact q _ p (fun as => .mv (.fold 105 m (1 + x) ((1 + x) * (n - 1) + y + t)) as) (((kb7.trans k8.kb).trans k9.kb).trans (Same.kb (same_upd np))) (dr9.same (same_upd np)) fun as => ⟨rfl, rfl, trivial, ⟨hl, hm', by omega, by omega, by
            rcases (show x = 0 ∨ x = 1 by omega) with rfl | rfl
            · omega
            · omega⟩, SqT.of upd_same⟩
      obtain ⟨mk, hmk⟩ := one5 (K := K) hk n1 n2 n3 n4 n5 n6 n7 n8 n9 n10
      refine ⟨_, rfl, by show 1 ≤ sizeLine; decide, fun p np => ?_⟩
      exact q _ p (mk 105) (kb3.trans (Same.kb (same_upd np))) (dr3.same (same_upd np)) fun as => ⟨(hmk 105 as).1, (hmk 105 as).2.1, (hmk 105 as).2.2.1, (hmk 105 as).2.2.2.1 hl, (hmk 105 as).2.2.2.2 _ _ (SqT.of upd_same)⟩
end

def L4 : List Nat := [105, 106, 107, 109]
def Sml (sh : Sh) : Prop := ∀ p ∈ sh, 1 ≤ p.2 ∧ p.2 ≤ 3
theorem sml_prod : ∀ {sh : Sh}, Sml sh → 1 ≤ prod (sizes sh) ∧ prod (sizes sh) ≤ ((3 ^ sh.length : Nat) : Int)
  | [], _ => ⟨by decide, by decide⟩
  | p :: sh, h => by
    obtain ⟨a, b⟩ := h p (List.mem_cons_self ..)
    obtain ⟨c, d⟩ := sml_prod (sh := sh) fun q hq => h q (List.mem_cons_of_mem _ hq)
    have e : prod (sizes (p :: sh)) = p.2 * prod (sizes sh) := rfl
    rw [e, List.length_cons, Nat.pow_succ]
    generalize prod (sizes sh) = x at *
    generalize 3 ^ sh.length = n at *
    rcases (show p.2 = 1 ∨ p.2 = 2 ∨ p.2 = 3 by omega) with h | h | h <;> rw [h] <;> omega
theorem sml_chk {sh : Sh} (h : Sml sh) (n : (codes sh).Nodup) (l : sh.length ≤ 4) : chk sh = 0 := by
  refine chk_zero.mpr ⟨l, n, fun p hp => ⟨(h p hp).1, by have := (h p hp).2; omega⟩, ?_⟩
  have h1 := (sml_prod h).2
  have : 3 ^ sh.length ≤ 3 ^ 4 := Nat.pow_le_pow_right (by decide) l
  omega
theorem sml_prod81 {sh : Sh} (h : Sml sh) (l : sh.length ≤ 4) : 1 ≤ prod (sizes sh) ∧ prod (sizes sh) ≤ 81 := by
  have h1 := sml_prod h
  have : 3 ^ sh.length ≤ 3 ^ 4 := Nat.pow_le_pow_right (by decide) l
  omega
theorem Axes.reverse {K : PySem.W.Frag} {H : Hp} {ts : List Addr} {sh : Sh} (h : Axes K H ts sh) : Axes K H ts.reverse sh.reverse := by
  refine ⟨by rw [List.length_reverse, List.length_reverse, h.1], fun i t p h1 h2 => ?_⟩
  have hi : i < ts.length := by
    have := (List.getElem?_eq_some_iff.mp h1).1
    rwa [List.length_reverse] at this
  rw [List.getElem?_reverse hi] at h1
  rw [List.getElem?_reverse (by rw [← h.1]; exact hi), ← h.1] at h2
  exact h.2 _ t p h1 h2
/-- what is drawn as an input or a const -/
def GivN : Nd → Prop
  | .input sh lo hi => chk sh = 0 ∧ Low sh ∧ lo ≤ hi ∧ -10000000000 ≤ lo ∧ hi ≤ 10000000000
  | .const sh ns => chk sh = 0 ∧ Low sh ∧ (ns.length : Int) = prod (sizes sh) ∧ ns ≠ [] ∧ ns.length ≤ 81 ∧ ∀ n ∈ ns, -10000000000 ≤ n ∧ n ≤ 10000000000
  | _ => False
theorem sml_fine {sh : Sh} (h : Sml sh) : Fine sh := fun p hp => ⟨(h p hp).1, by have := (h p hp).2; omega⟩
section
variable {P : Program} {w : World} {K : PySem.W.Frag} {mg : Str → Option Value} {base : Heap}
def SzsAt (H : Hp) (s d : Addr) : Prop := ∃ ns : List Int, H s = some (.lst (ns.map V.int)) ∧ ns.length = 4 ∧ (∀ x ∈ ns, 1 ≤ x ∧ x ≤ 3) ∧ s ≠ d
theorem SzsAt.kb {H H' : Hp} {s d : Addr} (h : SzsAt H s d) (k : Kb d H H') : SzsAt H' s d := by
  obtain ⟨ns, h1, h2, h3, h4⟩ := h
  exact ⟨ns, k _ _ h4 h1, h2, h3, h4⟩
def spGiven (K : PySem.W.Frag) : Sp := fun vs H Q _ => ∃ (d c s : Addr) (reach : Int) (co : Bool), vs = [.ref d, .ref s, .int reach, .bl co] ∧ DrAt H d c ∧ SzsAt H s d ∧ 1 ≤ reach ∧ reach ≤ 1000000000 ∧
  ∀ (H' : Hp) (v : V) (nd : Nd), Kb d H H' → DrAt H' d c → NdAt K H' v nd → GivN nd → (co = true → nd.nm = "const") → (co = false → nd.nm = "input") → Q v H'
abbrev nGv : List Str := ["d", "sizes", "reach", "const", "shape", "k", "data", "low"]
theorem scGv : FnScope nGv ["d", "sizes", "reach", "const"] (defScope s_law_given) := ⟨rfl, rfl, rfl, by decide +kernel, rfl, by decide +kernel, by decide +kernel⟩
theorem ok_given {f : Addr} {fd : FuncData} (F : Fun K "_law_given" "_law_given" s_law_given f fd) (T : TxtG mg) (cT : Calls P w K mg base CX0 1 "_law_take" ["d", "many"] spTake) (cS : Calls P w K mg base CX0 2 "_law_signed" ["d", "most"] spSigned) (cCtL : Calls P w K mg base CX0 1 "_law_count" ["shape"] (spCountL K)) : FnOk P w K mg base CX0 3 f fd ["d", "sizes", "reach", "const"] (spGiven K) := by
  obtain ⟨fT, dT, GT, kT, bT, gT⟩ := cT.ex
  obtain ⟨fS, dS, GS, kS, bS, gS⟩ := cS.ex
  obtain ⟨fCtL, dCtL, GCtL, kCtL, bCtL, gCtL⟩ := cCtL.ex
  refine F.ok scGv (fun vs H Q E h => ?_) (fun cdv A outer s H vs Q E hr2 h => ?_)
  · obtain ⟨d, c, s, reach, co, rfl, _⟩ := h
    rfl
  · obtain ⟨d, c, s, reach, co, rfl, dr, hs, hre1, hre2, q⟩ := h
    have hr1 : Room 1 _ := hr2.mono (by decide)
    refine ⟨_, (pss_cons (ps_set (i := 4) scGv.nd rfl (.inl rfl) (pe_lst pa_nil))
      (pss_cons (ps_for PassesOwn.never rfl (pi_range1 rfl T.range (pa_cons pe_int pa_nil)) (pg_name (i := 5) scGv.nd rfl (.inl rfl)) (pss_one (ps_if (PW.pt (pw_and (pt_cmpR op_lt (pe_call GT hr1 (by rfl) gT kT bT .nil pass0 (pa_cons (pv 0) (pa_cons pe_int pa_nil))) pe_int (nomark _)) (pw_and1 (pt_cmpR op_le (pe_op op_mul (pe_call GCtL hr1 (by rfl) gCtL kCtL bCtL .nil pass0 (pa_cons (pv 4) pa_nil)) (pe_ix ix_list (pv 1) (pv 5) (fun _ _ => rfl))) pe_int (nomark _))))) (pss_one (ps_expr (pe_bm PySem.F.plainAttrs_list PySem.F.slot_list_append PySem.F.type_list_append mt_append (pv 4) (pa_cons (pe_tup (pa_cons (pe_ix ix_str pe_str (pv 5) (fun _ _ => rfl)) (pa_cons (pe_ix ix_list (pv 1) (pv 5) (fun _ _ => rfl)) pa_nil))) pa_nil)))) pss_nil)))
      (Evl.pss_cut (ps_if (pt_cmpR op_eq (pe_call GT hr1 (by rfl) gT kT bT .nil pass0 (pa_cons (pv 0) (pa_cons pe_int pa_nil))) pe_int (nomark _)) (pss_one (ps_set (i := 4) scGv.nd rfl (.inl rfl) (pe_revL (pv 4)))) pss_nil)
      (pss_cons (ps_if (pt_val (pv 3)) (pss_cons (ps_setLc (i := 6) (own := [("k", 5)]) (g := (gName 5)) (tt := tYes) (te := (tCall spSigned [] E0 (tCons (tVar 0) (tCons (tVar 2) tNil)))) (by rfl) scGv.nd rfl rfl (sw_true rfl rfl rfl (by decide +kernel)) (pi_range1 rfl T.range (pa_cons (pe_call GCtL hr1 (by rfl) gCtL kCtL bCtL .nil pass0 (pa_cons (pv 4) pa_nil)) pa_nil)) (blkOk_by (N := nGv) (sc := defScope s_law_given) (by decide +kernel)) (fun _ _ _ _ _ => (pg_name (i := 5) scGv.nd rfl (.inl rfl))) (fun _ _ _ _ _ => pts_nil) (fun _ _ _ _ _ => (pe_call GS hr2 (by rfl) gS kS bS .nil pass0 (pa_cons (pv 0) (pa_cons (pv 2) pa_nil)))))
      (pss_one (ps_ret (pe_tup (pa_cons pe_str (pa_cons (pe_tup pa_nil) (pa_cons (pe_tup (pa_cons (pe_callTy call_tuple_ofF (by rfl) T.tuple (by decide +kernel) (pa_cons (pv 4) pa_nil)) (pa_cons (pe_callTy call_tuple_ofF (by rfl) T.tuple (by decide +kernel) (pa_cons (pv 6) pa_nil)) pa_nil))) pa_nil))))))) pss_nil)
      (pss_cons (ps_set (i := 7) scGv.nd rfl (.inl rfl) (pe_call GS hr2 (by rfl) gS kS bS .nil pass0 (pa_cons (pv 0) (pa_cons (pv 2) pa_nil))))
      (pss_one (ps_ret (pe_tup (pa_cons pe_str (pa_cons (pe_tup pa_nil) (pa_cons (pe_tup (pa_cons (pe_callTy call_tuple_ofF (by rfl) T.tuple (by decide +kernel) (pa_cons (pv 4) pa_nil)) (pa_cons (pv 7) (pa_cons (pe_op op_add (pv 7) (pe_call GT hr1 (by rfl) gT kT bT .nil pass0 (pa_cons (pv 0) (pa_cons (pe_op op_mul pe_int (pv 2)) pa_nil)))) pa_nil)))) pa_nil))))))))))), ?_⟩
    refine ⟨Nat.zero_le _, fun p np => ?_⟩
    obtain ⟨hpd, hpc⟩ := new_ne dr np
    have s1 := same_upd (o := .lst []) np
    refine ⟨4, rfl, by decide, by decide, for_range (lo := 0) (n := 4) (fun i σ H' => ∃ (ts : List Addr) (sh : Sh) (v5 : Option V), σ = [some (.ref d), some (.ref s), some (.int reach), some (.bl co), some (.ref p), v5, none, none] ∧
        Kb d H H' ∧ DrAt H' d c ∧ H' p = some (.lst (ts.map V.ref)) ∧ Axes K H' ts sh ∧ (codes sh).Sublist (L4.take i) ∧ Sml sh)
      ⟨[], [], _, rfl, Same.kb s1, dr.same s1, upd_same, Axes.nil, List.Sublist.refl _, fun _ h => (by cases h)⟩ ?_ ?_⟩
    · clear s1 dr
      rintro i σ H5 hi ⟨ts, sh, v5, rfl, kb, dr5, hp5, hx5, hsb, hsm⟩
      refine ⟨_, rfl, d, c, 5, rfl, dr5, by decide, bnd_le (by decide), fun H6 v k6 dr6 v0 v1 => ⟨_, _, rfl, rfl, _, rfl, ?_⟩⟩
      have kb6 := kb.trans k6.kb
      have hp6 : H6 p = some (.lst (ts.map V.ref)) := by rw [k6 p hpd]; exact hp5
      have hx6 := hx5.keep (k6.kb.nl dr5)
      have hsb' : (codes sh).Sublist (L4.take (i + 1)) := hsb.trans (List.take_sublist_take_left (by omega))
      have skip : ∃ (ts : List Addr) (sh : Sh) (v5 : Option V), ([some (.ref d), some (.ref s), some (.int reach), some (.bl co), some (.ref p), some (.int ((0 : Int) + i)), none, none] : St) = [some (.ref d), some (.ref s), some (.int reach), some (.bl co), some (.ref p), v5, none, none] ∧
        Kb d H H6 ∧ DrAt H6 d c ∧ H6 p = some (.lst (ts.map V.ref)) ∧ Axes K H6 ts sh ∧ (codes sh).Sublist (L4.take (i + 1)) ∧ Sml sh := ⟨ts, sh, _, rfl, kb6, dr6, hp6, hx6, hsb', hsm⟩
      refine ite2 (fun _ => ?_) (fun _ => skip)
      have hsl : sh.length ≤ i := by
        have := hsb.length_le
        rw [codes, List.length_map, List.length_take] at this
        exact Nat.le_trans this (Nat.min_le_left _ _)
      have hpr := sml_prod81 hsm (by omega)
      obtain ⟨ns, hs1, hs2, hs3, hs4⟩ := hs.kb kb6
      have hnv : ns[i]? = some (ns[i]'(by omega)) := List.getElem?_eq_getElem (by omega)
      obtain ⟨m1, m2⟩ := hs3 (ns[i]'(by omega)) (List.getElem_mem _)
      generalize (ns[i]'(by omega)) = z at hnv m1 m2
      refine ⟨_, rfl, p, sh, rfl, ⟨ts, SqL.of hp6, hx6⟩, (sml_fine hsm).mod, _, rfl, _, rfl, s, _, (0 : Int) + i, _, rfl, rfl, SqL.of hs1, by rw [Int.zero_add]; exact atI_nat (by rw [List.getElem?_map, hnv]; rfl), _, _, rfl, rfl, cmul_sm (by omega) (by omega), _, _, rfl, rfl, _, rfl, ite2 (fun _ => ?_) (fun _ => skip)⟩
      have hch : ("ijkm" : Str).cps.toList[i]? = some (L4[i]'(by show i < 4; omega)) := by
        rw [show ("ijkm" : Str).cps.toList = L4 by decide +kernel]
        exact List.getElem?_eq_getElem _
      have hcm : L4.take (i + 1) = L4.take i ++ [L4[i]'(by show i < 4; omega)] := take_snoc (List.getElem?_eq_getElem _)
      generalize (L4[i]'(by show i < 4; omega)) = ch at hch hcm
      refine ⟨_, rfl, .inl ⟨rfl, _, SqL.of hp6⟩, _, rfl, "ijkm", (0 : Int) + i, ch, rfl, rfl, by show 4 ≤ sizeLine; decide, by rw [Int.zero_add]; exact atI_nat hch, _, rfl, _, rfl, s, _, (0 : Int) + i, _, rfl, rfl, SqL.of hs1, by rw [Int.zero_add]; exact atI_nat (by rw [List.getElem?_map, hnv]; rfl), by show 2 ≤ sizeLine; decide, fun u nu => ?_⟩
      have s9 := same_upd (o := .tup [.str (one ch), .int z]) nu
      refine ⟨p, _, _, rfl, rfl, s9 _ _ hp6, ?_, ts ++ [u], sh ++ [(ch, z)], _, rfl, fun b o nb hbo => ?_, (dr6.same s9).upd _ hpd hpc, ?_, ?_, ?_, fun x hx => ?_⟩
      · rw [List.length_map, hx6.1]
        exact small1000 (by omega)
      · have hbp : b ≠ p := fun e => by
          subst e
          rw [np] at hbo
          cases hbo
        rw [upd_ne hbp]
        exact s9 _ _ (kb6 b o nb hbo)
      · rw [upd_same, List.map_append]
        rfl
      · exact ((hx6.same s9).snoc (SqT.of upd_same)).keep (nl_upd (s9 _ _ hp6))
      · rw [hcm, codes, List.map_append]
        exact List.Sublist.append hsb (List.Sublist.refl _)
      · rcases List.mem_append.mp hx with hx | hx
        · exact hsm x hx
        · rw [List.mem_singleton] at hx
          subst hx
          exact ⟨m1, m2⟩
    rintro σ H5 ⟨ts, sh, v5, rfl, kb, dr5, hp5, hx5, hsb, hsm⟩
    have hsl : sh.length ≤ 4 := by
      have := hsb.length_le
      rw [codes, List.length_map] at this
      exact this
    have hnd : (codes sh).Nodup := hsb.nodup (by decide)
    have hlow : Low sh := fun p hp => (show ∀ c ∈ L4, c < 128 by decide) p.1 (hsb.subset (List.mem_map.mpr ⟨p, hp, rfl⟩))
    clear s1 dr
    refine ⟨fun σ' H' => ∃ (p2 : Addr) (ts2 : List Addr) (sh2 : Sh), σ' = [some (.ref d), some (.ref s), some (.int reach), some (.bl co), some (.ref p2), v5, none, none] ∧ Kb d H H' ∧ DrAt H' d c ∧ H' p2 = some (.lst (ts2.map V.ref)) ∧ p2 ≠ d ∧ Axes K H' ts2 sh2 ∧ Sml sh2 ∧ (codes sh2).Nodup ∧ sh2.length ≤ 4 ∧ Low sh2, ?_, ?_⟩
    · refine ⟨_, rfl, d, c, 4, rfl, dr5, by decide, bnd_le (by decide), fun H6 v k6 dr6 v0 v1 => ⟨rfl, _, rfl, ?_⟩⟩
      have kb6 := kb.trans k6.kb
      have hp6 : H6 p = some (.lst (ts.map V.ref)) := by rw [k6 p hpd]; exact hp5
      have hx6 := hx5.keep (k6.kb.nl dr5)
      refine ite2 (fun _ => ?_) (fun _ => ⟨p, ts, sh, rfl, kb6, dr6, hp6, hpd, hx6, hsm, hnd, hsl, hlow⟩)
      refine ⟨_, rfl, p, _, rfl, SqL.of hp6, fun p3 np3 => ?_⟩
      have s9 := same_upd (o := .lst (ts.map V.ref).reverse) np3
      refine ⟨p3, ts.reverse, sh.reverse, rfl, kb6.trans (Same.kb s9), dr6.same s9, by rw [upd_same, List.map_reverse], (new_ne dr6 np3).1, (hx6.same s9).reverse, fun x hx => hsm x (List.mem_reverse.mp hx), ?_, by rw [List.length_reverse]; exact hsl, fun x hx => hlow x (List.mem_reverse.mp hx)⟩
      rw [codes, List.map_reverse]
      exact (List.reverse_perm _).nodup_iff.mpr hnd
    clear kb dr5 hp5 hx5 hsb hsm hsl hnd hlow
    rintro σ' H6 ⟨p2, ts2, sh2, rfl, kb6, dr6, hp6, hp2d, hx6, hsm, hnd, hsl, hlow⟩
    have hch := sml_chk hsm hnd hsl
    have hpr := sml_prod81 hsm hsl
    cases co with
    | true =>
      refine ⟨_, rfl, _, rfl, iteT ?_⟩
      refine ⟨_, rfl, p2, sh2, rfl, ⟨ts2, SqL.of hp6, hx6⟩, (sml_fine hsm).mod, _, rfl, ?_, ?_, fun D nD => lc_range (lo := 0) (n := (prod (sizes sh2)).toNat) (fun i H' => ∃ ns : List Int, Kb d H6 H' ∧ DrAt H' d c ∧ H' D = some (.lst (ns.map V.int)) ∧ ns.length = i ∧ ∀ n ∈ ns, -10000000000 ≤ n ∧ n ≤ 10000000000)
        ⟨[], Same.kb (same_upd nD), dr6.same (same_upd nD), upd_same, rfl, fun _ h => by cases h⟩ ?_ ?_⟩
      · omega
      · omega
      · rintro i H7 hi ⟨ns, kb7, dr7, hD7, hnl, hns⟩
        obtain ⟨hDd, hDc⟩ := new_ne dr6 nD
        refine ⟨rfl, ?_⟩
        unfold tYes
        dsimp only
        rw [if_pos rfl]
        refine ⟨_, rfl, _, rfl, d, c, reach, rfl, dr7, by omega, bnd_le (by omega), fun H8 v k8 dr8 v0 v1 => ?_⟩
        have hD8 : H8 D = some (.lst (ns.map V.int)) := by rw [k8 D hDd]; exact hD7
        refine ⟨_, hD8, ?_, ns ++ [v], ?_, (dr8.upd _ hDd hDc), by rw [upd_same, List.map_append]; rfl, by rw [List.length_append, hnl]; rfl, fun n hn => ?_⟩
        · rw [List.length_map, hnl]
          exact small1000 (by omega)
        · intro b o nb hbo
          have hbp : b ≠ D := fun e => by
            subst e
            rw [nD] at hbo
            cases hbo
          rw [upd_ne hbp]
          exact k8.kb b o nb (kb7 b o nb hbo)
        · rcases List.mem_append.mp hn with hn | hn
          · exact hns n hn
          · rw [List.mem_singleton] at hn
            subst hn
            exact ⟨by omega, by omega⟩
      · rintro H7 ⟨ns, kb7, dr7, hD7, hnl, hns⟩
        obtain ⟨hDd, hDc⟩ := new_ne dr6 nD
        have hp7 := kb7 _ _ hp2d hp6
        have hx7 := hx6.keep (kb7.nl dr6)
        refine ⟨by show 0 ≤ sizeLine; decide, fun pa npa => ?_⟩
        have s1 := same_upd (o := .tup []) npa
        refine ⟨_, rfl, p2, _, rfl, SqL.of (s1 _ _ hp7), fun l o nl ho => ?_⟩
        have s2 := same_upd (o := .frz o (.tup (ts2.map V.ref))) nl
        refine ⟨_, rfl, D, _, rfl, SqL.of (s2 _ _ (s1 _ _ hD7)), fun l2 o2 nl2 ho2 => ?_⟩
        have s3 := same_upd (o := .frz o2 (.tup (ns.map V.int))) nl2
        refine ⟨by show 2 ≤ sizeLine; decide, fun pi npi => ?_⟩
        have s4 := same_upd (o := .tup [.ref l, .ref l2]) npi
        refine ⟨by show 3 ≤ sizeLine; decide, fun pn npn => ?_⟩
        have s5 := same_upd (o := .tup [.str "const", .ref pa, .ref pi]) npn
        have s15 := (((s1.trans s2).trans s3).trans s4).trans s5
        refine q _ _ (.const sh2 ns) ((kb6.trans kb7).trans (Same.kb s15)) (dr7.same s15) ⟨pn, pa, pi, rfl, SqT.of upd_same, sqT_same (SqT.of (upd_same : (upd H7 pa (.tup [])) pa = _)) (((s2.trans s3).trans s4).trans s5), l, l2, sqT_same (SqT.of upd_same) s5, ⟨ts2, sqT_same (.inl (.inr ⟨o, upd_same⟩)) ((s3.trans s4).trans s5), hx7.same s15⟩, NoD.same ⟨o, ho, .inl ⟨_, upd_same⟩⟩ ((s3.trans s4).trans s5), sqT_same (.inl (.inr ⟨o2, upd_same⟩)) (s4.trans s5)⟩ ⟨hch, hlow, ?_, ?_, ?_, hns⟩ (fun _ => rfl) (fun h => by cases h)
        · rw [hnl]
          omega
        · intro e
          rw [e] at hnl
          have : (0 : Nat) = (prod (sizes sh2)).toNat := hnl
          omega
        · rw [hnl]
          omega
    | false =>
      refine ⟨_, rfl, _, rfl, iteF ?_⟩
      refine ⟨_, rfl, _, rfl, d, c, reach, rfl, dr6, by omega, bnd_le (by omega), fun H7 lo k7 dr7 v0 v1 => ?_⟩
      have hp7 := k7.kb _ _ hp2d hp6
      have hx7 := hx6.keep (k7.kb.nl dr6)
      refine ⟨by show 0 ≤ sizeLine; decide, fun pa npa => ?_⟩
      have s1 := same_upd (o := .tup []) npa
      refine ⟨_, rfl, p2, _, rfl, SqL.of (s1 _ _ hp7), fun l o nl ho => ?_⟩
      have s2 := same_upd (o := .frz o (.tup (ts2.map V.ref))) nl
      have dr8 := dr7.same (s1.trans s2)
      have hx8 := hx7.same (s1.trans s2)
      have hl8 : SqT K (upd (upd H7 pa (.tup [])) l (.frz o (.tup (ts2.map V.ref)))) l (ts2.map V.ref) := .inl (.inr ⟨o, upd_same⟩)
      have hn8 : NoD K (upd (upd H7 pa (.tup [])) l (.frz o (.tup (ts2.map V.ref)))) l := ⟨o, ho, .inl ⟨_, upd_same⟩⟩
      have hpa8 : SqT K (upd (upd H7 pa (.tup [])) l (.frz o (.tup (ts2.map V.ref)))) pa [] := sqT_same (SqT.of upd_same) s2
      have kb8 := (kb6.trans k7.kb).trans (Same.kb (s1.trans s2))
      generalize (upd (upd H7 pa (.tup [])) l (.frz o (.tup (ts2.map V.ref)))) = H8 at *
      refine ⟨_, rfl, _, rfl, _, rfl, _, rfl, _, _, rfl, rfl, cmul_sm (by decide) (by decide), d, c, 2 * reach, rfl, dr8, by omega, bnd_le (by omega), fun H9 t k9 dr9 t0 t1 => ⟨_, _, rfl, rfl, by show 3 ≤ sizeLine; decide, fun pi npi => ?_⟩⟩
      have nl9 := k9.kb.nl dr8
      have s4 := same_upd (o := .tup [.ref l, .int lo, .int (lo + t)]) npi
      refine ⟨by show 3 ≤ sizeLine; decide, fun pn npn => ?_⟩
      have s5 := same_upd (o := .tup [.str "input", .ref pa, .ref pi]) npn
      have s45 := s4.trans s5
      exact q _ _ (.input sh2 lo (lo + t)) ((kb8.trans k9.kb).trans (Same.kb s45)) (dr9.same s45) ⟨pn, pa, pi, rfl, SqT.of upd_same, sqT_same (sqT_nl hpa8 nl9) s45, l, sqT_same (SqT.of upd_same) s5, ⟨ts2, sqT_same (sqT_nl hl8 nl9) s45, (hx8.keep nl9).same s45⟩, (hn8.keep nl9).same s45⟩ ⟨hch, hlow, by omega, by omega, by omega⟩ (fun h => by cases h) (fun _ => rfl)
end

def L10 : List Str := ["add", "sub", "mul", "max", "min", "less", "equal", "dot", "join", "gather"]
def arS (kind : Str) : Nat := if kind = "where" then 3 else if kind ∈ L10 then 2 else 1
theorem arS_nm {nd : Nd} (h : compu nd) : arN nd = arS nd.nm := by
  cases nd with
  | input _ _ _ => exact h.elim
  | const _ _ => exact h.elim
  | dot _ _ => show 2 = arS "dot"; decide +kernel
  | bc k _ => cases k with
    | add => show 2 = arS "add"; decide +kernel
    | sub => show 2 = arS "sub"; decide +kernel
    | mul => show 2 = arS "mul"; decide +kernel
    | max => show 2 = arS "max"; decide +kernel
    | min => show 2 = arS "min"; decide +kernel
    | less => show 2 = arS "less"; decide +kernel
    | equal => show 2 = arS "equal"; decide +kernel
    | neg => show 1 = arS "neg"; decide +kernel
    | clamp _ _ => show 1 = arS "clamp"; decide +kernel
    | shift _ => show 1 = arS "shift"; decide +kernel
    | wher => show 3 = arS "where"; decide +kernel
  | mv k _ => cases k with
    | sum _ => show 1 = arS "sum"; decide +kernel
    | peak _ => show 1 = arS "peak"; decide +kernel
    | order _ => show 1 = arS "order"; decide +kernel
    | rename _ _ => show 1 = arS "rename"; decide +kernel
    | spread _ _ => show 1 = arS "spread"; decide +kernel
    | cut _ _ _ => show 1 = arS "cut"; decide +kernel
    | pad _ _ _ => show 1 = arS "pad"; decide +kernel
    | join _ => show 2 = arS "join"; decide +kernel
    | window _ _ _ _ => show 1 = arS "window"; decide +kernel
    | fold _ _ _ _ => show 1 = arS "fold"; decide +kernel
    | gather _ => show 2 = arS "gather"; decide +kernel
/-- a drawn node, behind m others -/
def GoodN (nd : Nd) (m : Nat) : Prop := GivN nd ∨ (compu nd ∧ GoodF nd ∧ nd.args.length = arN nd ∧ ∀ a ∈ nd.args, a < m)
theorem atI_zero {α : Type} {x : α} {xs : List α} : atI (x :: xs) (0 : Int) = some x := atI_nat (j := 0) rfl
theorem snoc_of {α : Type} : ∀ (a : α) (l : List α), ∃ li l0, a :: l = li ++ [l0]
  | a, [] => ⟨[], a, rfl⟩
  | a, b :: l => by
    obtain ⟨li, l0, h⟩ := snoc_of b l
    exact ⟨a :: li, l0, by rw [h]; rfl⟩
theorem all_in {kind : Str} (h : kind ∈ AllK) : kind ∈ (["input", "const"] : List Str) ∨ kind ∈ CN := List.mem_append.mp (show kind ∈ (["input", "const"] : List Str) ++ CN from h)
section
variable {P : Program} {w : World} {K : PySem.W.Frag} {mg : Str → Option Value} {base : Heap}
/-- the domains so far -/
structure DomsAt (K : PySem.W.Frag) (H : Hp) (pd : Addr) (us : List V) (ds : List Dom) : Prop where
  h : H pd = some (.lst us)
  d : Dms K H us ds
  g : ∀ g ∈ ds, GD g
  l : ds.length ≤ 12
  p : 0 < ds.length
theorem DomsAt.kb {H H' : Hp} {pd d c : Addr} {us : List V} {ds : List Dom} (h : DomsAt K H pd us ds) (k : Kb d H H') (n : pd ≠ d) (dr : DrAt H d c) : DomsAt K H' pd us ds := ⟨k _ _ n h.h, h.d.keep (k.nl dr), h.g, h.l, h.p⟩
def spNode (K : PySem.W.Frag) : Sp := fun vs H Q _ => ∃ (d c pd s : Addr) (reach : Int) (kind : Str) (us : List V) (ds : List Dom), vs = [.ref d, .str kind, .ref pd, .ref s, .int reach] ∧ DrAt H d c ∧ kind ∈ AllK ∧ DomsAt K H pd us ds ∧ pd ≠ d ∧ SzsAt H s d ∧ 1 ≤ reach ∧ reach ≤ 1000000000 ∧
  ∀ (H' : Hp) (v : V) (nd : Nd), Kb d H H' → DrAt H' d c → NdAt K H' v nd → GoodN nd ds.length → Q v H'
abbrev nNo : List Str := ["d", "kind", "doms", "sizes", "reach", "many", "args", "k", "back", "shape"]
theorem scNo : FnScope nNo ["d", "kind", "doms", "sizes", "reach"] (defScope s_law_node) := ⟨rfl, rfl, rfl, by decide +kernel, rfl, by decide +kernel, by decide +kernel⟩
theorem ok_node {f : Addr} {fd : FuncData} (F : Fun K "_law_node" "_law_node" s_law_node f fd) (T : TxtG mg) (cT : Calls P w K mg base CX0 1 "_law_take" ["d", "many"] spTake) (cGv : Calls P w K mg base CX0 3 "_law_given" ["d", "sizes", "reach", "const"] (spGiven K)) (cIf : Calls P w K mg base CX0 3 "_law_info" ["d", "kind", "shape", "other"] (spInfo K)) : FnOk P w K mg base CX0 4 f fd ["d", "kind", "doms", "sizes", "reach"] (spNode K) := by
  obtain ⟨fT, dT, GT, kT, bT, gT⟩ := cT.ex
  obtain ⟨fGv, dGv, GGv, kGv, bGv, gGv⟩ := cGv.ex
  obtain ⟨fIf, dIf, GIf, kIf, bIf, gIf⟩ := cIf.ex
  refine F.ok scNo (fun vs H Q E h => ?_) (fun cdv A outer s H vs Q E hr3 h => ?_)
  · obtain ⟨d, c, pd, s, reach, kind, us, ds, rfl, _⟩ := h
    rfl
  · obtain ⟨d, c, pd, s, reach, kind, us, ds, rfl, dr, hk, hD, hpd, hs, hre1, hre2, q⟩ := h
    have hr1 : Room 1 _ := hr3.mono (by decide)
    have hul : us.length = ds.length := hD.d.1
    have hl11 := hD.l
    have hl0 := hD.p
    refine ⟨_, (pss_cons (ps_if (pt_inS (zs := ["input", "const"]) (by decide) (pv 1) (pa_cons pe_str (pa_cons pe_str pa_nil))) (pss_one (ps_ret (pe_call GGv hr3 (by rfl) gGv kGv bGv .nil pass0 (pa_cons (pv 0) (pa_cons (pv 3) (pa_cons (pv 4) (pa_cons (pe_cmpR op_eq (pv 1) pe_str (nomark _)) pa_nil))))))) pss_nil)
      (pss_cons (ps_set (i := 5) scNo.nd rfl (.inl rfl) pe_int)
      (Evl.pss_cut (ps_if (pt_inS (zs := ["add", "sub", "mul", "max", "min", "less", "equal", "dot", "join", "gather"]) (by decide) (pv 1) (pa_cons pe_str (pa_cons pe_str (pa_cons pe_str (pa_cons pe_str (pa_cons pe_str (pa_cons pe_str (pa_cons pe_str (pa_cons pe_str (pa_cons pe_str (pa_cons pe_str pa_nil))))))))))) (pss_one (ps_set (i := 5) scNo.nd rfl (.inl rfl) pe_int)) pss_nil)
      (Evl.pss_cut (ps_if (pt_cmpR op_eq (pv 1) pe_str (nomark _)) (pss_one (ps_set (i := 5) scNo.nd rfl (.inl rfl) pe_int)) pss_nil)
      (pss_cons (ps_set (i := 6) scNo.nd rfl (.inl rfl) (pe_lst pa_nil))
      (pss_cons (ps_for PassesOwn.never rfl (pi_range1 rfl T.range (pa_cons (pv 5) pa_nil)) (pg_name (i := 7) scNo.nd rfl (.inl rfl)) (pss_cons (ps_set (i := 8) scNo.nd rfl (.inl rfl) (pe_call GT hr1 (by rfl) gT kT bT .nil pass0 (pa_cons (pv 0) (pa_cons pe_int pa_nil))))
      (pss_one (ps_expr (pe_bm PySem.F.plainAttrs_list PySem.F.slot_list_append PySem.F.type_list_append mt_append (pv 6) (pa_cons (pe_ifExp (pt_cmpR op_lt (pv 8) (pe_callB (call_min2 rfl) (by rfl) T.min (by decide +kernel) (pa_cons pe_int (pa_cons (pe_callB call_len_seq (by rfl) T.len PySem.boot_len (pa_cons (pv 2) pa_nil)) pa_nil))) (nomark _)) (pe_op op_sub (pe_op op_sub (pe_callB call_len_seq (by rfl) T.len PySem.boot_len (pa_cons (pv 2) pa_nil)) pe_int) (pv 8)) (pe_call GT hr1 (by rfl) gT kT bT .nil pass0 (pa_cons (pv 0) (pa_cons (pe_callB call_len_seq (by rfl) T.len PySem.boot_len (pa_cons (pv 2) pa_nil)) pa_nil)))) pa_nil))))))
      (pss_cons (ps_set (i := 9) scNo.nd rfl (.inl rfl) (pe_ix ix_tup (pe_ix ix_list (pv 2) (pe_ix ix_list (pv 6) pe_int (fun _ _ => rfl)) (fun _ _ => rfl)) pe_int (fun _ _ => rfl)))
      (pss_one (ps_ret (pe_tup (pa_cons (pv 1) (pa_cons (pe_callTy call_tuple_of (by rfl) T.tuple (by decide +kernel) (pa_cons (pv 6) pa_nil)) (pa_cons (pe_call GIf hr3 (by rfl) gIf kIf bIf .nil pass0 (pa_cons (pv 0) (pa_cons (pv 1) (pa_cons (pv 9) (pa_cons (pe_ix ix_tup (pe_ix ix_list (pv 2) (pe_ix ix_list (pv 6) (pe_un un_neg pe_int) (fun _ _ => rfl)) (fun _ _ => rfl)) pe_int (fun _ _ => rfl)) pa_nil))))) pa_nil))))))))))))), ?_⟩
    refine ⟨kind, rfl, fun H1 s1 => ⟨_, rfl, ite_in (fun hin => ?_) (fun hni => ?_)⟩⟩
    · exact ⟨_, rfl, _, rfl, _, rfl, _, rfl, rfl, d, c, s, reach, _, rfl, dr.same s1, hs.kb (Same.kb s1), hre1, hre2, fun H' v nd k dr' hn hg _ _ => q _ _ _ ((Same.kb s1).trans k) dr' hn (.inl hg)⟩
    have hk' := (all_in hk).resolve_left hni
    refine ⟨fun σ' H' => σ' = [some (.ref d), some (.str kind), some (.ref pd), some (.ref s), some (.int reach), some (.int ((if kind ∈ L10 then 2 else 1 : Nat) : Int)), none, none, none, none] ∧ Same H1 H', ?_, ?_⟩
    · refine ⟨kind, rfl, fun H2 s2 => ⟨_, rfl, ite_in (fun hin => ?_) (fun hni => ?_)⟩⟩
      · refine ⟨?_, s2⟩
        rw [if_pos (show kind ∈ L10 from hin)]
        rfl
      · refine ⟨?_, s2⟩
        rw [if_neg (show kind ∉ L10 from hni)]
        rfl
    rintro σ' H2 ⟨rfl, s2⟩
    refine ⟨fun σ' H' => σ' = [some (.ref d), some (.str kind), some (.ref pd), some (.ref s), some (.int reach), some (.int ((arS kind : Nat) : Int)), none, none, none, none] ∧ Same H2 H', ?_, ?_⟩
    · refine ⟨_, rfl, rfl, _, rfl, ite_kind (fun hw => ?_) (fun hw => ?_)⟩
      · refine ⟨?_, Same.refl _⟩
        unfold arS
        rw [if_pos hw]
        rfl
      · refine ⟨?_, Same.refl _⟩
        unfold arS
        rw [if_neg hw]
    rintro σ' H3 ⟨rfl, s3⟩
    have ha1 : 1 ≤ arS kind ∧ arS kind ≤ 3 := by
      unfold arS
      split
      · omega
      · split <;> omega
    generalize hm : arS kind = m at ha1
    refine ⟨Nat.zero_le _, fun p np => ?_⟩
    have s14 := ((s1.trans s2).trans s3).trans (same_upd (o := .lst []) np)
    have dr4 := dr.same s14
    obtain ⟨hpe, hpc⟩ := new_ne (dr.same ((s1.trans s2).trans s3)) np
    have hppd : p ≠ pd := fun e => by
      have := ((s1.trans s2).trans s3) _ _ hD.h
      rw [← e, np] at this
      cases this
    refine ⟨_, rfl, _, rfl, by omega, by omega, for_range (lo := 0) (n := ((m : Nat) : Int).toNat) (fun i σ H' => ∃ (ns : List Nat) (v7 v8 : Option V), σ = [some (.ref d), some (.str kind), some (.ref pd), some (.ref s), some (.int reach), some (.int (m : Int)), some (.ref p), v7, v8, none] ∧
        Kb d H H' ∧ DrAt H' d c ∧ H' p = some (.lst ((asInts ns).map V.int)) ∧ ns.length = i ∧ ∀ a ∈ ns, a < ds.length)
      ⟨[], _, _, rfl, Same.kb s14, dr4, upd_same, rfl, fun _ h => (by cases h)⟩ ?_ ?_⟩
    · clear dr4 s14
      rintro i σ H5 hi ⟨ns, v7, v8, rfl, kb, dr5, hp5, hnl, hns⟩
      have hD5 := hD.kb kb hpd dr
      refine ⟨_, rfl, d, c, 5, rfl, dr5, by decide, bnd_le (by decide), fun H6 v k6 dr6 v0 v1 => ?_⟩
      have kb6 := kb.trans k6.kb
      have hp6 : H6 p = some (.lst ((asInts ns).map V.int)) := by rw [k6 p hpe]; exact hp5
      have hD6 := hD5.kb k6.kb hpd dr5
      have hpush : ∀ (H7 : Hp) (x : Int), Kb d H H7 → DrAt H7 d c → H7 p = some (.lst ((asInts ns).map V.int)) → 0 ≤ x → x < (ds.length : Int) → ∃ (ns' : List Nat), (upd H7 p (.lst ((asInts ns).map V.int ++ [.int x]))) p = some (.lst ((asInts ns').map V.int)) ∧ ns'.length = i + 1 ∧ (∀ a ∈ ns', a < ds.length) ∧ Kb d H (upd H7 p (.lst ((asInts ns).map V.int ++ [.int x]))) ∧ DrAt (upd H7 p (.lst ((asInts ns).map V.int ++ [.int x]))) d c := fun H7 x kb7 dr7 hp7 x0 x1 => by
        obtain ⟨xn, rfl⟩ : ∃ xn : Nat, x = (xn : Int) := ⟨x.toNat, by omega⟩
        refine ⟨ns ++ [xn], by rw [upd_same]; simp [asInts], by rw [List.length_append, hnl]; rfl, fun a ha => ?_, fun b o nb hbo => ?_, dr7.upd _ hpe hpc⟩
        · rcases List.mem_append.mp ha with ha | ha
          · exact hns a ha
          · rw [List.mem_singleton] at ha
            omega
        · have hbp : b ≠ p := fun e => by
            subst e
            have := (s1.trans s2).trans s3 _ _ hbo
            rw [np] at this
            cases this
          rw [upd_ne hbp]
          exact kb7 b o nb hbo
      have hsz : ((asInts ns).map V.int).length < sizeLine := by
        rw [List.length_map, asInts, List.length_map]
        exact small1000 (by omega)
      refine ⟨_, rfl, .inl ⟨rfl, _, SqL.of hp6⟩, _, rfl, _, rfl, pd, us, rfl, .inl (SqL.of hD6.h), _, _, rfl, _, _, rfl, rfl, _, rfl, ite2 (fun hb => ?_) (fun _ => ?_)⟩
      · have hb := of_decide_eq_true hb
        have hb1 : v < (us.length : Int) := by
          split at hb
          · exact hb
          · omega
        obtain ⟨ns', e1, e2, e3, e4, e5⟩ := hpush H6 ((us.length : Int) - 1 - v) kb6 dr6 hp6 (by omega) (by omega)
        exact ⟨_, rfl, pd, us, rfl, .inl (SqL.of hD6.h), _, _, rfl, rfl, _, rfl, _, _, rfl, rfl, p, _, _, rfl, rfl, hp6, hsz, ns', _, _, rfl, e4, e5, e1, e2, e3⟩
      · refine ⟨_, rfl, _, rfl, pd, us, rfl, .inl (SqL.of hD6.h), d, c, _, rfl, dr6, by omega, bnd_le (by omega), fun H7 x k7 dr7 x0 x1 => ?_⟩
        have hp7 : H7 p = some (.lst ((asInts ns).map V.int)) := by rw [k7 p hpe]; exact hp6
        obtain ⟨ns', e1, e2, e3, e4, e5⟩ := hpush H7 x (kb6.trans k7.kb) dr7 hp7 x0 (by omega)
        exact ⟨p, _, _, rfl, rfl, hp7, hsz, ns', _, _, rfl, e4, e5, e1, e2, e3⟩
    · rintro σ H5 ⟨ns, v7, v8, rfl, kb, dr5, hp5, hnl, hns⟩
      have hnl : ns.length = m := by omega
      have hD5 := hD.kb kb hpd dr
      obtain ⟨n0, nr, rfl⟩ : ∃ n0 nr, ns = n0 :: nr := by
        cases ns with
        | nil => exact absurd hnl (by show 0 ≠ m; omega)
        | cons a b => exact ⟨a, b, rfl⟩
      have atd : ∀ a, a < ds.length → ∃ (g : Dom) (q b : Addr), ds[a]? = some g ∧ us[a]? = some (.ref q) ∧ SqT K H5 q [.ref b, .int g.lo, .int g.hi] ∧ ShT K H5 b g.sh ∧ GD g := fun a ha => by
        have e1 : ds[a]? = some ds[a] := List.getElem?_eq_getElem ha
        have e2 : us[a]? = some (us[a]'(by omega)) := List.getElem?_eq_getElem _
        obtain ⟨q, b, e3, h1, h2, h3⟩ := hD5.d.2 a _ _ e2 e1
        exact ⟨_, q, b, e1, by rw [e2, e3], h1, h2, hD5.g _ (List.getElem_mem _)⟩
      obtain ⟨g0, q0, b0, _, hu0, h01, h02, g0g⟩ := atd n0 (hns n0 (List.mem_cons_self ..))
      refine ⟨_, rfl, _, rfl, p, _, (0 : Int), _, rfl, rfl, SqL.of hp5, atI_zero, pd, _, (n0 : Int), _, rfl, rfl, SqL.of hD5.h, atI_nat hu0, q0, _, (0 : Nat), _, rfl, rfl, h01, i0, ?_⟩
      refine ⟨_, rfl, _, rfl, p, _, rfl, .inl ⟨SqL.of hp5, fun pa npa => ?_⟩⟩
      have s5 := same_upd (o := .tup ((asInts (n0 :: nr)).map V.int)) npa
      obtain ⟨li, l0, hli⟩ : ∃ li l0, n0 :: nr = li ++ [l0] := snoc_of n0 nr
      obtain ⟨gl, ql, bl, _, hul, hl1, hl2, glg⟩ := atd l0 (hns l0 (by rw [hli]; simp))
      refine ⟨_, rfl, _, rfl, _, rfl, _, rfl, _, rfl, _, rfl, p, _, (-1 : Int), .int (l0 : Int), rfl, rfl, SqL.of (s5 _ _ hp5), ?_, pd, _, (l0 : Int), _, rfl, rfl, SqL.of (s5 _ _ hD5.h), atI_nat hul, ql, _, (0 : Nat), _, rfl, rfl, sqT_same hl1 s5, i0, ?_⟩
      · rw [hli]
        unfold asInts
        rw [List.map_append, List.map_append]
        exact atI_last _ _
      have dr6 := dr5.same s5
      refine ⟨d, c, b0, bl, kind, g0.sh, rfl, dr6, hk', h02.same s5, g0g.ck, g0g.lw, fun H6 pi mk k6 dr6' hmk => ⟨by show 3 ≤ sizeLine; decide, fun pn npn => ?_⟩⟩
      have s7 := same_upd (o := .tup [.str kind, .ref pa, .ref pi]) npn
      obtain ⟨m1, m2, m3, m4, m5⟩ := hmk (n0 :: nr)
      refine q _ _ (mk (n0 :: nr)) (((kb.trans (Same.kb s5)).trans k6).trans (Same.kb s7)) (dr6'.same s7) ⟨pn, pa, pi, rfl, by rw [m1]; exact SqT.of upd_same, ?_, m5.keep (Same.nl s7)⟩ (.inr ⟨m3, m4, ?_, by rw [m2]; exact hns⟩)
      · rw [m2]
        exact sqT_same (sqT_nl (SqT.of upd_same) (k6.nl dr6)) s7
      · rw [m2, arS_nm m3, m1, hm]
        exact hnl
end

/-! ### the law's shapes are the program's -/
theorem sz_some {sh : Sh} {l : Nat} (h : sz sh l ≠ 0) : ∃ z, look sh l = some z ∧ sz sh l = z := by
  unfold sz at *
  cases e : look sh l with
  | none => rw [e] at h; exact absurd rfl h
  | some z => exact ⟨z, rfl, rfl⟩
theorem sz_none {sh : Sh} {l : Nat} (f : Fine sh) (h : sz sh l = 0) : look sh l = none := by
  cases e : look sh l with
  | none => rfl
  | some z =>
    have := f _ (look_mem e)
    unfold sz at h
    rw [e] at h
    have h : z = 0 := h
    have this : 1 ≤ z ∧ z ≤ 16 := this
    omega
theorem mem_repl {sh ax : Sh} {k : Nat} {p : Nat × Int} (h : p ∈ repl sh k ax) : (p ∈ sh ∧ p.1 ≠ k) ∨ p ∈ ax := by
  unfold repl at h
  obtain ⟨q, hq, hp⟩ := List.mem_flatMap.mp h
  split at hp
  · exact .inr hp
  · rename_i hk
    rw [List.mem_singleton] at hp
    subst hp
    exact .inl ⟨hq, hk⟩
theorem repl_none : ∀ {sh ax : Sh} {k : Nat}, k ∉ codes sh → repl sh k ax = sh
  | [], _, _, _ => rfl
  | p :: sh, ax, k, h => by
    have h1 : p.1 ≠ k := fun e => h (by rw [← e]; exact List.mem_cons_self ..)
    have ih := repl_none (sh := sh) (ax := ax) (k := k) fun z => h (List.mem_cons_of_mem _ z)
    have e : repl (p :: sh) k ax = (if p.1 = k then ax else [p]) ++ repl sh k ax := rfl
    rw [e, if_neg h1, ih]
    rfl
theorem mem_codes {sh : Sh} {p : Nat × Int} (h : p ∈ sh) : p.1 ∈ codes sh := List.mem_map.mpr ⟨p, h, rfl⟩
theorem of_codes {sh : Sh} {c : Nat} (h : c ∈ codes sh) : ∃ p ∈ sh, p.1 = c := List.mem_map.mp h
theorem repl_nodup : ∀ {sh ax : Sh} {k : Nat}, (codes sh).Nodup → (codes ax).Nodup → (∀ c ∈ codes ax, c = k ∨ c ∉ codes sh) → (codes (repl sh k ax)).Nodup
  | [], _, _, _, _, _ => List.nodup_nil
  | p :: sh, ax, k, h, hx, hd => by
    obtain ⟨h1, h2⟩ := List.nodup_cons.mp (show (p.1 :: codes sh).Nodup from h)
    have e : repl (p :: sh) k ax = (if p.1 = k then ax else [p]) ++ repl sh k ax := rfl
    rw [e]
    by_cases hk : p.1 = k
    · rw [if_pos hk, repl_none (by rw [← hk]; exact h1), codes, List.map_append, List.nodup_append]
      refine ⟨hx, h2, fun x hx' y hy' e => ?_⟩
      subst e
      rcases hd x hx' with h3 | h3
      · rw [h3, ← hk] at hy'
        exact h1 hy'
      · exact h3 (List.mem_cons_of_mem _ hy')
    · rw [if_neg hk]
      show (p.1 :: codes (repl sh k ax)).Nodup
      refine List.nodup_cons.mpr ⟨fun hm => ?_, repl_nodup h2 hx fun c hc => (hd c hc).imp id fun z y => z (List.mem_cons_of_mem _ y)⟩
      obtain ⟨q, hq, he⟩ := of_codes hm
      rcases mem_repl hq with ⟨hq, _⟩ | hq
      · exact h1 (by rw [← he]; exact mem_codes hq)
      · rcases hd q.1 (mem_codes hq) with h3 | h3
        · exact hk (by rw [← he]; exact h3)
        · exact h3 (by rw [he]; exact List.mem_cons_self ..)
theorem mem_codes_repl {sh ax : Sh} {k c : Nat} (h : c ∈ codes (repl sh k ax)) : (c ∈ codes sh ∧ c ≠ k) ∨ c ∈ codes ax := by
  obtain ⟨q, hq, he⟩ := of_codes h
  rcases mem_repl hq with ⟨hq, hn⟩ | hq
  · exact .inl ⟨by rw [← he]; exact mem_codes hq, by rw [← he]; exact hn⟩
  · exact .inr (by rw [← he]; exact mem_codes hq)
theorem replM_gen {k : Mv} {fresh a : Sh} (h : ∀ c, keepM k c = true) : replM k fresh a = repl a k.ax fresh := by
  unfold replM repl
  congr 1
  funext p
  rw [if_pos (h p.1)]
theorem replM_fold {l m : Nat} {s z : Int} {fresh : Sh} (hm : m ≠ l) : ∀ a : Sh, replM (.fold l m s z) fresh a = repl (repl a m []) l fresh
  | [] => rfl
  | p :: a => by
    have ih := replM_fold (s := s) (z := z) (fresh := fresh) hm a
    have e1 : replM (.fold l m s z) fresh (p :: a) = (if p.1 = l then fresh else if decide (p.1 ≠ m) = true then [p] else []) ++ replM (.fold l m s z) fresh a := rfl
    have e2 : repl (p :: a) m [] = (if p.1 = m then [] else [p]) ++ repl a m [] := rfl
    rw [e1, e2, ih]
    by_cases h1 : p.1 = m
    · rw [if_pos h1, if_neg (by rw [h1]; exact hm), if_neg (by rw [decide_eq_true_iff]; exact fun z => z h1)]
      rfl
    · rw [if_neg h1, if_pos (decide_eq_true h1)]
      rfl
theorem dropL_repl (sh : Sh) (l : Nat) : repl sh l [] = dropL sh l := by
  induction sh with
  | nil => rfl
  | cons p sh ih =>
    have e : repl (p :: sh) l [] = (if p.1 = l then [] else [p]) ++ repl sh l [] := rfl
    rw [e, ih]
    unfold dropL
    by_cases h : p.1 = l
    · rw [if_pos h]
      simp [List.filter_cons, h]
    · rw [if_neg h]
      simp [List.filter_cons, h]
theorem prod_app : ∀ (a b : List Int), prod (a ++ b) = prod a * prod b
  | [], b => by show prod b = 1 * prod b; omega
  | x :: a, b => by
    show x * prod (a ++ b) = x * prod a * prod b
    rw [prod_app a b, Int.mul_assoc]
theorem prod_pos1 : ∀ {ss : List Int}, (∀ s ∈ ss, 1 ≤ s) → 1 ≤ prod ss
  | [], _ => by decide
  | s :: ss, h => by
    have h1 := h s (List.mem_cons_self ..)
    have h2 := prod_pos1 (ss := ss) fun x hx => h x (List.mem_cons_of_mem _ hx)
    show 1 ≤ s * prod ss
    have := Int.mul_le_mul h1 h2 (by decide) (by omega)
    omega
theorem castF_none (os : List Sh) : os.foldl castF none = none := by
  induction os with
  | nil => rfl
  | cons o os ih => exact ih
theorem castF_pre : ∀ {os : List Sh} {s r : Sh}, os.foldl castF (some s) = some r → ∃ t, r = s ++ t
  | [], s, r, h => ⟨[], by cases h; rw [List.append_nil]⟩
  | o :: os, s, r, h => by
    have h : os.foldl castF (castF (some s) o) = some r := h
    have e : castF (some s) o = (cast s o).map (s ++ ·) := rfl
    rw [e] at h
    cases hc : cast s o with
    | none => rw [hc] at h; rw [show (none : Option Sh).map (s ++ ·) = none from rfl, castF_none] at h; cases h
    | some ad =>
      rw [hc] at h
      obtain ⟨t, ht⟩ := castF_pre (s := s ++ ad) h
      exact ⟨ad ++ t, by rw [ht, List.append_assoc]⟩
theorem fine_sz {sh : Sh} (h : Fine sh) : ∀ s ∈ sizes sh, 1 ≤ s := fun s hs => by
  obtain ⟨p, hp, rfl⟩ := List.mem_map.mp hs
  exact (h p hp).1
theorem chk_pre {s t : Sh} (hn : (codes s).Nodup) (hf : Fine (s ++ t)) (hl : (s ++ t).length ≤ 4) (hp : prod (sizes (s ++ t)) ≤ 256) : chk s = 0 := by
  refine chk_zero.mpr ⟨by rw [List.length_append] at hl; omega, hn, fun p h => hf p (List.mem_append_left _ h), ?_⟩
  unfold sizes at hp
  rw [List.map_append, prod_app] at hp
  have h1 : 1 ≤ prod (t.map (·.2)) := prod_pos1 (fine_sz (sh := t) fun p h => hf p (List.mem_append_right _ h))
  have h0 : 1 ≤ prod (s.map (·.2)) := prod_pos1 (fine_sz (sh := s) fun p h => hf p (List.mem_append_left _ h))
  show prod (s.map (·.2)) ≤ 256
  have := Int.mul_le_mul_of_nonneg_left h1 (show 0 ≤ prod (s.map (·.2)) by omega)
  omega
theorem bc_link : ∀ {os : List Sh} {s r : Sh}, (codes s).Nodup → (∀ o ∈ os, (codes o).Nodup) → os.foldl castF (some s) = some r → Fine r → r.length ≤ 4 → prod (sizes r) ≤ 256 → Fine s → (∀ o ∈ os, Fine o) → rcAll s os = (0, r) ∧ (codes r).Nodup
  | [], s, r, hn, _, h, _, _, _, _, _ => by cases h; exact ⟨rfl, hn⟩
  | o :: os, s, r, hn, ho, h, hf, hl, hp, hfs, hfo => by
    have h : os.foldl castF (castF (some s) o) = some r := h
    have e : castF (some s) o = (cast s o).map (s ++ ·) := rfl
    rw [e] at h
    cases hc : cast s o with
    | none => rw [hc] at h; rw [show (none : Option Sh).map (s ++ ·) = none from rfl, castF_none] at h; cases h
    | some ad =>
      rw [hc] at h
      have h : os.foldl castF (some (s ++ ad)) = some r := h
      have hn2 := cast_nodup hc hn (ho o (List.mem_cons_self ..))
      have hf2 := cast_fine hc hfs (hfo o (List.mem_cons_self ..))
      obtain ⟨t, ht⟩ := castF_pre h
      have hk : chk (s ++ ad) = 0 := chk_pre (t := t) hn2 (by rw [← ht]; exact hf) (by rw [← ht]; exact hl) (by rw [← ht]; exact hp)
      obtain ⟨e1, e2⟩ := bc_link hn2 (fun x hx => ho x (List.mem_cons_of_mem _ hx)) h hf hl hp hf2 (fun x hx => hfo x (List.mem_cons_of_mem _ hx))
      refine ⟨?_, e2⟩
      unfold rcAll
      rw [rc_some hc, hk]
      exact e1
theorem cast_low {s o ad : Sh} (h : cast s o = some ad) (h1 : Low s) (h2 : Low o) : Low (s ++ ad) := fun p hp => by
  rcases List.mem_append.mp hp with hp | hp
  · exact h1 p hp
  · exact h2 p ((cast_sub _ o rfl ad h).1.subset hp)
theorem bc_low : ∀ {os : List Sh} {s r : Sh}, os.foldl castF (some s) = some r → Low s → (∀ o ∈ os, Low o) → Low r
  | [], s, r, h, h1, _ => by cases h; exact h1
  | o :: os, s, r, h, h1, h2 => by
    have h : os.foldl castF (castF (some s) o) = some r := h
    have e : castF (some s) o = (cast s o).map (s ++ ·) := rfl
    rw [e] at h
    cases hc : cast s o with
    | none => rw [hc] at h; rw [show (none : Option Sh).map (s ++ ·) = none from rfl, castF_none] at h; cases h
    | some ad =>
      rw [hc] at h
      exact bc_low (s := s ++ ad) h (cast_low hc h1 (h2 o (List.mem_cons_self ..))) fun x hx => h2 x (List.mem_cons_of_mem _ hx)
theorem join_link : ∀ {a b : Sh} {l : Nat}, codes a = codes b → (codes a).Nodup → (∀ p ∈ a, p.1 ≠ l → p.2 = sz b p.1) → repl a l [] = repl b l []
  | [], [], _, _, _, _ => rfl
  | [], q :: b, _, h, _, _ => by cases h
  | p :: a, [], _, h, _, _ => by cases h
  | p :: a, q :: b, l, h, hn, hs => by
    obtain ⟨h1, h2⟩ := List.cons.inj (show p.1 :: codes a = q.1 :: codes b from h)
    obtain ⟨n1, n2⟩ := List.nodup_cons.mp (show (p.1 :: codes a).Nodup from hn)
    have ih := join_link (a := a) (b := b) (l := l) h2 n2 fun x hx hl => by
      rw [hs x (List.mem_cons_of_mem _ hx) hl]
      unfold sz
      have : x.1 ≠ q.1 := fun e => n1 (by rw [h1, ← e]; exact mem_codes hx)
      have e : look (q :: b) x.1 = look b x.1 := by
        unfold look
        rw [List.find?_cons_of_neg (by rw [decide_eq_true_iff]; exact fun e => this e.symm)]
      rw [e]
    have e1 : repl (p :: a) l [] = (if p.1 = l then [] else [p]) ++ repl a l [] := rfl
    have e2 : repl (q :: b) l [] = (if q.1 = l then [] else [q]) ++ repl b l [] := rfl
    rw [e1, e2, ih, ← h1]
    by_cases hl : p.1 = l
    · rw [if_pos hl, if_pos hl]
    · rw [if_neg hl, if_neg hl]
      have : p.2 = q.2 := by
        rw [hs p (List.mem_cons_self ..) hl]
        unfold sz look
        rw [List.find?_cons_of_pos (by rw [decide_eq_true_iff]; exact h1.symm)]
        rfl
      have hpq : p = q := Prod.ext h1 this
      rw [hpq]
/-- what the program makes of the shapes -/
def progR : Nd → List Dom → Nat × Sh
  | .bc _ _, g :: gs => rcAll g.sh (gs.map (·.sh))
  | .dot l _, [a, b] => dotR a.sh b.sh l
  | .mv (.sum l) _, [a] => redR a.sh l
  | .mv (.peak l) _, [a] => redR a.sh l
  | .mv (.order ls) _, [a] => orderR a.sh ls
  | .mv (.rename l m) _, [a] => renR a.sh l m
  | .mv (.spread l z) _, [a] => spreadR a.sh l z
  | .mv (.cut l x y) _, [a] => cutR a.sh l x y
  | .mv (.pad l x y) _, [a] => padR a.sh l x y
  | .mv (.join l) _, [a, b] => joinR a.sh b.sh l
  | .mv (.window l m x y) _, [a] => winR a.sh l m x y
  | .mv (.fold l m x y) _, [a] => foldR a.sh l m x y
  | .mv (.gather l) _, [a, b] => gathR a.sh b.sh l
  | _, _ => (0, [])
theorem low1 {l : Nat} {z : Int} (h : l < 128) : Low [(l, z)] := fun p hp => by
  rw [List.mem_singleton] at hp
  subst hp
  exact h
theorem nd1 (l : Nat) (z : Int) : (codes [(l, z)]).Nodup := List.nodup_cons.mpr ⟨List.not_mem_nil, List.nodup_nil⟩
theorem atOne {l c : Nat} {z : Int} (h : c ∈ codes [(l, z)]) : c = l := by
  have : c ∈ [l] := h
  rwa [List.mem_singleton] at this
theorem mv_link {k : Mv} {as : List Nat} {a b : Dom} {gs : List Dom} {sh : Sh} (hg : GoodF (.mv k as)) (ha : GD a) (hb : GD b) (hgs : gs = [a] ∧ arN (.mv k as) = 1 ∨ gs = [a, b] ∧ arN (.mv k as) = 2) (h : mvS k a.sh b.sh = some sh) : progR (.mv k as) gs = (0, sh) ∧ (codes sh).Nodup ∧ Low sh := by
  have gen : ∀ (hs : (if sz a.sh k.ax = 0 then none else (newAx k a.sh b.sh (sz a.sh k.ax)).map fun fresh => replM k fresh a.sh) = some sh), ∃ z fresh, look a.sh k.ax = some z ∧ newAx k a.sh b.sh z = some fresh ∧ sh = replM k fresh a.sh := fun h => by
    split at h
    · cases h
    · rename_i h0
      obtain ⟨z, h1, h2⟩ := sz_some h0
      cases e : newAx k a.sh b.sh (sz a.sh k.ax) with
      | none => rw [e] at h; cases h
      | some ax =>
        rw [e] at h
        cases h
        exact ⟨z, ax, h1, by rw [← h2]; exact e, rfl⟩
  cases k with
  | order ls =>
    obtain ⟨rfl, _⟩ := hgs.resolve_right fun z => by cases z.2
    have h : (if ls.Perm (codes a.sh) then some (ls.map (sized a.sh)) else none) = some sh := h
    split at h
    · rename_i hp
      cases h
      refine ⟨?_, ?_, fun p hp' => ?_⟩
      · show orderR a.sh ls = _
        unfold orderR
        rw [if_pos hp]
      · have e : codes (ls.map (sized a.sh)) = ls := by
          unfold codes
          rw [List.map_map]
          exact List.map_id _
        rw [e]
        exact hp.nodup_iff.mpr ha.nd
      · obtain ⟨l, hl, rfl⟩ := List.mem_map.mp hp'
        exact hg.2 l hl
    · cases h
  | spread l z =>
    obtain ⟨rfl, _⟩ := hgs.resolve_right fun z => by cases z.2
    have h : (if 0 < sz a.sh l then none else some (a.sh ++ [(l, z)])) = some sh := h
    split at h
    · cases h
    · rename_i h0
      cases h
      have hl : l ∉ codes a.sh := look_none.mp (sz_none ha.fi (by have := (sz_le ha.fi l).1; omega))
      refine ⟨?_, ?_, fun p hp => ?_⟩
      · show spreadR a.sh l z = _
        unfold spreadR
        rw [if_neg hl]
      · rw [codes, List.map_append, List.nodup_append]
        refine ⟨ha.nd, nd1 l z, fun x hx y hy e => ?_⟩
        subst e
        rw [atOne (z := z) hy] at hx
        exact hl hx
      · rcases List.mem_append.mp hp with hp | hp
        · exact ha.lw p hp
        · exact low1 hg.1 p hp
  | sum l =>
    obtain ⟨rfl, _⟩ := hgs.resolve_right fun z => by cases z.2
    obtain ⟨z, fresh, e1, e2, rfl⟩ := gen h
    cases e2
    rw [replM_gen fun _ => rfl]
    refine ⟨?_, repl_nodup ha.nd List.nodup_nil fun _ h => (by cases h), repl_low ha.lw fun _ h => (by cases h)⟩
    show redR a.sh l = _
    unfold redR
    rw [show look a.sh l = some z from e1]
    rfl
  | peak l =>
    obtain ⟨rfl, _⟩ := hgs.resolve_right fun z => by cases z.2
    obtain ⟨z, fresh, e1, e2, rfl⟩ := gen h
    cases e2
    rw [replM_gen fun _ => rfl]
    refine ⟨?_, repl_nodup ha.nd List.nodup_nil fun _ h => (by cases h), repl_low ha.lw fun _ h => (by cases h)⟩
    show redR a.sh l = _
    unfold redR
    rw [show look a.sh l = some z from e1]
    rfl
  | rename l m =>
    obtain ⟨rfl, _⟩ := hgs.resolve_right fun z => by cases z.2
    obtain ⟨z, fresh, e1, e2, rfl⟩ := gen h
    have e2 : (if m ∈ codes a.sh then none else some [(m, z)]) = some fresh := e2
    split at e2
    · cases e2
    · rename_i hm
      cases e2
      rw [replM_gen fun _ => rfl]
      refine ⟨?_, repl_nodup ha.nd (nd1 _ _) fun c h => .inr (by rw [atOne h]; exact hm), repl_low ha.lw (low1 hg.2)⟩
      show renR a.sh l m = _
      unfold renR
      rw [show look a.sh l = some z from e1]
      exact if_neg hm
  | cut l x y =>
    obtain ⟨rfl, _⟩ := hgs.resolve_right fun z => by cases z.2
    obtain ⟨z, fresh, e1, e2, rfl⟩ := gen h
    have e2 : (if z < x + y then none else some [(l, y)]) = some fresh := e2
    split at e2
    · cases e2
    · rename_i hm
      cases e2
      rw [replM_gen fun _ => rfl]
      refine ⟨?_, repl_nodup ha.nd (nd1 _ _) fun c h => .inl (atOne h), repl_low ha.lw (low1 hg.1)⟩
      show cutR a.sh l x y = _
      unfold cutR
      rw [show look a.sh l = some z from e1]
      exact if_neg hm
  | pad l x y =>
    obtain ⟨rfl, _⟩ := hgs.resolve_right fun z => by cases z.2
    obtain ⟨z, fresh, e1, e2, rfl⟩ := gen h
    cases e2
    rw [replM_gen fun _ => rfl]
    refine ⟨?_, repl_nodup ha.nd (nd1 _ _) fun c h => .inl (atOne h), repl_low ha.lw (low1 hg.1)⟩
    show padR a.sh l x y = _
    unfold padR
    rw [show look a.sh l = some z from e1]
    rfl
  | join l =>
    obtain ⟨rfl, _⟩ := hgs.resolve_left fun z => by cases z.2
    obtain ⟨z, fresh, e1, e2, rfl⟩ := gen h
    have e2 : (if codes a.sh = codes b.sh ∧ joinBad a.sh b.sh l = false then some [(l, z + sz b.sh l)] else none) = some fresh := e2
    split at e2
    · rename_i hm
      cases e2
      rw [replM_gen fun _ => rfl]
      refine ⟨?_, repl_nodup ha.nd (nd1 _ _) fun c h => .inl (atOne h), repl_low ha.lw (low1 hg)⟩
      show joinR a.sh b.sh l = _
      have hla : l ∈ codes a.sh := mem_codes (look_mem e1)
      obtain ⟨y, hy⟩ : ∃ y, look b.sh l = some y := by
        cases e : look b.sh l with
        | none => exact absurd (by rw [← hm.1]; exact hla) (look_none.mp e)
        | some y => exact ⟨y, rfl⟩
      have hs : sz b.sh l = y := by unfold sz; rw [hy]; rfl
      unfold joinR
      rw [show look a.sh l = some z from e1, hy, hs]
      refine if_pos ⟨hm.1, join_link hm.1 ha.nd fun p hp hl => ?_⟩
      have hj := hm.2
      unfold joinBad at hj
      rw [List.any_eq_false] at hj
      have := hj p hp
      rw [Bool.and_eq_true, decide_eq_true_iff, decide_eq_true_iff] at this
      exact Classical.byContradiction fun z => this ⟨hl, z⟩
    · cases e2
  | window l m x y =>
    obtain ⟨rfl, _⟩ := hgs.resolve_right fun z => by cases z.2
    obtain ⟨z, fresh, e1, e2, rfl⟩ := gen h
    have e2 : (if m ∈ codes a.sh ∨ z < x then none else some [(l, (z - x) / y + 1), (m, x)]) = some fresh := e2
    split at e2
    · cases e2
    · rename_i hm
      cases e2
      have hm1 : m ∉ codes a.sh := fun z => hm (.inl z)
      have hm2 : ¬ z < x := fun z => hm (.inr z)
      have hla : l ∈ codes a.sh := mem_codes (look_mem e1)
      rw [replM_gen fun _ => rfl]
      refine ⟨?_, repl_nodup ha.nd (List.nodup_cons.mpr ⟨fun z => ?_, List.nodup_cons.mpr ⟨List.not_mem_nil, List.nodup_nil⟩⟩) fun c h => ?_, repl_low ha.lw fun p hp => ?_⟩
      · show winR a.sh l m x y = _
        unfold winR
        rw [show look a.sh l = some z from e1]
        show (if m ∈ codes a.sh then _ else _) = _
        rw [if_neg hm1]
        exact if_neg hm2
      · have : l = m := by
          have z : l ∈ [m] := z
          rwa [List.mem_singleton] at z
        exact hm1 (by rw [← this]; exact hla)
      · have h : c ∈ [l, m] := h
        rcases List.mem_cons.mp h with h | h
        · exact .inl h
        · rw [List.mem_singleton] at h
          exact .inr (by rw [h]; exact hm1)
      · rcases List.mem_cons.mp hp with rfl | hp
        · exact hg.1
        · exact low1 hg.2.1 p hp
  | fold l m x y =>
    obtain ⟨rfl, _⟩ := hgs.resolve_right fun z => by cases z.2
    obtain ⟨z, fresh, e1, e2, rfl⟩ := gen h
    have e2 : (if sz a.sh m = 0 ∨ m = l ∨ y < x * (z - 1) + sz a.sh m then none else some [(l, y)]) = some fresh := e2
    split at e2
    · cases e2
    · rename_i hm
      cases e2
      obtain ⟨u, hu, hu2⟩ := sz_some fun z => hm (.inl z)
      have hml : m ≠ l := fun z => hm (.inr (.inl z))
      rw [replM_fold hml]
      refine ⟨?_, repl_nodup (repl_nodup ha.nd List.nodup_nil fun _ h => (by cases h)) (nd1 _ _) fun c h => .inl (atOne h), repl_low (repl_low ha.lw fun _ h => (by cases h)) (low1 hg.1)⟩
      show foldR a.sh l m x y = _
      unfold foldR
      rw [show look a.sh l = some z from e1, hu]
      show (if m = l then _ else _) = _
      rw [if_neg hml]
      exact if_neg fun h => hm (.inr (.inr (by rw [hu2]; exact h)))
  | gather l =>
    obtain ⟨rfl, _⟩ := hgs.resolve_left fun z => by cases z.2
    obtain ⟨z, fresh, e1, e2, rfl⟩ := gen h
    have e2 : (if anyIn b.sh a.sh = true then none else some b.sh) = some fresh := e2
    split at e2
    · cases e2
    · rename_i hm
      cases e2
      rw [replM_gen fun _ => rfl]
      refine ⟨?_, repl_nodup ha.nd hb.nd fun c h => .inr fun h2 => hm ?_, repl_low ha.lw hb.lw⟩
      · show gathR a.sh b.sh l = _
        unfold gathR
        rw [show look a.sh l = some z from e1]
        exact if_neg hm
      · obtain ⟨p, hp, rfl⟩ := of_codes h
        unfold anyIn
        rw [List.any_eq_true]
        exact ⟨p, hp, decide_eq_true h2⟩
theorem one_of {gs : List Dom} (h : gs.length = 1) : ∃ d, gs = [d] := List.length_eq_one_iff.mp h
theorem two_of : ∀ {gs : List Dom}, gs.length = 2 → ∃ d e, gs = [d, e]
  | [d, e], _ => ⟨d, e, rfl⟩
theorem three_of : ∀ {gs : List Dom}, gs.length = 3 → ∃ d e f, gs = [d, e, f]
  | [d, e, f], _ => ⟨d, e, f, rfl⟩
theorem mx_mono {a b c d : Int} (h : a ≤ c) (k : b ≤ d) : mx a b ≤ mx c d := by
  unfold mx
  split <;> split <;> omega
theorem mn_mono {a b c d : Int} (h : a ≤ c) (k : b ≤ d) : mn a b ≤ mn c d := by
  unfold mn
  split <;> split <;> omega
theorem mn_mx {a b c d : Int} (h : a ≤ c) : mn a b ≤ mx c d := by
  unfold mn mx
  split <;> split <;> omega
theorem lst_le_grt {l : List Int} {x : Int} (h : x ∈ l) : lst l ≤ grt l := Int.le_trans (lst_le l x h) (le_grt l x h)
theorem span_le {nd : Nd} {gs : List Dom} (hc : compu nd) (hl : gs.length = arN nd) (hgs : ∀ g ∈ gs, GD g) : (spanL nd gs).1 ≤ (spanL nd gs).2 := by
  have f1 : gs.length = 1 → ∃ d, gs = [d] ∧ GD d := fun h => by
    obtain ⟨d, rfl⟩ := one_of h
    exact ⟨d, rfl, hgs d (List.mem_cons_self ..)⟩
  have f2 : gs.length = 2 → ∃ d e, gs = [d, e] ∧ GD d ∧ GD e := fun h => by
    obtain ⟨d, e, rfl⟩ := two_of h
    exact ⟨d, e, rfl, hgs d (List.mem_cons_self ..), hgs e (List.mem_cons_of_mem _ (List.mem_cons_self ..))⟩
  have f3 : gs.length = 3 → ∃ c d e, gs = [c, d, e] ∧ GD c ∧ GD d ∧ GD e := fun h => by
    obtain ⟨c, d, e, rfl⟩ := three_of h
    exact ⟨c, d, e, rfl, hgs c (List.mem_cons_self ..), hgs d (List.mem_cons_of_mem _ (List.mem_cons_self ..)), hgs e (List.mem_cons_of_mem _ (List.mem_cons_of_mem _ (List.mem_cons_self ..)))⟩
  cases nd with
  | input _ _ _ => exact hc.elim
  | const _ _ => exact hc.elim
  | dot l as =>
    obtain ⟨d, e, rfl, hd, he⟩ := f2 hl
    exact Int.mul_le_mul_of_nonneg_left (lst_le_grt (List.mem_cons_self ..)) (sz_le hd.fi l).1
  | bc k as =>
    cases k with
    | add => obtain ⟨d, e, rfl, hd, he⟩ := f2 hl; exact Int.add_le_add hd.ord he.ord
    | sub => obtain ⟨d, e, rfl, hd, he⟩ := f2 hl; exact Int.sub_le_sub hd.ord he.ord
    | mul =>
      obtain ⟨d, e, rfl, hd, he⟩ := f2 hl
      exact Int.mul_le_mul_of_nonneg_left (lst_le_grt (List.mem_cons_self ..)) (by decide)
    | max => obtain ⟨d, e, rfl, hd, he⟩ := f2 hl; exact mx_mono hd.ord he.ord
    | min => obtain ⟨d, e, rfl, hd, he⟩ := f2 hl; exact mn_mono hd.ord he.ord
    | less => obtain ⟨d, e, rfl, hd, he⟩ := f2 hl; exact (by decide : (0 : Int) ≤ 1)
    | equal => obtain ⟨d, e, rfl, hd, he⟩ := f2 hl; exact (by decide : (0 : Int) ≤ 1)
    | neg => obtain ⟨d, rfl, hd⟩ := f1 hl; exact lst_le_grt (List.mem_cons_self ..)
    | clamp lo hi => obtain ⟨d, rfl, hd⟩ := f1 hl; exact lst_le_grt (List.mem_cons_self ..)
    | shift n => obtain ⟨d, rfl, hd⟩ := f1 hl; exact lst_le_grt (List.mem_cons_self ..)
    | wher => obtain ⟨c, d, e, rfl, hcc, hd, he⟩ := f3 hl; exact mn_mx hd.ord
  | mv k as =>
    cases k with
    | sum l => obtain ⟨d, rfl, hd⟩ := f1 hl; exact Int.mul_le_mul_of_nonneg_left hd.ord (sz_le hd.fi l).1
    | peak l => obtain ⟨d, rfl, hd⟩ := f1 hl; exact hd.ord
    | order l => obtain ⟨d, rfl, hd⟩ := f1 hl; exact hd.ord
    | rename l m => obtain ⟨d, rfl, hd⟩ := f1 hl; exact hd.ord
    | spread l m => obtain ⟨d, rfl, hd⟩ := f1 hl; exact hd.ord
    | cut l x y => obtain ⟨d, rfl, hd⟩ := f1 hl; exact hd.ord
    | pad l x y => obtain ⟨d, rfl, hd⟩ := f1 hl; exact mn_mx hd.ord
    | join l => obtain ⟨d, e, rfl, hd, he⟩ := f2 hl; exact mn_mx hd.ord
    | window l m x y => obtain ⟨d, rfl, hd⟩ := f1 hl; exact hd.ord
    | fold l m x y => obtain ⟨d, rfl, hd⟩ := f1 hl; exact mn_mx (Int.mul_le_mul_of_nonneg_left hd.ord (sz_le hd.fi m).1)
    | gather l => obtain ⟨d, e, rfl, hd, he⟩ := f2 hl; exact hd.ord
theorem Fine_of {sh : Sh} (h : fineB sh = true) : Fine sh := fineB_iff.mp h
/-- what the law's domain says of the program's -/
theorem lawD_link {nd : Nd} {gs : List Dom} {d : Dom} (hc : compu nd) (hg : GoodF nd) (hl : gs.length = arN nd) (hgs : ∀ g ∈ gs, GD g) (h : lawD nd gs = some d) : progR nd gs = (0, d.sh) ∧ chk d.sh = 0 ∧ Low d.sh ∧ -W200 ≤ d.lo ∧ d.hi ≤ W200 ∧ d.lo = (spanL nd gs).1 ∧ d.hi = (spanL nd gs).2 ∧ d.lo ≤ d.hi := by
  rw [lawD_compu hc] at h
  cases hs : shapeL nd gs with
  | none => rw [hs] at h; cases h
  | some sh =>
    rw [hs] at h
    have h : finL nd gs sh = some d := h
    unfold finL at h
    split at h
    · cases h
    · rename_i h1
      split at h
      · rename_i h2
        split at h
        · cases h
        · rename_i h3
          cases h
          have hfi := Fine_of h2
          have hl4 : sh.length ≤ 4 := by
            by_cases z : 4 < sh.length
            · exact absurd (.inl z) h1
            · omega
          have hp : prod (sizes sh) ≤ 256 := by
            by_cases z : 256 < prod (sizes sh)
            · exact absurd (.inr z) h1
            · omega
          have key : progR nd gs = (0, sh) ∧ (codes sh).Nodup ∧ Low sh := by
            cases nd with
            | input _ _ _ => exact hc.elim
            | const _ _ => exact hc.elim
            | bc k as =>
              cases gs with
              | nil => cases hs
              | cons g gs =>
                have hs : (gs.map (·.sh)).foldl castF (some g.sh) = some sh := hs
                have hm : ∀ {Pr : Sh → Prop}, (∀ g, GD g → Pr g.sh) → ∀ o ∈ gs.map (·.sh), Pr o := fun f o ho => by
                  obtain ⟨x, hx, rfl⟩ := List.mem_map.mp ho
                  exact f x (hgs x (List.mem_cons_of_mem _ hx))
                have g0 := hgs g (List.mem_cons_self ..)
                obtain ⟨e1, e2⟩ := bc_link g0.nd (hm fun _ z => z.nd) hs hfi hl4 hp g0.fi (hm fun _ z => z.fi)
                exact ⟨e1, e2, bc_low hs g0.lw (hm fun _ z => z.lw)⟩
            | dot l as =>
              match gs, hs, hgs, hl with
              | [a, b], hs, hgs, _ =>
                have ga := hgs a (List.mem_cons_self ..)
                have gb := hgs b (List.mem_cons_of_mem _ (List.mem_cons_self ..))
                have hs : (((cast a.sh b.sh).map (a.sh ++ ·)).bind fun s => if sz a.sh l = 0 ∨ sz b.sh l = 0 then none else some (dropL s l)) = some sh := hs
                cases ec : cast a.sh b.sh with
                | none => rw [ec] at hs; cases hs
                | some ad =>
                  rw [ec] at hs
                  have hs : (if sz a.sh l = 0 ∨ sz b.sh l = 0 then none else some (dropL (a.sh ++ ad) l)) = some sh := hs
                  split at hs
                  · cases hs
                  · rename_i hz
                    cases hs
                    obtain ⟨x, hx, _⟩ := sz_some fun z => hz (.inl z)
                    obtain ⟨y, hy, _⟩ := sz_some fun z => hz (.inr z)
                    rw [← dropL_repl]
                    refine ⟨?_, repl_nodup (cast_nodup ec ga.nd gb.nd) List.nodup_nil fun _ h => (by cases h), repl_low (cast_low ec ga.lw gb.lw) fun _ h => (by cases h)⟩
                    show dotR a.sh b.sh l = _
                    unfold dotR
                    rw [hx, hy, ec]
              | [], hs, _, _ => cases hs
              | [_], hs, _, _ => cases hs
              | _ :: _ :: _ :: _, hs, _, _ => cases hs
            | mv k as =>
              match gs, hs, hgs, hl with
              | [a], hs, hgs, hl =>
                have ga := hgs a (List.mem_cons_self ..)
                exact mv_link hg ga ga (.inl ⟨rfl, hl.symm⟩) hs
              | [a, b], hs, hgs, hl =>
                have ga := hgs a (List.mem_cons_self ..)
                have gb := hgs b (List.mem_cons_of_mem _ (List.mem_cons_self ..))
                exact mv_link hg ga gb (.inr ⟨rfl, hl.symm⟩) hs
              | [], hs, _, _ => cases hs
              | _ :: _ :: _ :: _, hs, _, _ => cases hs
          refine ⟨key.1, chk_zero.mpr ⟨hl4, key.2.1, hfi, hp⟩, key.2.2, ?_, ?_, rfl, rfl, span_le hc hl hgs⟩
          · show -W200 ≤ (spanL nd gs).1
            by_cases z : (spanL nd gs).1 < -W200
            · exact absurd (.inl z) h3
            · omega
          · show (spanL nd gs).2 ≤ W200
            by_cases z : W200 < (spanL nd gs).2
            · exact absurd (.inr z) h3
            · omega
      · cases h
theorem given_ex {ds : List Dom} : ∀ {as : List Nat}, (∀ a ∈ as, a < ds.length) → ∃ gs, GivenN as ds gs ∧ ∀ g ∈ gs, g ∈ ds
  | [], _ => ⟨[], ⟨rfl, fun i k h => by simp at h⟩, fun _ h => by cases h⟩
  | a :: as, h => by
    obtain ⟨gs, ⟨h1, h2⟩, h3⟩ := given_ex (as := as) fun x hx => h x (List.mem_cons_of_mem _ hx)
    have ha := h a (List.mem_cons_self ..)
    refine ⟨ds[a] :: gs, ⟨by rw [List.length_cons, List.length_cons, h1], fun i k hk => ?_⟩, fun g hg => ?_⟩
    · cases i with
      | zero =>
        have e : a = k := Option.some.inj hk
        subst e
        exact ⟨_, List.getElem?_eq_getElem ha, rfl⟩
      | succ i => exact h2 i k hk
    · rcases List.mem_cons.mp hg with rfl | hg
      · exact List.getElem_mem _
      · exact h3 g hg
theorem GoodF.nd {nd : Nd} (h : GoodF nd) (c : compu nd) : NdOk nd := by
  cases nd with
  | input _ _ _ => exact trivial
  | const _ _ => exact c.elim
  | dot _ _ => exact trivial
  | bc k _ => cases k <;> first | exact h | exact trivial
  | mv k _ =>
    cases k with
    | order ls => exact ⟨h, trivial⟩
    | spread l z => exact ⟨h.2.1, by have := h.2; exact ⟨by omega, by omega⟩⟩
    | cut l x y => exact ⟨trivial, by obtain ⟨_, a, b, c, d⟩ := h; exact ⟨by omega, by omega, by omega, by omega⟩⟩
    | pad l x y => exact ⟨trivial, by obtain ⟨_, a, b, c, d⟩ := h; exact ⟨by omega, by omega, by omega, by omega⟩⟩
    | window l m x y => exact ⟨by obtain ⟨_, _, a, b, c, d⟩ := h; exact ⟨c, d⟩, by obtain ⟨_, _, a, b, c, d⟩ := h; exact ⟨by omega, by omega, by omega, by omega⟩⟩
    | fold l m x y => exact ⟨by obtain ⟨_, _, a, b, c, d⟩ := h; exact ⟨a, b⟩, by obtain ⟨_, _, a, b, c, d⟩ := h; exact ⟨by omega, by omega, by omega, by omega⟩⟩
    | sum _ => exact ⟨trivial, trivial⟩
    | peak _ => exact ⟨trivial, trivial⟩
    | rename _ _ => exact ⟨trivial, trivial⟩
    | join _ => exact ⟨trivial, trivial⟩
    | gather _ => exact ⟨trivial, trivial⟩
theorem bg300 {x : Int} (h : -10000000000 ≤ x) (h2 : x ≤ 10000000000) : Bg 300 x := by
  unfold Bg
  have : (10000000001 : Nat) ≤ 2 ^ 300 := by decide +kernel
  omega
theorem GivN.lawD {nd : Nd} (h : GivN nd) (ds : List Dom) : ∃ d, lawD nd ds = some d ∧ GD d := by
  cases nd with
  | input sh lo hi =>
    obtain ⟨a, b, c, d, e⟩ := h
    exact ⟨_, rfl, bg300 d (show lo ≤ 10000000000 by omega), bg300 (show -10000000000 ≤ hi by omega) e, a, b, c⟩
  | const sh ns =>
    obtain ⟨a, b, c, d, _, e⟩ := h
    exact ⟨_, rfl, bg300 (e _ (lst_mem ns d)).1 (e _ (lst_mem ns d)).2, bg300 (e _ (grt_mem ns d)).1 (e _ (grt_mem ns d)).2, a, b, lst_le_grt (lst_mem ns d)⟩
  | bc _ _ => exact h.elim
  | dot _ _ => exact h.elim
  | mv _ _ => exact h.elim
theorem GivN.args {nd : Nd} (h : GivN nd) : nd.args = [] ∧ arN nd = 0 ∧ NdOk nd := by
  cases nd with
  | input sh lo hi => exact ⟨rfl, rfl, trivial⟩
  | const sh ns => exact ⟨rfl, rfl, h.2.2.2.1⟩
  | bc _ _ => exact h.elim
  | dot _ _ => exact h.elim
  | mv _ _ => exact h.elim
/-- nodes and their domains -/
structure WfG (nds : List Nd) (ds : List Dom) : Prop where
  l : nds.length = ds.length
  g : ∀ (i : Nat) (nd : Nd) (d : Dom), nds[i]? = some nd → ds[i]? = some d → GoodN nd i ∧ GD d ∧ ∃ gs, GivenN nd.args (ds.take i) gs ∧ (∀ g ∈ gs, GD g) ∧ lawD nd gs = some d
theorem WfG.snoc {nds : List Nd} {ds : List Dom} {nd : Nd} {d : Dom} {gs : List Dom} (w : WfG nds ds) (h1 : GoodN nd ds.length) (h2 : GD d) (h3 : GivenN nd.args ds gs) (h4 : ∀ g ∈ gs, GD g) (h5 : lawD nd gs = some d) : WfG (nds ++ [nd]) (ds ++ [d]) := by
  refine ⟨by rw [List.length_append, List.length_append, w.l]; rfl, fun i nd' d' e1 e2 => ?_⟩
  by_cases hi : i < ds.length
  · rw [List.getElem?_append_left (by rw [w.l]; exact hi)] at e1
    rw [List.getElem?_append_left hi] at e2
    rw [List.take_append_of_le_length (by omega)]
    exact w.g i nd' d' e1 e2
  · have hi2 : i < (ds ++ [d]).length := (List.getElem?_eq_some_iff.mp e2).1
    rw [List.length_append] at hi2
    have hi3 : i = ds.length := by
      have : [d].length = 1 := rfl
      omega
    subst hi3
    rw [List.getElem?_append_right (Nat.le_refl _), Nat.sub_self] at e2
    rw [List.getElem?_append_right (by rw [w.l]; exact Nat.le_refl _), w.l, Nat.sub_self] at e1
    cases e1
    cases e2
    rw [List.take_left]
    exact ⟨h1, h2, gs, h3, h4, h5⟩
section
variable {P : Program} {w : World} {K : PySem.W.Frag} {mg : Str → Option Value} {base : Heap}
def Nds (K : PySem.W.Frag) (H : Hp) (vs : List V) (nds : List Nd) : Prop := vs.length = nds.length ∧ ∀ (i : Nat) (v : V) (nd : Nd), vs[i]? = some v → nds[i]? = some nd → NdAt K H v nd
theorem Nds.keep {H H' : Hp} {vs : List V} {nds : List Nd} (h : Nds K H vs nds) (s : NL H H') : Nds K H' vs nds := ⟨h.1, fun i v d a b => (h.2 i v d a b).keep s⟩
theorem Nds.snoc {H : Hp} {vs : List V} {nds : List Nd} {v : V} {nd : Nd} (h : Nds K H vs nds) (hv : NdAt K H v nd) : Nds K H (vs ++ [v]) (nds ++ [nd]) := by
  refine ⟨by rw [List.length_append, List.length_append, h.1]; rfl, fun i x y e1 e2 => ?_⟩
  by_cases hi : i < vs.length
  · rw [List.getElem?_append_left hi] at e1
    rw [List.getElem?_append_left (by rw [← h.1]; exact hi)] at e2
    exact h.2 i x y e1 e2
  · have hi2 : i < (vs ++ [v]).length := (List.getElem?_eq_some_iff.mp e1).1
    rw [List.length_append] at hi2
    have hi3 : i = vs.length := by
      have : [v].length = 1 := rfl
      omega
    subst hi3
    rw [List.getElem?_append_right (Nat.le_refl _), Nat.sub_self] at e1
    rw [List.getElem?_append_right (by rw [h.1]; exact Nat.le_refl _), h.1, Nat.sub_self] at e2
    cases e1
    cases e2
    exact hv
theorem Dms.snoc {H : Hp} {vs : List V} {nds : List Dom} {v : V} {nd : Dom} (h : Dms K H vs nds) (hv : DmAt K H v nd) : Dms K H (vs ++ [v]) (nds ++ [nd]) := by
  refine ⟨by rw [List.length_append, List.length_append, h.1]; rfl, fun i x y e1 e2 => ?_⟩
  by_cases hi : i < vs.length
  · rw [List.getElem?_append_left hi] at e1
    rw [List.getElem?_append_left (by rw [← h.1]; exact hi)] at e2
    exact h.2 i x y e1 e2
  · have hi2 : i < (vs ++ [v]).length := (List.getElem?_eq_some_iff.mp e1).1
    rw [List.length_append] at hi2
    have hi3 : i = vs.length := by
      have : [v].length = 1 := rfl
      omega
    subst hi3
    rw [List.getElem?_append_right (Nat.le_refl _), Nat.sub_self] at e1
    rw [List.getElem?_append_right (by rw [h.1]; exact Nat.le_refl _), h.1, Nat.sub_self] at e2
    cases e1
    cases e2
    exact hv
/-- the graph so far -/
structure GrAt (K : PySem.W.Frag) (H : Hp) (pn pd : Addr) (vs us : List V) (nds : List Nd) (ds : List Dom) : Prop where
  n : H pn = some (.lst vs)
  m : Nds K H vs nds
  d : DomsAt K H pd us ds
  w : WfG nds ds
/-- all but the first node have few elements -/
def CapG (cap : Int) (ds : List Dom) : Prop := ∀ (i : Nat) (d : Dom), 0 < i → ds[i]? = some d → prod (sizes d.sh) ≤ cap
theorem CapG.snoc {cap : Int} {ds : List Dom} {d : Dom} (h : CapG cap ds) (x : prod (sizes d.sh) ≤ cap) : CapG cap (ds ++ [d]) := fun i d' hi e => by
  by_cases hl : i < ds.length
  · rw [List.getElem?_append_left hl] at e
    exact h i d' hi e
  · have hlt := (List.getElem?_eq_some_iff.mp e).1
    rw [List.length_append] at hlt
    have ei : i = ds.length := by
      have : ([d] : List Dom).length = 1 := rfl
      omega
    subst ei
    rw [List.getElem?_append_right (Nat.le_refl _), Nat.sub_self] at e
    cases e
    exact x
def spGraph (K : PySem.W.Frag) : Sp := fun vs H Q _ => ∃ (d c pk : Addr) (many reach cap bits : Int) (zs : List Str), vs = [.ref d, .int many, .ref pk, .int reach, .int cap, .int bits] ∧ 0 ≤ many ∧ many ≤ 11 ∧ 0 ≤ bits ∧ bits ≤ 190 ∧ DrAt H d c ∧ H pk = some (.lst (zs.map V.str)) ∧ pk ≠ d ∧ zs ≠ [] ∧ zs.length ≤ 30 ∧ (∀ z ∈ zs, z ∈ AllK) ∧ 1 ≤ reach ∧ reach ≤ 1000000000 ∧
  ∀ (H' : Hp) (p pn pd : Addr) (vs us : List V) (nds : List Nd) (ds : List Dom), Kb d H H' → DrAt H' d c → SqT K H' p [.ref pn, .ref pd] → GrAt K H' pn pd vs us nds ds → pn ≠ d → pd ≠ d → CapG cap ds → (ds.length : Int) ≤ many + 1 → (∀ o, H pn = some o → False) → Q (.ref p) H'
abbrev nGr : List Str := ["d", "many", "kinds", "reach", "cap", "bits", "sizes", "nodes", "doms", "k", "node", "dom"]
theorem scGr : FnScope nGr ["d", "many", "kinds", "reach", "cap", "bits"] (defScope s_law_graph) := ⟨rfl, rfl, rfl, by decide +kernel, rfl, by decide +kernel, by decide +kernel⟩
theorem ok_graph {f : Addr} {fd : FuncData} (F : Fun K "_law_graph" "_law_graph" s_law_graph f fd) (T : TxtG mg) (cT : Calls P w K mg base CX0 1 "_law_take" ["d", "many"] spTake) (cGv : Calls P w K mg base CX0 3 "_law_given" ["d", "sizes", "reach", "const"] (spGiven K)) (cNo : Calls P w K mg base CX0 4 "_law_node" ["d", "kind", "doms", "sizes", "reach"] (spNode K)) (cLD : Calls P w K mg base CX0 4 "_law_domain" ["node", "doms"] (spLD K)) (cCt : Calls P w K mg base CX0 1 "_law_count" ["shape"] (spCountT K)) : FnOk P w K mg base CX0 5 f fd ["d", "many", "kinds", "reach", "cap", "bits"] (spGraph K) := by
  obtain ⟨fT, dT, GT, kT, bT, gT⟩ := cT.ex
  obtain ⟨fGv, dGv, GGv, kGv, bGv, gGv⟩ := cGv.ex
  obtain ⟨fNo, dNo, GNo, kNo, bNo, gNo⟩ := cNo.ex
  obtain ⟨fLD, dLD, GLD, kLD, bLD, gLD⟩ := cLD.ex
  obtain ⟨fCt, dCt, GCt, kCt, bCt, gCt⟩ := cCt.ex
  refine F.ok scGr (fun vs H Q E h => ?_) (fun cdv A outer s H vs Q E hr4 h => ?_)
  · obtain ⟨d, c, pk, many, reach, cap, bits, zs, rfl, _⟩ := h
    rfl
  · obtain ⟨d, c, pk, many, reach, cap, bits, zs, rfl, hma1, hma2, hbi1, hbi2, dr, hpk, hpkd, hz0, hzl, hzm, hre1, hre2, q⟩ := h
    have hr1 : Room 1 _ := hr4.mono (by decide)
    have hr3 : Room 3 _ := hr4.mono (by decide)
    have hz1 : 0 < zs.length := List.length_pos_iff.mpr hz0
    refine ⟨_, (pss_cons (ps_set (i := 6) scGr.nd rfl (.inl rfl) (pe_lst (pa_cons (pe_op op_add pe_int (pe_call GT hr1 (by rfl) gT kT bT .nil pass0 (pa_cons (pv 0) (pa_cons pe_int pa_nil)))) (pa_cons (pe_op op_add pe_int (pe_call GT hr1 (by rfl) gT kT bT .nil pass0 (pa_cons (pv 0) (pa_cons pe_int pa_nil)))) (pa_cons (pe_op op_add pe_int (pe_call GT hr1 (by rfl) gT kT bT .nil pass0 (pa_cons (pv 0) (pa_cons pe_int pa_nil)))) (pa_cons (pe_op op_add pe_int (pe_call GT hr1 (by rfl) gT kT bT .nil pass0 (pa_cons (pv 0) (pa_cons pe_int pa_nil)))) pa_nil))))))
      (pss_cons (ps_set (i := 7) scGr.nd rfl (.inl rfl) (pe_lst (pa_cons (pe_call GGv hr3 (by rfl) gGv kGv bGv .nil pass0 (pa_cons (pv 0) (pa_cons (pv 6) (pa_cons (pv 3) (pa_cons pe_bl pa_nil))))) pa_nil)))
      (pss_cons (ps_set (i := 8) scGr.nd rfl (.inl rfl) (pe_lst (pa_cons (pe_call GLD hr4 (by rfl) gLD kLD bLD .nil pass0 (pa_cons (pe_ix ix_list (pv 7) pe_int (fun _ _ => rfl)) (pa_cons (pe_lst pa_nil) pa_nil))) pa_nil)))
      (pss_cons (ps_for PassesOwn.never rfl (pi_range1 rfl T.range (pa_cons (pv 1) pa_nil)) (pg_name (i := 9) scGr.nd rfl (.inl rfl)) (pss_cons (ps_set (i := 10) scGr.nd rfl (.inl rfl) (pe_call GNo hr4 (by rfl) gNo kNo bNo .nil pass0 (pa_cons (pv 0) (pa_cons (pe_ix ix_list (pv 2) (pe_call GT hr1 (by rfl) gT kT bT .nil pass0 (pa_cons (pv 0) (pa_cons (pe_callB call_len_seq (by rfl) T.len PySem.boot_len (pa_cons (pv 2) pa_nil)) pa_nil))) (fun _ _ => rfl)) (pa_cons (pv 8) (pa_cons (pv 6) (pa_cons (pv 3) pa_nil)))))))
      (pss_cons (ps_set (i := 11) scGr.nd rfl (.inl rfl) (pe_call GLD hr4 (by rfl) gLD kLD bLD .nil pass0 (pa_cons (pv 10) (pa_cons (pv 8) pa_nil))))
      (pss_one (ps_if (PW.pt (pw_and (pt_cmpR op_notN (pv 11) pe_non (nomark _)) (pw_and (pt_cmpR op_le (pe_call GCt hr1 (by rfl) gCt kCt bCt .nil pass0 (pa_cons (pe_ix ix_tup (pv 11) pe_int (fun _ _ => rfl)) pa_nil)) (pv 4) (nomark _)) (pw_and1 (pt_cmpR op_lt (pe_callB (call_max2 rfl) (by rfl) T.max (by decide +kernel) (pa_cons (pe_callB call_abs (by rfl) T.abs (by decide +kernel) (pa_cons (pe_ix ix_tup (pv 11) pe_int (fun _ _ => rfl)) pa_nil)) (pa_cons (pe_callB call_abs (by rfl) T.abs (by decide +kernel) (pa_cons (pe_ix ix_tup (pv 11) pe_int (fun _ _ => rfl)) pa_nil)) pa_nil))) (pe_op op_shl pe_int (pv 5)) (nomark _)))))) (pss_cons (ps_expr (pe_bm PySem.F.plainAttrs_list PySem.F.slot_list_append PySem.F.type_list_append mt_append (pv 7) (pa_cons (pv 10) pa_nil)))
      (pss_one (ps_expr (pe_bm PySem.F.plainAttrs_list PySem.F.slot_list_append PySem.F.type_list_append mt_append (pv 8) (pa_cons (pv 11) pa_nil))))) pss_nil)))))
      (pss_one (ps_ret (pe_tup (pa_cons (pv 7) (pa_cons (pv 8) pa_nil))))))))), ?_⟩
    refine ⟨_, rfl, d, c, 3, rfl, dr, by decide, bnd_le (by decide), fun H1 z1 k1 dr1 a1 b1 => ⟨_, _, rfl, rfl, _, rfl, d, c, 3, rfl, dr1, by decide, bnd_le (by decide), fun H2 z2 k2 dr2 a2 b2 => ⟨_, _, rfl, rfl, _, rfl, d, c, 3, rfl, dr2, by decide, bnd_le (by decide), fun H3 z3 k3 dr3 a3 b3 => ⟨_, _, rfl, rfl, _, rfl, d, c, 3, rfl, dr3, by decide, bnd_le (by decide), fun H4 z4 k4 dr4 a4 b4 => ⟨_, _, rfl, rfl, by show 4 ≤ sizeLine; decide, fun ps nps => ?_⟩⟩⟩⟩⟩
    have kb4 := ((k1.kb.trans k2.kb).trans k3.kb).trans k4.kb
    have s5 := same_upd (o := .lst [.int (1 + z1), .int (1 + z2), .int (1 + z3), .int (1 + z4)]) nps
    have kb5 := kb4.trans (Same.kb s5)
    have dr5 := dr4.same s5
    have hs5 : SzsAt (upd H4 ps (.lst [.int (1 + z1), .int (1 + z2), .int (1 + z3), .int (1 + z4)])) ps d := ⟨[1 + z1, 1 + z2, 1 + z3, 1 + z4], upd_same, rfl, fun x hx => by
      simp only [List.mem_cons, List.not_mem_nil, or_false] at hx
      rcases hx with rfl | rfl | rfl | rfl <;> omega, (new_ne dr4 nps).1⟩
    clear k1 k2 k3 k4 dr1 dr2 dr3 dr4 s5 kb4 nps
    generalize (upd H4 ps (.lst [.int (1 + z1), .int (1 + z2), .int (1 + z3), .int (1 + z4)])) = H5 at *
    refine ⟨_, rfl, _, rfl, _, rfl, d, c, ps, reach, false, rfl, dr5, hs5, hre1, hre2, fun H6 v0 nd0 k6 dr6 hn6 hg0 _ _ => ⟨by show 1 ≤ sizeLine; decide, fun pn npn => ?_⟩⟩
    have kb6 := kb5.trans k6
    have hs6 := hs5.kb k6
    have s7 := same_upd (o := .lst [v0]) npn
    obtain ⟨hpnd, hpnc⟩ := new_ne dr6 npn
    have hpnps : pn ≠ ps := fun e => by
      obtain ⟨_, h, _⟩ := hs6
      rw [← e, npn] at h
      cases h
    have hpnpk : pn ≠ pk := fun e => by
      have := kb6 _ _ hpkd hpk
      rw [← e, npn] at this
      cases this
    have kb7 := kb6.trans (Same.kb s7)
    have dr7 := dr6.same s7
    have hs7 := hs6.kb (Same.kb s7)
    have hn7 := hn6.same s7
    have hpn7 : (upd H6 pn (.lst [v0])) pn = some (.lst [v0]) := upd_same
    have npn0 : ∀ o, H pn = some o → False := fun o h => by
      have := kb6 _ _ hpnd h
      rw [npn] at this
      cases this
    clear k6 s7 dr6 hn6 npn kb6 hs6 hs5 dr5 kb5
    generalize (upd H6 pn (.lst [v0])) = H7 at *
    obtain ⟨d0, hd0, gd0⟩ := hg0.lawD []
    obtain ⟨ga1, ga2, ga3⟩ := hg0.args
    refine ⟨_, rfl, pn, _, (0 : Int), _, rfl, rfl, SqL.of hpn7, atI_zero, Nat.zero_le _, fun pe npe => ?_⟩
    have s8 := same_upd (o := .lst []) npe
    refine ⟨v0, pe, nd0, [], [], [], rfl, hn7.same s8, SqL.of upd_same, ⟨rfl, fun i v d h => by simp at h⟩, ⟨by rw [ga1]; rfl, fun i k h => by rw [ga1] at h; simp at h⟩, by rw [ga1, ga2]; rfl, ga3, fun _ h => (by cases h), fun H9 s9 => ⟨fun e => (by rw [hd0] at e; cases e), fun d0' e0 v1 hv1 => ⟨by show 1 ≤ sizeLine; decide, fun pd npd => ?_⟩⟩⟩
    rw [hd0] at e0
    cases e0
    have s79 := s8.trans s9
    have s10 := same_upd (o := .lst [v1]) npd
    have dr9 := dr7.same s79
    obtain ⟨hpdd, hpdc⟩ := new_ne dr9 npd
    have hpdpn : pd ≠ pn := fun e => by
      have := s79 _ _ hpn7
      rw [← e, npd] at this
      cases this
    have hpdpk : pd ≠ pk := fun e => by
      have := (kb7.trans (Same.kb s79)) _ _ hpkd hpk
      rw [← e, npd] at this
      cases this
    have hpdps : pd ≠ ps := fun e => by
      obtain ⟨_, h, _⟩ := hs7.kb (Same.kb s79)
      rw [← e, npd] at h
      cases h
    have s710 := s79.trans s10
    have gr0 : GrAt K (upd H9 pd (.lst [v1])) pn pd [v0] [v1] [nd0] [d0] := by
      refine ⟨s710 _ _ hpn7, ⟨rfl, fun i v nd h1 h2 => ?_⟩, ⟨upd_same, ⟨rfl, fun i v dd h1 h2 => ?_⟩, fun g hg => ?_, by show 1 ≤ 12; decide, by show 0 < 1; decide⟩, ⟨rfl, fun i nd dd h1 h2 => ?_⟩⟩
      · cases i with
        | zero =>
          cases h1
          cases h2
          exact hn7.same s710
        | succ i => simp at h1
      · cases i with
        | zero =>
          cases h1
          cases h2
          exact hv1.same s10
        | succ i => simp at h1
      · rw [List.mem_singleton] at hg
        rw [hg]
        exact gd0
      · cases i with
        | zero =>
          cases h1
          cases h2
          exact ⟨.inl hg0, gd0, [], ⟨by rw [ga1]; rfl, fun i k h => by rw [ga1] at h; simp at h⟩, fun _ h => (by cases h), hd0⟩
        | succ i => simp at h1
    have kb10 := kb7.trans (Same.kb s710)
    have dr10 := dr7.same s710
    have hs10 := hs7.kb (Same.kb s710)
    have npd0 : ∀ o, H pd = some o → False := fun o h => by
      have := (kb7.trans (Same.kb s79)) _ _ hpdd h
      rw [npd] at this
      cases this
    refine ⟨_, rfl, _, rfl, by omega, by omega, for_range (lo := 0) (n := many.toNat) (fun i σ H' => ∃ (v9 v10 v11 : Option V) (vs us : List V) (nds : List Nd) (ds : List Dom), σ = [some (.ref d), some (.int many), some (.ref pk), some (.int reach), some (.int cap), some (.int bits), some (.ref ps), some (.ref pn), some (.ref pd), v9, v10, v11] ∧
        Kb d H H' ∧ DrAt H' d c ∧ SzsAt H' ps d ∧ GrAt K H' pn pd vs us nds ds ∧ ds.length ≤ i + 1 ∧ CapG cap ds)
      ⟨_, _, _, _, _, _, _, rfl, kb10, dr10, hs10, gr0, Nat.le_refl _, fun i d h e => (by cases i with | zero => exact absurd h (Nat.lt_irrefl _) | succ i => simp at e)⟩ ?_ ?_⟩
    · rintro i σ H1 hi ⟨v9, v10, v11, vs, us, nds, ds, rfl, kb1, dr1, hs1, gr1, hdl, hkk⟩
      have hi10 : i < 11 := by omega
      have hpk1 := kb1 _ _ hpkd hpk
      refine ⟨_, rfl, _, rfl, _, rfl, _, rfl, pk, _, rfl, .inl (SqL.of hpk1), d, c, _, rfl, dr1, by rw [List.length_map]; omega, bnd_le (by rw [List.length_map]; omega), fun H2 v k2 dr2 a0 a1 => ?_⟩
      rw [List.length_map] at a1
      obtain ⟨vn, rfl⟩ : ∃ vn : Nat, v = (vn : Int) := ⟨v.toNat, by omega⟩
      have hr : zs[vn]? = some (zs[vn]'(by omega)) := List.getElem?_eq_getElem _
      have hkind := hzm _ (List.mem_of_getElem? hr)
      generalize (zs[vn]'(by omega)) = kind at hr hkind
      have kb2 := kb1.trans k2.kb
      have hpk2 := kb2 _ _ hpkd hpk
      have hs2 := hs1.kb k2.kb
      have hD2 := gr1.d.kb k2.kb hpdd dr1
      have hn2 := gr1.m.keep (k2.kb.nl dr1)
      have hpn2 := k2.kb _ _ hpnd gr1.n
      have hw := gr1.w
      clear gr1 hs1 kb1 k2 dr1 hpk1
      refine ⟨pk, _, (vn : Int), _, rfl, rfl, SqL.of hpk2, atI_nat (by rw [List.getElem?_map, hr]; rfl), _, rfl, _, rfl, _, rfl, d, c, pd, ps, reach, kind, us, ds, rfl, dr2, hkind, hD2, hpdd, hs2, hre1, hre2, fun H3 vN nd k3 dr3 hn3 hgn => ?_⟩
      have kb3 := kb2.trans k3
      have hs3 := hs2.kb k3
      have hD3 := hD2.kb k3 hpdd dr2
      have hm3 := hn2.keep (k3.nl dr2)
      have hpn3 := k3 _ _ hpnd hpn2
      clear hD2 hn2 hpn2 hs2 kb2 k3 dr2 hpk2
      have hgs : ∃ gs, GivenN nd.args ds gs ∧ (∀ g ∈ gs, GD g) ∧ nd.args.length = arN nd ∧ NdOk nd ∧ ∀ dm, lawD nd gs = some dm → chk dm.sh = 0 ∧ Low dm.sh ∧ dm.lo ≤ dm.hi := by
        rcases hgn with hg | ⟨g1, g2, g3, g4⟩
        · obtain ⟨x1, x2, x3⟩ := hg.args
          refine ⟨[], ⟨by rw [x1]; rfl, fun i k h => by rw [x1] at h; simp at h⟩, fun _ h => (by cases h), by rw [x1, x2]; rfl, x3, fun dm hdm => ?_⟩
          obtain ⟨d', e1, e2⟩ := hg.lawD []
          rw [hdm] at e1
          cases e1
          exact ⟨e2.ck, e2.lw, e2.ord⟩
        · obtain ⟨gs, h1, h2⟩ := given_ex g4
          have h3 : ∀ g ∈ gs, GD g := fun g hg => hD3.g g (h2 g hg)
          refine ⟨gs, h1, h3, g3, g2.nd g1, fun dm hdm => ?_⟩
          have := lawD_link g1 g2 (by rw [h1.1]; exact g3) h3 hdm
          exact ⟨this.2.1, this.2.2.1, this.2.2.2.2.2.2.2⟩
      obtain ⟨gs, hG, hgm, har, hok, hck⟩ := hgs
      refine ⟨_, rfl, _, rfl, vN, pd, nd, us, ds, gs, rfl, hn3, SqL.of hD3.h, hD3.d, hG, har, hok, hgm, fun H4 s4 => ⟨fun hnone => ?_, fun dm hdm v hv => ?_⟩⟩
      · refine ⟨_, rfl, rfl, _, rfl, iteF ⟨_, _, _, vs, us, nds, ds, rfl, kb3.trans (Same.kb s4), dr3.same s4, hs3.kb (Same.kb s4), ⟨s4 _ _ hpn3, hm3.keep (Same.nl s4), hD3.kb (Same.kb s4) hpdd dr3, hw⟩, Nat.le_succ_of_le hdl, hkk⟩⟩
      obtain ⟨pv, av, rfl, h1, h2, h3⟩ := hv
      obtain ⟨c1, c2, c3⟩ := hck dm hdm
      have kb4 := kb3.trans (Same.kb s4)
      have dr4 := dr3.same s4
      have hs4 := hs3.kb (Same.kb s4)
      have hD4 := hD3.kb (Same.kb s4) hpdd dr3
      have hm4 := hm3.keep (Same.nl s4)
      have hpn4 := s4 _ _ hpn3
      have hn4 := hn3.same s4
      have skip : ∃ (v9 v10 v11 : Option V) (vs us : List V) (nds : List Nd) (ds : List Dom), ([some (.ref d), some (.int many), some (.ref pk), some (.int reach), some (.int cap), some (.int bits), some (.ref ps), some (.ref pn), some (.ref pd), some (.int ((0 : Int) + i)), some vN, some (.ref pv)] : St) = [some (.ref d), some (.int many), some (.ref pk), some (.int reach), some (.int cap), some (.int bits), some (.ref ps), some (.ref pn), some (.ref pd), v9, v10, v11] ∧
        Kb d H H4 ∧ DrAt H4 d c ∧ SzsAt H4 ps d ∧ GrAt K H4 pn pd vs us nds ds ∧ ds.length ≤ i + 1 + 1 ∧ CapG cap ds := ⟨_, _, _, vs, us, nds, ds, rfl, kb4, dr4, hs4, ⟨hpn4, hm4, hD4, hw⟩, Nat.le_succ_of_le hdl, hkk⟩
      refine ⟨_, rfl, rfl, _, rfl, iteT ⟨_, rfl, pv, _, (0 : Nat), _, rfl, rfl, h1, i0, av, dm.sh, rfl, h2, (chk_zero.mp c1).2.2.1.mod, _, rfl, _, _, rfl, rfl, _, rfl, ite2 (fun hcap => ?_) (fun _ => skip)⟩⟩
      refine ⟨_, rfl, pv, _, (1 : Nat), _, rfl, rfl, h1, i1, _, rfl, _, rfl, pv, _, (2 : Nat), _, rfl, rfl, h1, i2, _, rfl, _, _, rfl, _, rfl, _, _, rfl, rfl, ⟨hbi1, by omega, by decide⟩, _, _, rfl, rfl, _, rfl, ite2 (fun hb => ?_) (fun _ => skip)⟩
      have hb := of_decide_eq_true hb
      have hgd : GD dm := by
        have e : (1 : Int) * 2 ^ bits.toNat = ((2 ^ bits.toNat : Nat) : Int) := by rw [Int.one_mul]; push_cast; rfl
        rw [e] at hb
        have e2 : (2 : Nat) ^ bits.toNat ≤ 2 ^ 300 := Nat.pow_le_pow_right (by decide) (by omega)
        have hb2 : dm.lo.natAbs < 2 ^ bits.toNat ∧ dm.hi.natAbs < 2 ^ bits.toNat := by
          generalize (2 : Nat) ^ bits.toNat = N at *
          generalize dm.lo = x at *
          generalize dm.hi = y at *
          split at hb <;> split at hb <;> split at hb <;> omega
        exact ⟨Nat.lt_of_lt_of_le hb2.1 e2, Nat.lt_of_lt_of_le hb2.2 e2, c1, c2, c3⟩
      have hvl : vs.length = ds.length := by rw [hm4.1, hw.l]
      have hul : us.length = ds.length := hD4.d.1
      refine ⟨_, rfl, .inl ⟨rfl, _, SqL.of hpn4⟩, _, rfl, pn, _, _, rfl, rfl, hpn4, small1000 (by omega), ?_⟩
      have nl5 : NL H4 (upd H4 pn (.lst (vs ++ [vN]))) := nl_upd hpn4
      have hpd5 : (upd H4 pn (.lst (vs ++ [vN]))) pd = some (.lst us) := by rw [upd_ne hpdpn]; exact hD4.h
      refine ⟨_, rfl, .inl ⟨rfl, _, SqL.of hpd5⟩, _, rfl, pd, _, _, rfl, rfl, hpd5, small1000 (by omega), ?_⟩
      have nl6 : NL (upd H4 pn (.lst (vs ++ [vN]))) (upd (upd H4 pn (.lst (vs ++ [vN]))) pd (.lst (us ++ [.ref pv]))) := nl_upd hpd5
      have dr6 : DrAt (upd (upd H4 pn (.lst (vs ++ [vN]))) pd (.lst (us ++ [.ref pv]))) d c := (dr4.upd _ hpnd hpnc).upd _ hpdd hpdc
      have k46 : ∀ b o, b ≠ pn → b ≠ pd → H4 b = some o → (upd (upd H4 pn (.lst (vs ++ [vN]))) pd (.lst (us ++ [.ref pv]))) b = some o := fun b o n1 n2 h => by rw [upd_ne n2, upd_ne n1]; exact h
      refine ⟨_, _, _, vs ++ [vN], us ++ [.ref pv], nds ++ [nd], ds ++ [dm], rfl, fun b o nb hbo => ?_, dr6, ?_, ⟨?_, ?_, ⟨upd_same, ?_, ?_, ?_, ?_⟩, hw.snoc hgn hgd hG hgm hdm⟩, ?_, hkk.snoc (of_decide_eq_true hcap)⟩
      · exact k46 b o (fun e => npn0 o (by rw [← e]; exact hbo)) (fun e => npd0 o (by rw [← e]; exact hbo)) (kb4 b o nb hbo)
      · obtain ⟨ns, x1, x2, x3, x4⟩ := hs4
        exact ⟨ns, k46 _ _ (fun e => hpnps e.symm) (fun e => hpdps e.symm) x1, x2, x3, x4⟩
      · rw [upd_ne (fun e => hpdpn e.symm), upd_same]
      · exact ((hm4.keep nl5).keep nl6).snoc ((hn4.keep nl5).keep nl6)
      · exact ((hD4.d.keep nl5).keep nl6).snoc (DmAt.keep (DmAt.keep ⟨pv, av, rfl, h1, h2, h3⟩ nl5) nl6)
      · intro g hg
        rcases List.mem_append.mp hg with hg | hg
        · exact hD4.g g hg
        · rw [List.mem_singleton] at hg
          rw [hg]
          exact hgd
      · rw [List.length_append]
        show ds.length + 1 ≤ 12
        omega
      · rw [List.length_append]
        show 0 < ds.length + 1
        omega
      · rw [List.length_append]
        show ds.length + 1 ≤ i + 1 + 1
        omega
    · rintro σ H1 ⟨v9, v10, v11, vs, us, nds, ds, rfl, kb1, dr1, hs1, gr1, hdl, hkk⟩
      refine ⟨_, rfl, _, rfl, two_line, fun p np => ?_⟩
      have s := same_upd (o := .tup [.ref pn, .ref pd]) np
      exact q _ p pn pd vs us nds ds (kb1.trans (Same.kb s)) (dr1.same s) (SqT.of upd_same) ⟨s _ _ gr1.n, gr1.m.keep (Same.nl s), gr1.d.kb (Same.kb s) hpdd dr1, gr1.w⟩ hpnd hpdd hkk (by omega) npn0
end

/-! ### comparing domains -/
def domD (d : Dom) : PyData := .tuple [datSh d.sh, .int d.lo, .int d.hi]
theorem datSh_lay (sh : Sh) (h : Low sh) : (datSh sh).canLay0 = true := by simp only [datSh, PyData.canLay0]; exact axDs_lay sh h
theorem datSh_depth (sh : Sh) : (datSh sh).depth ≤ 3 := by
  have := axDs_depth sh
  simp only [datSh, PyData.depth]
  omega
theorem domD_lay (d : Dom) (h : Low d.sh) : (domD d).canLay0 = true := by simp [domD, PyData.canLay0, PyData.canLayAll0, datSh_lay d.sh h]
theorem domD_depth (d : Dom) : (domD d).depth ≤ 4 := by
  have := datSh_depth d.sh
  simp only [domD, PyData.depth, PyData.depthAll]
  omega
theorem domD_shaped (d : Dom) (h : Low d.sh) : SeqAt.shaped (domD d) = true := by
  have h1 := domD_depth d
  show (PyData.canLay0 (domD d) && decide (PyData.depth (domD d) ≤ 64)) = true
  rw [Bool.and_eq_true]
  exact ⟨domD_lay d h, decide_eq_true (by omega)⟩
theorem domDs_lay : ∀ ds : List Dom, (∀ d ∈ ds, Low d.sh) → PyData.canLayAll0 (ds.map domD) = true
  | [], _ => by simp [PyData.canLayAll0]
  | d :: ds, h => by simp [PyData.canLayAll0, domD_lay d (h d List.mem_cons_self), domDs_lay ds fun p hp => h p (List.mem_cons_of_mem _ hp)]
theorem domDs_depth : ∀ ds : List Dom, PyData.depthAll (ds.map domD) ≤ 5
  | [] => by simp [PyData.depthAll]
  | d :: ds => by
    have h1 := domDs_depth ds
    have h2 := domD_depth d
    simp only [List.map_cons, PyData.depthAll]
    omega
theorem domDs_shaped (ds : List Dom) (h : ∀ d ∈ ds, Low d.sh) : SeqAt.shaped (.tuple (ds.map domD)) = true := by
  have h1 := domDs_depth ds
  have h2 : PyData.depth (.tuple (ds.map domD)) ≤ 64 := by
    simp only [PyData.depth]
    omega
  show (PyData.canLay0 (.tuple (ds.map domD)) && decide (PyData.depth (.tuple (ds.map domD)) ≤ 64)) = true
  rw [Bool.and_eq_true]
  exact ⟨by simp only [PyData.canLay0]; exact domDs_lay ds h, decide_eq_true h2⟩
theorem dp_dom {K : PySem.W.Frag} {H : Hp} {v : V} {d : Dom} (h : DmAt K H v d) : Dp K H v (domD d) := by
  obtain ⟨p, a, rfl, h1, h2, _⟩ := h
  exact .tup h1 (.cons (dp_sh h2) (.cons (.int _) (.cons (.int _) .nil)))
theorem dp_doms {K : PySem.W.Frag} {H : Hp} : ∀ {us : List V} {ds : List Dom}, Dms K H us ds → DpAll K H us (ds.map domD)
  | [], [], _ => .nil
  | [], p :: sh, h => nomatch h.1
  | t :: ts, [], h => nomatch h.1
  | t :: ts, p :: sh, h => .cons (dp_dom (h.2 0 t p rfl rfl)) (dp_doms ⟨Nat.succ.inj h.1, fun i t' p' a b => h.2 (i + 1) t' p' (by simpa using a) (by simpa using b)⟩)
theorem ty_tup {K : PySem.W.Frag} {H : Hp} {a : Addr} {xs : List V} (h : SqT K H a xs) : TyX K H (.ref a) (.type "tuple") := by
  rcases h with (h | ⟨o, h⟩) | ⟨o, its, n, e, c, _⟩
  · exact .base (.tup h)
  · exact .fTuple h
  · exact .kTuple e c
theorem cut_take {xs : List V} {i : Nat} (h : i ≤ xs.length) : cutV xs none (some (i : Int)) = xs.take i := by
  unfold cutV HT.sIx
  simp
  rw [if_neg (by omega)]
  omega
theorem passN {P : Program} {w : World} {X : Cx} : Passes (L2.CX P w) X E0 := fun _ _ _ _ _ _ _ h => by
  obtain ⟨_, _, _, _, _, _, _, _, _, _, _, _, z⟩ := h
  exact z.elim
theorem Dms.take {K : PySem.W.Frag} {H : Hp} {us : List V} {ds : List Dom} (h : Dms K H us ds) (n : Nat) : Dms K H (us.take n) (ds.take n) := by
  refine ⟨by rw [List.length_take, List.length_take, h.1], fun i v d a b => ?_⟩
  rw [List.getElem?_take] at a b
  split at a
  · rename_i hi
    rw [if_pos hi] at b
    exact h.2 i v d a b
  · cases a
section
variable {P : Program} {w : World} {K : PySem.W.Frag} {mg : Str → Option Value} {base : Heap}
/-- what the law asks of domain_of -/
def spDomL (K : PySem.W.Frag) : Sp := fun vs H Q _ => ∃ (v : V) (pt : Addr) (nd : Nd) (us : List V) (ds gs : List Dom) (d : Dom), vs = [v, .ref pt] ∧ NdAt K H v nd ∧ SqT K H pt us ∧ Dms K H us ds ∧ ds.length ≤ 1000 ∧ GoodN nd ds.length ∧ GivenN nd.args ds gs ∧ (∀ g ∈ gs, GD g) ∧ lawD nd gs = some d ∧ GD d ∧
  ∀ H' u, Same H H' → DmAt K H' u d → Q u H'
end

/-! ### the program's tables, and what domain_of promises for the law's nodes -/
abbrev Row := Str × Option (Int × Int)
def ax_ : Row := ("axis", none)
def rowOf : Nd → Nat × List Row
  | .input _ _ _ => (0, [("shape", none), ("low", none), ("high", none)])
  | .const _ _ => (0, [("shape", none), ("data", none)])
  | .bc .neg _ => (1, [])
  | .bc (.clamp _ _) _ => (1, [("low", none), ("high", none)])
  | .bc (.shift _) _ => (1, [("n", some (1, 30))])
  | .bc .wher _ => (3, [])
  | .bc _ _ => (2, [])
  | .dot _ _ => (2, [ax_])
  | .mv (.sum _) _ => (1, [ax_])
  | .mv (.peak _) _ => (1, [ax_])
  | .mv (.order _) _ => (1, [("letters", none)])
  | .mv (.rename _ _) _ => (1, [ax_, ("new", none)])
  | .mv (.spread _ _) _ => (1, [ax_, ("size", some (1, 16))])
  | .mv (.cut _ _ _) _ => (1, [ax_, ("start", some (0, 16)), ("count", some (1, 16))])
  | .mv (.pad _ _ _) _ => (1, [ax_, ("before", some (0, 16)), ("after", some (0, 16))])
  | .mv (.join _) _ => (2, [ax_])
  | .mv (.window _ _ _ _) _ => (1, [ax_, ("new", none), ("width", some (1, 16)), ("stride", some (1, 16))])
  | .mv (.fold _ _ _ _) _ => (1, [ax_, ("second", none), ("stride", some (1, 16)), ("size", some (1, 16))])
  | .mv (.gather _) _ => (2, [ax_])
def KT : List (Str × Nat × List Row) := [("input", 0, [("shape", none), ("low", none), ("high", none)]), ("const", 0, [("shape", none), ("data", none)]),
  ("add", 2, []), ("sub", 2, []), ("mul", 2, []), ("max", 2, []), ("min", 2, []), ("less", 2, []), ("equal", 2, []), ("neg", 1, []), ("clamp", 1, [("low", none), ("high", none)]), ("shift", 1, [("n", some (1, 30))]), ("where", 3, []),
  ("sum", 1, [ax_]), ("peak", 1, [ax_]), ("dot", 2, [ax_]), ("order", 1, [("letters", none)]), ("rename", 1, [ax_, ("new", none)]), ("spread", 1, [ax_, ("size", some (1, 16))]), ("cut", 1, [ax_, ("start", some (0, 16)), ("count", some (1, 16))]), ("pad", 1, [ax_, ("before", some (0, 16)), ("after", some (0, 16))]),
  ("join", 2, [ax_]), ("window", 1, [ax_, ("new", none), ("width", some (1, 16)), ("stride", some (1, 16))]), ("fold", 1, [ax_, ("second", none), ("stride", some (1, 16)), ("size", some (1, 16))]), ("gather", 2, [ax_])]
theorem row_in (nd : Nd) : (nd.nm, (rowOf nd).1, (rowOf nd).2) ∈ KT := by
  have f : ∀ (n : Nat) (x : Str × Nat × List Row), KT[n]? = some x → x ∈ KT := fun n x h => List.mem_of_getElem? h
  cases nd with
  | input _ _ _ => exact f 0 _ rfl
  | const _ _ => exact f 1 _ rfl
  | dot _ _ => exact f 15 _ rfl
  | bc k _ => cases k with
    | add => exact f 2 _ rfl
    | sub => exact f 3 _ rfl
    | mul => exact f 4 _ rfl
    | max => exact f 5 _ rfl
    | min => exact f 6 _ rfl
    | less => exact f 7 _ rfl
    | equal => exact f 8 _ rfl
    | neg => exact f 9 _ rfl
    | clamp _ _ => exact f 10 _ rfl
    | shift _ => exact f 11 _ rfl
    | wher => exact f 12 _ rfl
  | mv k _ => cases k with
    | sum _ => exact f 13 _ rfl
    | peak _ => exact f 14 _ rfl
    | order _ => exact f 16 _ rfl
    | rename _ _ => exact f 17 _ rfl
    | spread _ _ => exact f 18 _ rfl
    | cut _ _ _ => exact f 19 _ rfl
    | pad _ _ _ => exact f 20 _ rfl
    | join _ => exact f 21 _ rfl
    | window _ _ _ _ => exact f 22 _ rfl
    | fold _ _ _ _ => exact f 23 _ rfl
    | gather _ => exact f 24 _ rfl
theorem row_len (nd : Nd) : (rowOf nd).1 = arN nd := by
  cases nd with
  | input _ _ _ => rfl
  | const _ _ => rfl
  | dot _ _ => rfl
  | bc k _ => cases k <;> rfl
  | mv k _ => cases k <;> rfl
section
variable (P : Program) (w : World) (K : PySem.W.Frag) (mg : Str → Option Value) (base : Heap) (C : Nat → Addr) (aA aF aR aS aI aM : Addr)
structure FormT : Prop where
  kn : ∀ r ∈ KT, Kn K w aA aF r.1 r.2.1 (r.2.2.map (·.1))
  rg : ∀ r ∈ KT, ∀ p ∈ r.2.2, p.1.length ≤ 100 ∧ RgAt K w aR p.1 p.2
structure ShapeT : Prop where
  own : ∀ z ∈ (["input", "const"] : List Str), MakE P w K mg base (L2.CX P w) VS 4 aS z (spOwn K)
  bc : ∀ z ∈ BN, MakE P w K mg base (L2.CX P w) VS 4 aS z (spBc K C)
  red : ∀ z ∈ (["sum", "peak"] : List Str), MakE P w K mg base (L2.CX P w) VS 4 aS z (spRed K C)
  dot : MakE P w K mg base (L2.CX P w) VS 4 aS "dot" (spDot K C)
  order : MakE P w K mg base (L2.CX P w) VS 4 aS "order" (spOrder K C)
  rename : MakE P w K mg base (L2.CX P w) VS 4 aS "rename" (spRen K C)
  spread : MakE P w K mg base (L2.CX P w) VS 4 aS "spread" (spSpread K C)
  cut : MakE P w K mg base (L2.CX P w) VS 4 aS "cut" (spCut K C)
  pad : MakE P w K mg base (L2.CX P w) VS 4 aS "pad" (spPad K C)
  join : MakE P w K mg base (L2.CX P w) VS 4 aS "join" (spJoin K C)
  window : MakE P w K mg base (L2.CX P w) VS 4 aS "window" (spWin K C)
  fold : MakE P w K mg base (L2.CX P w) VS 4 aS "fold" (spFold K C)
  gather : MakE P w K mg base (L2.CX P w) VS 4 aS "gather" (spGath K C)
abbrev IV : List Str := ["kind", "info", "given"]
structure IvT : Prop where
  input : MakE P w K mg base CX0 IV 4 aI "input" (spInputI K)
  const : MakE P w K mg base CX0 IV 4 aI "const" (spConstI K)
  ris : ∀ z ∈ (["add", "max", "min", "clamp", "shift"] : List Str), MakE P w K mg base CX0 IV 4 aI z (spRising P w K mg base aM)
  sub : MakE P w K mg base CX0 IV 4 aI "sub" (spIv2 K fun l h p q => (l - q, h - p))
  mul : MakE P w K mg base CX0 IV 4 aI "mul" (spIv2 K fun l h p q => (lst (corn l h p q), grt (corn l h p q)))
  tru : ∀ z ∈ (["less", "equal"] : List Str), MakE P w K mg base CX0 IV 4 aI z (spTruth K)
  neg : MakE P w K mg base CX0 IV 4 aI "neg" (spIv1 K fun l h => (-h, -l))
  whr : MakE P w K mg base CX0 IV 4 aI "where" (spWhereI K)
  sum : MakE P w K mg base CX0 IV 4 aI "sum" (spSumI K)
  same : ∀ z ∈ (["peak", "order", "rename", "spread", "cut", "window", "gather"] : List Str), MakE P w K mg base CX0 IV 4 aI z (spSame K)
  dot : MakE P w K mg base CX0 IV 4 aI "dot" (spDotI K)
  pad : MakE P w K mg base CX0 IV 4 aI "pad" (spIv1 K fun l h => (mn l 0, mx h 0))
  join : MakE P w K mg base CX0 IV 4 aI "join" (spIv2 K fun l h p q => (mn l p, mx h q))
  fold : MakE P w K mg base CX0 IV 4 aI "fold" (spFoldI K)
  mAdd : Mak P w K mg base aM "add" (sp2 K (fun _ _ => True) fun a b => a + b)
  mMax : Mak P w K mg base aM "max" (sp2 K (fun _ _ => True) mx)
  mMin : Mak P w K mg base aM "min" (sp2 K (fun _ _ => True) mn)
  mClamp : Mak P w K mg base aM "clamp" (spClamp K)
  mShift : Mak P w K mg base aM "shift" (spShift K)
end
section
variable {P : Program} {w : World} {K : PySem.W.Frag} {mg : Str → Option Value} {base : Heap} {C : Nat → Addr} {aA aF aR aS aI aM : Addr}
theorem ShsAt.one {H : Hp} {as : List Addr} {g : Dom} (h : ShsAt K H as [g]) : ∃ a, as = [a] ∧ ShT K H a g.sh ∧ NoD K H a := by
  match as, h with
  | [a], h =>
    obtain ⟨h1, h2⟩ := h.2 0 a g rfl rfl
    exact ⟨a, rfl, h1, h2⟩
  | [], h => nomatch h.1
  | _ :: _ :: _, h => nomatch h.1
theorem ShsAt.two {H : Hp} {as : List Addr} {g k : Dom} (h : ShsAt K H as [g, k]) : ∃ a b, as = [a, b] ∧ ShT K H a g.sh ∧ NoD K H a ∧ ShT K H b k.sh ∧ NoD K H b := by
  match as, h with
  | [a, b], h =>
    obtain ⟨h1, h2⟩ := h.2 0 a g rfl rfl
    obtain ⟨h3, h4⟩ := h.2 1 b k rfl rfl
    exact ⟨a, b, rfl, h1, h2, h3, h4⟩
  | [], h => nomatch h.1
  | [_], h => nomatch h.1
  | _ :: _ :: _ :: _, h => nomatch h.1
theorem sh1 {z : Str} {sp : Sp} {H : Hp} {pi : Addr} {g : Dom} {r : Nat × Sh} (m : MakE P w K mg base (L2.CX P w) VS 4 aS z sp) (hg : GD g) (f : ∀ (H1 : Hp) (pl a : Addr) (Q : VK) (E : XK), Same H H1 → One K H1 pl a g.sh → (∀ H2, Same H1 H2 → ShEnd K C r Q E H2) → sp [.ref pi, .ref pl] H1 Q E) : ShMk P w K mg base C aS z H pi [g] r :=
  ⟨sp, m, fun H1 pl as Q E s hl ha q => by
    obtain ⟨a, rfl, h1, h2⟩ := ha.one
    exact f H1 pl a Q E s ⟨hl, h1, h2, hg.le⟩ q⟩
theorem sh2 {z : Str} {sp : Sp} {H : Hp} {pi : Addr} {g k : Dom} {r : Nat × Sh} (m : MakE P w K mg base (L2.CX P w) VS 4 aS z sp) (hg : GD g) (hk : GD k) (f : ∀ (H1 : Hp) (pl a b : Addr) (Q : VK) (E : XK), Same H H1 → Two K H1 pl a b g.sh k.sh → (∀ H2, Same H1 H2 → ShEnd K C r Q E H2) → sp [.ref pi, .ref pl] H1 Q E) : ShMk P w K mg base C aS z H pi [g, k] r :=
  ⟨sp, m, fun H1 pl as Q E s hl ha q => by
    obtain ⟨a, b, rfl, h1, h2, h3, h4⟩ := ha.two
    exact f H1 pl a b Q E s ⟨hl, h1, h2, hg.le, h3, h4, hk.le⟩ q⟩
theorem sh_link (S : ShapeT P w K mg base C aS) {nd : Nd} {gs : List Dom} (hc : compu nd) (hg : GoodF nd) (hl : gs.length = arN nd) (hgs : ∀ g ∈ gs, GD g) {H : Hp} {pi : Addr} (hpi : InfoAt K H pi nd) : ShMk P w K mg base C aS nd.nm H pi gs (progR nd gs) := by
  have f1 : gs.length = 1 → ∃ d, gs = [d] ∧ GD d := fun h => by
    obtain ⟨d, rfl⟩ := one_of h
    exact ⟨d, rfl, hgs d (List.mem_cons_self ..)⟩
  have f2 : gs.length = 2 → ∃ d e, gs = [d, e] ∧ GD d ∧ GD e := fun h => by
    obtain ⟨d, e, rfl⟩ := two_of h
    exact ⟨d, e, rfl, hgs d (List.mem_cons_self ..), hgs e (List.mem_cons_of_mem _ (List.mem_cons_self ..))⟩
  cases nd with
  | input _ _ _ => exact hc.elim
  | const _ _ => exact hc.elim
  | bc k as =>
    have hp : 1 ≤ gs.length := by rw [hl]; exact arN_pos hc
    cases gs with
    | nil => exact absurd hp (by decide)
    | cons g gs =>
      refine ⟨_, S.bc k.nm (bk_in k), fun H1 pl as Q E s hpl ha q => ?_⟩
      cases as with
      | nil => exact absurd ha.1 (by simp)
      | cons a0 as =>
        have q : ∀ H2, Same H1 H2 → ShEnd K C (rcAll g.sh (gs.map fun x : Dom => x.sh)) Q E H2 := q
        refine ⟨pi, pl, a0, as, g.sh, gs.map fun x : Dom => x.sh, rfl, hpl, ⟨?_, fun i a sh h1 h2 => ?_⟩, q⟩
        · have := ha.1
          rw [List.length_cons, List.length_cons] at this
          rw [List.length_cons, List.length_cons, List.length_map]
          exact this
        · have h2 : ((g :: gs).map (·.sh))[i]? = some sh := h2
          rw [List.getElem?_map] at h2
          obtain ⟨d, hd, rfl⟩ := Option.map_eq_some_iff.mp h2
          obtain ⟨x, y⟩ := ha.2 i a d h1 hd
          exact ⟨x, y, (hgs d (List.mem_of_getElem? hd)).ck⟩
  | dot l as =>
    obtain ⟨d, e, rfl, hd, he⟩ := f2 hl
    exact sh2 S.dot hd he fun H1 pl a b Q E s o q => ⟨pi, pl, a, b, d.sh, e.sh, l, [], rfl, sqT_same hpi s, o, hd.nd, q⟩
  | mv k as =>
    cases k with
    | sum l =>
      obtain ⟨d, rfl, hd⟩ := f1 hl
      exact sh1 (S.red "sum" (List.mem_cons_self ..)) hd fun H1 pl a Q E s o q => ⟨pi, pl, a, d.sh, l, [], rfl, sqT_same hpi s, o, q⟩
    | peak l =>
      obtain ⟨d, rfl, hd⟩ := f1 hl
      exact sh1 (S.red "peak" (List.mem_cons_of_mem _ (List.mem_cons_self ..))) hd fun H1 pl a Q E s o q => ⟨pi, pl, a, d.sh, l, [], rfl, sqT_same hpi s, o, q⟩
    | order ls =>
      obtain ⟨d, rfl, hd⟩ := f1 hl
      exact sh1 S.order hd fun H1 pl a Q E s o q => ⟨pi, pl, a, d.sh, ls, [], rfl, sqT_same hpi s, o, hd.nd, hd.lw, hg.1, hg.2, q⟩
    | rename l m =>
      obtain ⟨d, rfl, hd⟩ := f1 hl
      exact sh1 S.rename hd fun H1 pl a Q E s o q => ⟨pi, pl, a, d.sh, l, m, rfl, sqT_same hpi s, o, q⟩
    | spread l z =>
      obtain ⟨d, rfl, hd⟩ := f1 hl
      exact sh1 S.spread hd fun H1 pl a Q E s o q => ⟨pi, pl, a, d.sh, l, z, rfl, sqT_same hpi s, o, q⟩
    | cut l x y =>
      obtain ⟨d, rfl, hd⟩ := f1 hl
      exact sh1 S.cut hd fun H1 pl a Q E s o q => ⟨pi, pl, a, d.sh, l, x, y, rfl, sqT_same hpi s, o, q⟩
    | pad l x y =>
      obtain ⟨d, rfl, hd⟩ := f1 hl
      exact sh1 S.pad hd fun H1 pl a Q E s o q => ⟨pi, pl, a, d.sh, l, x, y, rfl, sqT_same hpi s, o, q⟩
    | join l =>
      obtain ⟨d, e, rfl, hd, he⟩ := f2 hl
      exact sh2 S.join hd he fun H1 pl a b Q E s o q => ⟨pi, pl, a, b, d.sh, e.sh, l, [], rfl, sqT_same hpi s, o, hd.lw, he.lw, q⟩
    | window l m x y =>
      obtain ⟨d, rfl, hd⟩ := f1 hl
      obtain ⟨_, _, _, _, g1, g2⟩ := hg
      exact sh1 S.window hd fun H1 pl a Q E s o q => ⟨pi, pl, a, d.sh, l, m, x, y, rfl, sqT_same hpi s, o, g1, g2, q⟩
    | fold l m x y =>
      obtain ⟨d, rfl, hd⟩ := f1 hl
      obtain ⟨_, _, g1, g2, _⟩ := hg
      exact sh1 S.fold hd fun H1 pl a Q E s o q => ⟨pi, pl, a, d.sh, l, m, x, y, rfl, sqT_same hpi s, o, hd.fi, g1, g2, q⟩
    | gather l =>
      obtain ⟨d, e, rfl, hd, he⟩ := f2 hl
      exact sh2 S.gather hd he fun H1 pl a b Q E s o q => ⟨pi, pl, a, b, d.sh, e.sh, l, [], rfl, sqT_same hpi s, o, q⟩
theorem lst2 {a b : Int} (h : a ≤ b) : lst [a, b] = a := (lst_is (List.mem_cons_self ..) fun y hy => by
  rcases List.mem_cons.mp hy with rfl | hy
  · exact Int.le_refl _
  · rw [List.mem_singleton] at hy
    rw [hy]
    exact h).symm
theorem grt2 {a b : Int} (h : a ≤ b) : grt [a, b] = b := (grt_is (List.mem_cons_of_mem _ (List.mem_cons_self ..)) fun y hy => by
  rcases List.mem_cons.mp hy with rfl | hy
  · exact h
  · rw [List.mem_singleton] at hy
    rw [hy]
    exact Int.le_refl _).symm
theorem lst2r {a b : Int} (h : b ≤ a) : lst [a, b] = b := (lst_is (List.mem_cons_of_mem _ (List.mem_cons_self ..)) fun y hy => by
  rcases List.mem_cons.mp hy with rfl | hy
  · exact h
  · rw [List.mem_singleton] at hy
    rw [hy]
    exact Int.le_refl _).symm
theorem grt2r {a b : Int} (h : b ≤ a) : grt [a, b] = a := (grt_is (List.mem_cons_self ..) fun y hy => by
  rcases List.mem_cons.mp hy with rfl | hy
  · exact Int.le_refl _
  · rw [List.mem_singleton] at hy
    rw [hy]
    exact h).symm
theorem lim_mx {x lo hi : Int} (h : lo ≤ hi) : lim x lo hi = mx lo (mn hi x) := by
  unfold lim mx mn
  split <;> split <;> (try split) <;> omega
theorem lim_mono {x y lo hi : Int} (h : lo ≤ hi) (k : x ≤ y) : lim x lo hi ≤ lim y lo hi := by
  unfold lim
  split <;> split <;> (try split) <;> (try split) <;> omega
theorem shf_mono {x y : Int} (n : Nat) (k : x ≤ y) : shf x n ≤ shf y n := by
  unfold shf
  exact Int.ediv_le_ediv (Int.pow_pos (by decide)) (by omega)
theorem fin_bg {z : Int} (h : 0 ≤ z ∧ z ≤ 16) : Bg 300 z := bg300 (by omega) (by omega)
theorem mv_ax {k : Mv} {a b sh : Sh} (hk : isNA k) (h : mvS k a b = some sh) : sz a k.ax ≠ 0 ∧ ∃ fresh, newAx k a b (sz a k.ax) = some fresh := by
  have gen : ∀ (hs : (if sz a k.ax = 0 then none else (newAx k a b (sz a k.ax)).map fun fresh => replM k fresh a) = some sh), sz a k.ax ≠ 0 ∧ ∃ fresh, newAx k a b (sz a k.ax) = some fresh := fun h => by
    split at h
    · cases h
    · rename_i h0
      cases e : newAx k a b (sz a k.ax) with
      | none => rw [e] at h; cases h
      | some ax => exact ⟨h0, ax, rfl⟩
  cases k with
  | order _ => exact hk.elim
  | spread _ _ => exact hk.elim
  | sum _ => exact gen h
  | peak _ => exact gen h
  | rename _ _ => exact gen h
  | cut _ _ _ => exact gen h
  | pad _ _ _ => exact gen h
  | join _ => exact gen h
  | window _ _ _ _ => exact gen h
  | fold _ _ _ _ => exact gen h
  | gather _ => exact gen h
theorem iv_link (I : IvT P w K mg base aI aM) {nd : Nd} {gs : List Dom} {sh : Sh} (hc : compu nd) (hg : GoodF nd) (hl : gs.length = arN nd) (hgs : ∀ g ∈ gs, GD g) (hs : shapeL nd gs = some sh) {H : Hp} {pi : Addr} (hpi : InfoAt K H pi nd) : IvMk P w K mg base aI nd.nm H pi gs (spanL nd gs).1 (spanL nd gs).2 := by
  have f1 : gs.length = 1 → ∃ d, gs = [d] ∧ GD d := fun h => by
    obtain ⟨d, rfl⟩ := one_of h
    exact ⟨d, rfl, hgs d (List.mem_cons_self ..)⟩
  have f2 : gs.length = 2 → ∃ d e, gs = [d, e] ∧ GD d ∧ GD e := fun h => by
    obtain ⟨d, e, rfl⟩ := two_of h
    exact ⟨d, e, rfl, hgs d (List.mem_cons_self ..), hgs e (List.mem_cons_of_mem _ (List.mem_cons_self ..))⟩
  have f3 : gs.length = 3 → ∃ c d e, gs = [c, d, e] ∧ GD c ∧ GD d ∧ GD e := fun h => by
    obtain ⟨c, d, e, rfl⟩ := three_of h
    exact ⟨c, d, e, rfl, hgs c (List.mem_cons_self ..), hgs d (List.mem_cons_of_mem _ (List.mem_cons_self ..)), hgs e (List.mem_cons_of_mem _ (List.mem_cons_of_mem _ (List.mem_cons_self ..)))⟩
  have same : ∀ z ∈ (["peak", "order", "rename", "spread", "cut", "window", "gather"] : List Str), ∀ (d : Dom) (r : List Dom), IvMk P w K mg base aI z H pi (d :: r) d.lo d.hi := fun z hz d r => ⟨_, I.same z hz, fun H1 pg us Q s1 hpg hD q => by
    cases us with
    | nil => exact absurd hD.1 (by simp)
    | cons v us => exact ⟨_, pi, pg, v, us, d, rfl, hpg, hD.2 0 v d rfl rfl, q⟩⟩
  have sm : ∀ (n : Nat) (z : Str), (["peak", "order", "rename", "spread", "cut", "window", "gather"] : List Str)[n]? = some z → z ∈ (["peak", "order", "rename", "spread", "cut", "window", "gather"] : List Str) := fun n z h => List.mem_of_getElem? h
  have rs : ∀ (n : Nat) (z : Str), (["add", "max", "min", "clamp", "shift"] : List Str)[n]? = some z → z ∈ (["add", "max", "min", "clamp", "shift"] : List Str) := fun n z h => List.mem_of_getElem? h
  cases nd with
  | input _ _ _ => exact hc.elim
  | const _ _ => exact hc.elim
  | dot l as =>
    obtain ⟨d, e, rfl, hd, he⟩ := f2 hl
    have hz : sz d.sh l ≠ 0 := fun z => by
      have hs : ((castAll d.sh [e.sh]).bind fun s => if sz d.sh l = 0 ∨ sz e.sh l = 0 then none else some (dropL s l)) = some sh := hs
      cases hca : castAll d.sh [e.sh] with
      | none => rw [hca] at hs; cases hs
      | some s =>
        rw [hca] at hs
        have hs : (if sz d.sh l = 0 ∨ sz e.sh l = 0 then none else some (dropL s l)) = some sh := hs
        rw [if_pos (.inl z)] at hs
        cases hs
    obtain ⟨z, h1, h2⟩ := sz_some hz
    refine ⟨_, I.dot, fun H1 pg us Q s1 hpg hD q => ?_⟩
    obtain ⟨v, u, rfl, hv, hu⟩ := hD.two
    have q : IvQ K (sz d.sh l * lst (corn d.lo d.hi e.lo e.hi)) (sz d.sh l * grt (corn d.lo d.hi e.lo e.hi)) Q H1 := q
    rw [h2] at q
    exact ⟨_, pi, pg, v, u, d, e, l, z, [], rfl, hpg, hv, hu, sqT_same hpi s1, hd.nd, h1, fin_bg (by rw [← h2]; exact sz_le hd.fi l), hd.lo, hd.hi, he.lo, he.hi, q⟩
  | bc k as =>
    cases k with
    | add =>
      obtain ⟨d, e, rfl, hd, he⟩ := f2 hl
      exact ⟨_, I.ris _ (rs 0 _ rfl), fun H1 pg us Q s1 hpg hD q => ⟨_, pi, pg, us, [d, e], _, fun ns => match ns with | [a, b] => a + b | _ => 0, rfl, hpg, hD, (by show 2 ≤ 3; decide), I.mAdd, fun ns H' p Q' hns s hp hq => by
        rcases hns with rfl | rfl
        · exact ⟨p, pi, _, _, rfl, hp, trivial, hq⟩
        · exact ⟨p, pi, _, _, rfl, hp, trivial, hq⟩, q⟩⟩
    | max =>
      obtain ⟨d, e, rfl, hd, he⟩ := f2 hl
      exact ⟨_, I.ris _ (rs 1 _ rfl), fun H1 pg us Q s1 hpg hD q => ⟨_, pi, pg, us, [d, e], _, fun ns => match ns with | [a, b] => mx a b | _ => 0, rfl, hpg, hD, (by show 2 ≤ 3; decide), I.mMax, fun ns H' p Q' hns s hp hq => by
        rcases hns with rfl | rfl
        · exact ⟨p, pi, _, _, rfl, hp, trivial, hq⟩
        · exact ⟨p, pi, _, _, rfl, hp, trivial, hq⟩, q⟩⟩
    | min =>
      obtain ⟨d, e, rfl, hd, he⟩ := f2 hl
      exact ⟨_, I.ris _ (rs 2 _ rfl), fun H1 pg us Q s1 hpg hD q => ⟨_, pi, pg, us, [d, e], _, fun ns => match ns with | [a, b] => mn a b | _ => 0, rfl, hpg, hD, (by show 2 ≤ 3; decide), I.mMin, fun ns H' p Q' hns s hp hq => by
        rcases hns with rfl | rfl
        · exact ⟨p, pi, _, _, rfl, hp, trivial, hq⟩
        · exact ⟨p, pi, _, _, rfl, hp, trivial, hq⟩, q⟩⟩
    | sub =>
      obtain ⟨d, e, rfl, hd, he⟩ := f2 hl
      refine ⟨_, I.sub, fun H1 pg us Q s1 hpg hD q => ?_⟩
      obtain ⟨v, u, rfl, hv, hu⟩ := hD.two
      exact ⟨_, pi, pg, v, u, d, e, rfl, hpg, hv, hu, hd.lo, hd.hi, he.lo, he.hi, q⟩
    | mul =>
      obtain ⟨d, e, rfl, hd, he⟩ := f2 hl
      refine ⟨_, I.mul, fun H1 pg us Q s1 hpg hD q => ?_⟩
      obtain ⟨v, u, rfl, hv, hu⟩ := hD.two
      have q : IvQ K (1 * lst (corn d.lo d.hi e.lo e.hi)) (1 * grt (corn d.lo d.hi e.lo e.hi)) Q H1 := q
      rw [Int.one_mul, Int.one_mul] at q
      exact ⟨_, pi, pg, v, u, d, e, rfl, hpg, hv, hu, hd.lo, hd.hi, he.lo, he.hi, q⟩
    | less =>
      exact ⟨_, I.tru "less" (List.mem_cons_self ..), fun H1 pg us Q s1 hpg hD q => ⟨_, pi, pg, rfl, q⟩⟩
    | equal =>
      exact ⟨_, I.tru "equal" (List.mem_cons_of_mem _ (List.mem_cons_self ..)), fun H1 pg us Q s1 hpg hD q => ⟨_, pi, pg, rfl, q⟩⟩
    | neg =>
      obtain ⟨d, rfl, hd⟩ := f1 hl
      refine ⟨_, I.neg, fun H1 pg us Q s1 hpg hD q => ?_⟩
      obtain ⟨v, rfl, hv⟩ := hD.one
      have q : IvQ K (lst [-d.lo, -d.hi]) (grt [-d.lo, -d.hi]) Q H1 := q
      have := hd.ord
      rw [lst2r (by omega), grt2r (by omega)] at q
      exact ⟨_, pi, pg, v, d, rfl, hpg, hv, q⟩
    | clamp lo hi =>
      obtain ⟨d, rfl, hd⟩ := f1 hl
      have hlh : lo ≤ hi := hg.1
      refine ⟨_, I.ris _ (rs 3 _ rfl), fun H1 pg us Q s1 hpg hD q => ⟨_, pi, pg, us, [d], _, fun ns => match ns with | [a] => lim a lo hi | _ => 0, rfl, hpg, hD, (by show 1 ≤ 3; decide), I.mClamp, fun ns H' p Q' hns s hp hq => ?_, ?_⟩⟩
      · rcases hns with rfl | rfl
        · exact ⟨p, pi, _, lo, hi, rfl, hp, sqT_same (sqT_same hpi s1) s, hq⟩
        · exact ⟨p, pi, _, lo, hi, rfl, hp, sqT_same (sqT_same hpi s1) s, hq⟩
      · have q : IvQ K (lst [mx lo (mn hi d.lo), mx lo (mn hi d.hi)]) (grt [mx lo (mn hi d.lo), mx lo (mn hi d.hi)]) Q H1 := q
        rw [← lim_mx hlh, ← lim_mx hlh, lst2 (lim_mono hlh hd.ord), grt2 (lim_mono hlh hd.ord)] at q
        exact q
    | shift n =>
      obtain ⟨d, rfl, hd⟩ := f1 hl
      refine ⟨_, I.ris _ (rs 4 _ rfl), fun H1 pg us Q s1 hpg hD q => ⟨_, pi, pg, us, [d], _, fun ns => match ns with | [a] => shf a n | _ => 0, rfl, hpg, hD, (by show 1 ≤ 3; decide), I.mShift, fun ns H' p Q' hns s hp hq => ?_, ?_⟩⟩
      · rcases hns with rfl | rfl
        · exact ⟨p, pi, _, n, rfl, hp, sqT_same (sqT_same hpi s1) s, hg.1, hg.2, hq⟩
        · exact ⟨p, pi, _, n, rfl, hp, sqT_same (sqT_same hpi s1) s, hg.1, hg.2, hq⟩
      · have q : IvQ K (lst [shf d.lo n, shf d.hi n]) (grt [shf d.lo n, shf d.hi n]) Q H1 := q
        rw [lst2 (shf_mono n hd.ord), grt2 (shf_mono n hd.ord)] at q
        exact q
    | wher =>
      obtain ⟨c, d, e, rfl, hcc, hd, he⟩ := f3 hl
      refine ⟨_, I.whr, fun H1 pg us Q s1 hpg hD q => ?_⟩
      obtain ⟨x, v, u, rfl, hx, hv, hu⟩ := hD.three
      exact ⟨_, pi, pg, x, v, u, c, d, e, rfl, hpg, hx, hv, hu, q⟩
  | mv k as =>
    cases k with
    | sum l =>
      obtain ⟨d, rfl, hd⟩ := f1 hl
      obtain ⟨z, h1, h2⟩ := sz_some (mv_ax (k := .sum l) trivial hs).1
      refine ⟨_, I.sum, fun H1 pg us Q s1 hpg hD q => ?_⟩
      obtain ⟨v, rfl, hv⟩ := hD.one
      have q : IvQ K (sz d.sh l * d.lo) (sz d.sh l * d.hi) Q H1 := q
      have h2 : sz d.sh l = z := h2
      rw [h2] at q
      exact ⟨_, pi, pg, v, d, l, z, [], rfl, hpg, hv, sqT_same hpi s1, hd.nd, h1, fin_bg (by rw [← h2]; exact sz_le hd.fi l), hd.lo, hd.hi, q⟩
    | fold l m x y =>
      obtain ⟨d, rfl, hd⟩ := f1 hl
      obtain ⟨_, fresh, hf⟩ := mv_ax (k := .fold l m x y) trivial hs
      have hf : (if sz d.sh m = 0 ∨ m = l ∨ y < x * (sz d.sh l - 1) + sz d.sh m then none else some [(l, y)]) = some fresh := hf
      have hm : sz d.sh m ≠ 0 := fun z => by
        rw [if_pos (.inl z)] at hf
        cases hf
      obtain ⟨z, h1, h2⟩ := sz_some hm
      refine ⟨_, I.fold, fun H1 pg us Q s1 hpg hD q => ?_⟩
      obtain ⟨v, rfl, hv⟩ := hD.one
      have q : IvQ K (mn (sz d.sh m * d.lo) 0) (mx (sz d.sh m * d.hi) 0) Q H1 := q
      rw [h2] at q
      exact ⟨_, pi, pg, v, d, m, z, _, _, rfl, hpg, hv, sqT_same hpi s1, hd.nd, h1, fin_bg (by rw [← h2]; exact sz_le hd.fi m), hd.lo, hd.hi, q⟩
    | pad l x y =>
      obtain ⟨d, rfl, hd⟩ := f1 hl
      refine ⟨_, I.pad, fun H1 pg us Q s1 hpg hD q => ?_⟩
      obtain ⟨v, rfl, hv⟩ := hD.one
      exact ⟨_, pi, pg, v, d, rfl, hpg, hv, q⟩
    | join l =>
      obtain ⟨d, e, rfl, hd, he⟩ := f2 hl
      refine ⟨_, I.join, fun H1 pg us Q s1 hpg hD q => ?_⟩
      obtain ⟨v, u, rfl, hv, hu⟩ := hD.two
      exact ⟨_, pi, pg, v, u, d, e, rfl, hpg, hv, hu, hd.lo, hd.hi, he.lo, he.hi, q⟩
    | peak l => obtain ⟨d, rfl, hd⟩ := f1 hl; exact same _ (sm 0 _ rfl) d []
    | order l => obtain ⟨d, rfl, hd⟩ := f1 hl; exact same _ (sm 1 _ rfl) d []
    | rename l m => obtain ⟨d, rfl, hd⟩ := f1 hl; exact same _ (sm 2 _ rfl) d []
    | spread l m => obtain ⟨d, rfl, hd⟩ := f1 hl; exact same _ (sm 3 _ rfl) d []
    | cut l x y => obtain ⟨d, rfl, hd⟩ := f1 hl; exact same _ (sm 4 _ rfl) d []
    | window l m x y => obtain ⟨d, rfl, hd⟩ := f1 hl; exact same _ (sm 5 _ rfl) d []
    | gather l => obtain ⟨d, e, rfl, hd, he⟩ := f2 hl; exact same _ (sm 6 _ rfl) d [e]
end
section
variable {P : Program} {w : World} {K : PySem.W.Frag} {mg : Str → Option Value} {base : Heap} {C : Nat → Addr} {aA aF aR aS aI aM : Addr}
theorem mem_repl_self {l : Nat} {p : Nat × Int} : ∀ {sh : Sh}, l ∈ codes sh → p ∈ repl sh l [p]
  | [], h => by cases h
  | q :: sh, h => by
    have e : repl (q :: sh) l [p] = (if q.1 = l then [p] else [q]) ++ repl sh l [p] := rfl
    rw [e]
    by_cases hq : q.1 = l
    · rw [if_pos hq]
      exact List.mem_append_left _ (List.mem_cons_self ..)
    · have h : l ∈ q.1 :: codes sh := h
      rcases List.mem_cons.mp h with h | h
      · exact absurd h.symm hq
      · exact List.mem_append_right _ (mem_repl_self h)
theorem fold_size {l m : Nat} {x y : Int} {as : List Nat} {g : Dom} {sh : Sh} (h : mvS (.fold l m x y) g.sh g.sh = some sh) (hf : Fine sh) : 1 ≤ y ∧ y ≤ 16 := by
  have h : (if sz g.sh l = 0 then none else (newAx (.fold l m x y) g.sh g.sh (sz g.sh l)).map fun fresh => replM (.fold l m x y) fresh g.sh) = some sh := h
  split at h
  · cases h
  · rename_i h0
    obtain ⟨z, h1, h2⟩ := sz_some h0
    have e : newAx (.fold l m x y) g.sh g.sh (sz g.sh l) = if sz g.sh m = 0 ∨ m = l ∨ y < x * (sz g.sh l - 1) + sz g.sh m then none else some [(l, y)] := rfl
    rw [e] at h
    split at h
    · cases h
    · rename_i hn
      have h : some (replM (.fold l m x y) [(l, y)] g.sh) = some sh := h
      have hml : m ≠ l := fun z => hn (.inr (.inl z))
      rw [replM_fold hml] at h
      cases h
      refine hf (l, y) (mem_repl_self ?_)
      have hl : l ∈ codes g.sh := mem_codes (look_mem h1)
      obtain ⟨p, hp, rfl⟩ := of_codes hl
      refine mem_codes (p := p) ?_
      unfold repl
      exact List.mem_flatMap.mpr ⟨p, hp, by rw [if_neg (fun e => hml e.symm)]; exact List.mem_cons_self ..⟩
def fsN : Nd → List V
  | .bc k _ => k.fs
  | .dot l _ => [.str (one l)]
  | .mv k _ => k.fs
  | _ => []
theorem info_fs {H : Hp} {pi : Addr} {nd : Nd} (hc : compu nd) (h : InfoAt K H pi nd) : SqT K H pi (fsN nd) := by
  cases nd with
  | input _ _ _ => exact hc.elim
  | const _ _ => exact hc.elim
  | bc _ _ => exact h
  | dot _ _ => exact h
  | mv _ _ => exact h
/-- the fields are found in order -/
structure FsOk (kind : Str) (nr : List Row) (fs : List V) : Prop where
  l : nr.length = fs.length
  i : ∀ (j : Nat) (nm : Str) (ab : Int × Int), nr[j]? = some (nm, some ab) → ∃ n, fs[j]? = some (.int n)
  p : ∃ pre, preOk kind fs pre ∧ fieldsR pre nr fs = 0
theorem pre0 {kind : Str} {fs : List V} (h1 : kind ≠ "input") (h2 : kind ≠ "clamp") : preOk kind fs 0 := ⟨fun z => absurd z h1, fun z => absurd z h2, fun _ _ => rfl⟩
theorem fR {nr : List Row} {fs : List V} (h : (nr.zip fs).any (fun p => fldBad p.1.2 p.2) = false) : fieldsR 0 nr fs = 0 := by
  unfold fieldsR
  rw [if_neg (by decide), if_neg (by rw [h]; exact Bool.false_ne_true)]
theorem in_rg {a b n : Int} (h1 : a ≤ n) (h2 : n ≤ b) : (decide (n < a) || decide (b < n)) = false := by
  rw [Bool.or_eq_false_iff, decide_eq_false_iff_not, decide_eq_false_iff_not]
  omega
theorem fs_nil {kind : Str} (h1 : kind ≠ "input") (h2 : kind ≠ "clamp") : FsOk kind [] [] := ⟨rfl, fun j nm ab h => by simp at h, 0, pre0 h1 h2, fR rfl⟩
/-- names without ranges -/
theorem fs_plain {kind : Str} {nr : List Row} {fs : List V} (h1 : kind ≠ "input") (h2 : kind ≠ "clamp") (hl : nr.length = fs.length) (h : ∀ r ∈ nr, r.2 = none) : FsOk kind nr fs := by
  refine ⟨hl, fun j nm ab h3 => ?_, 0, pre0 h1 h2, fR ?_⟩
  · have := h _ (List.mem_of_getElem? h3)
    cases this
  · rw [List.any_eq_false]
    intro p hp
    have := h p.1 (List.of_mem_zip hp).1
    rw [this]
    simp [fldBad]
theorem fs_ok {nd : Nd} (hc : compu nd) (hg : GoodF nd) (hf : ∀ l m x y as, nd = .mv (.fold l m x y) as → 1 ≤ y ∧ y ≤ 16) : FsOk nd.nm (rowOf nd).2 (fsN nd) := by
  have n1 := (compu_nm hc).1
  have pl : ∀ nr fs, nd.nm ≠ "clamp" → (rowOf nd).2 = nr → fsN nd = fs → nr.length = fs.length → (∀ r ∈ nr, r.2 = none) → FsOk nd.nm (rowOf nd).2 (fsN nd) := fun nr fs h e1 e2 h1 h2 => by
    rw [e1, e2]
    exact fs_plain n1 h h1 h2
  have none1 : ∀ {nr : List Row}, nr.all (fun r => r.2.isNone) = true → ∀ r ∈ nr, r.2 = none := fun h r hr => by
    have := List.all_eq_true.mp h r hr
    exact Option.isNone_iff_eq_none.mp this
  cases nd with
  | input _ _ _ => exact hc.elim
  | const _ _ => exact hc.elim
  | dot l as => exact pl _ _ (by show ("dot" : Str) ≠ "clamp"; decide +kernel) rfl rfl rfl (none1 rfl)
  | bc k as =>
    cases k with
    | add => exact pl _ _ (by show ("add" : Str) ≠ "clamp"; decide +kernel) rfl rfl rfl (none1 rfl)
    | sub => exact pl _ _ (by show ("sub" : Str) ≠ "clamp"; decide +kernel) rfl rfl rfl (none1 rfl)
    | mul => exact pl _ _ (by show ("mul" : Str) ≠ "clamp"; decide +kernel) rfl rfl rfl (none1 rfl)
    | max => exact pl _ _ (by show ("max" : Str) ≠ "clamp"; decide +kernel) rfl rfl rfl (none1 rfl)
    | min => exact pl _ _ (by show ("min" : Str) ≠ "clamp"; decide +kernel) rfl rfl rfl (none1 rfl)
    | less => exact pl _ _ (by show ("less" : Str) ≠ "clamp"; decide +kernel) rfl rfl rfl (none1 rfl)
    | equal => exact pl _ _ (by show ("equal" : Str) ≠ "clamp"; decide +kernel) rfl rfl rfl (none1 rfl)
    | neg => exact pl _ _ (by show ("neg" : Str) ≠ "clamp"; decide +kernel) rfl rfl rfl (none1 rfl)
    | wher => exact pl _ _ (by show ("where" : Str) ≠ "clamp"; decide +kernel) rfl rfl rfl (none1 rfl)
    | shift n =>
      refine ⟨rfl, fun j nm ab h => ?_, 0, pre0 n1 (by show ("shift" : Str) ≠ "clamp"; decide +kernel), fR ?_⟩
      · cases j with
        | zero => exact ⟨_, rfl⟩
        | succ j => have h : (none : Option Row) = some (nm, some ab) := h; cases h
      · show ((decide ((n : Int) < 1) || decide (30 < (n : Int))) || false) = false
        obtain ⟨g1, g2⟩ := hg
        rw [in_rg (by omega) (by omega)]
        rfl
    | clamp lo hi =>
      obtain ⟨g1, g2, g3⟩ := hg
      have hW : (100 : Int) ≤ W200 := by decide +kernel
      have hcl : clampR lo hi = 0 := by
        unfold clampR
        rw [if_neg (by omega), if_neg (by omega)]
      refine ⟨rfl, fun j nm ab h => ?_, 0, ⟨fun z => absurd z n1, fun _ => ⟨lo, hi, rfl, hcl.symm⟩, fun _ _ => rfl⟩, fR rfl⟩
      match j, h with
      | 0, h => cases h
      | 1, h => cases h
      | j + 2, h => have h : (none : Option Row) = some (nm, some ab) := h; cases h
  | mv k as =>
    cases k with
    | sum l => exact pl _ _ (by show ("sum" : Str) ≠ "clamp"; decide +kernel) rfl rfl rfl (none1 rfl)
    | peak l => exact pl _ _ (by show ("peak" : Str) ≠ "clamp"; decide +kernel) rfl rfl rfl (none1 rfl)
    | order l => exact pl _ _ (by show ("order" : Str) ≠ "clamp"; decide +kernel) rfl rfl rfl (none1 rfl)
    | rename l m => exact pl _ _ (by show ("rename" : Str) ≠ "clamp"; decide +kernel) rfl rfl rfl (none1 rfl)
    | join l => exact pl _ _ (by show ("join" : Str) ≠ "clamp"; decide +kernel) rfl rfl rfl (none1 rfl)
    | gather l => exact pl _ _ (by show ("gather" : Str) ≠ "clamp"; decide +kernel) rfl rfl rfl (none1 rfl)
    | spread l z =>
      obtain ⟨_, g1, g2⟩ := hg
      refine ⟨rfl, fun j nm ab h => ?_, 0, pre0 n1 (by show ("spread" : Str) ≠ "clamp"; decide +kernel), fR ?_⟩
      · match j, h with
        | 0, h => cases h
        | 1, h => exact ⟨_, rfl⟩
        | j + 2, h => have h : (none : Option Row) = some (nm, some ab) := h; cases h
      · show (false || ((decide (z < 1) || decide (16 < z)) || false)) = false
        rw [in_rg g1 g2]
        rfl
    | cut l x y =>
      obtain ⟨_, g1, g2, g3, g4⟩ := hg
      refine ⟨rfl, fun j nm ab h => ?_, 0, pre0 n1 (by show ("cut" : Str) ≠ "clamp"; decide +kernel), fR ?_⟩
      · match j, h with
        | 0, h => cases h
        | 1, h => exact ⟨_, rfl⟩
        | 2, h => exact ⟨_, rfl⟩
        | j + 3, h => have h : (none : Option Row) = some (nm, some ab) := h; cases h
      · show (false || ((decide (x < 0) || decide (16 < x)) || ((decide (y < 1) || decide (16 < y)) || false))) = false
        rw [in_rg g1 g2, in_rg g3 g4]
        rfl
    | pad l x y =>
      obtain ⟨_, g1, g2, g3, g4⟩ := hg
      refine ⟨rfl, fun j nm ab h => ?_, 0, pre0 n1 (by show ("pad" : Str) ≠ "clamp"; decide +kernel), fR ?_⟩
      · match j, h with
        | 0, h => cases h
        | 1, h => exact ⟨_, rfl⟩
        | 2, h => exact ⟨_, rfl⟩
        | j + 3, h => have h : (none : Option Row) = some (nm, some ab) := h; cases h
      · show (false || ((decide (x < 0) || decide (16 < x)) || ((decide (y < 0) || decide (16 < y)) || false))) = false
        rw [in_rg g1 g2, in_rg g3 g4]
        rfl
    | window l m x y =>
      obtain ⟨_, _, g1, g2, g3, g4⟩ := hg
      refine ⟨rfl, fun j nm ab h => ?_, 0, pre0 n1 (by show ("window" : Str) ≠ "clamp"; decide +kernel), fR ?_⟩
      · match j, h with
        | 0, h => cases h
        | 1, h => cases h
        | 2, h => exact ⟨_, rfl⟩
        | 3, h => exact ⟨_, rfl⟩
        | j + 4, h => have h : (none : Option Row) = some (nm, some ab) := h; cases h
      · show (false || (false || ((decide (x < 1) || decide (16 < x)) || ((decide (y < 1) || decide (16 < y)) || false)))) = false
        rw [in_rg g1 g2, in_rg g3 g4]
        rfl
    | fold l m x y =>
      obtain ⟨_, _, g1, g2, _⟩ := hg
      obtain ⟨g3, g4⟩ := hf l m x y as rfl
      refine ⟨rfl, fun j nm ab h => ?_, 0, pre0 n1 (by show ("fold" : Str) ≠ "clamp"; decide +kernel), fR ?_⟩
      · match j, h with
        | 0, h => cases h
        | 1, h => cases h
        | 2, h => exact ⟨_, rfl⟩
        | 3, h => exact ⟨_, rfl⟩
        | j + 4, h => have h : (none : Option Row) = some (nm, some ab) := h; cases h
      · show (false || (false || ((decide (x < 1) || decide (16 < x)) || ((decide (y < 1) || decide (16 < y)) || false)))) = false
        rw [in_rg g1 g2, in_rg g3 g4]
        rfl
/-- what spDom asks, beyond the addresses -/
theorem dom_of (FT : FormT w K aA aF aR) {nd : Nd} {H : Hp} {pn pa pi pt : Addr} {fs us : List V} {ds gs : List Dom} {d : Dom} {Q : VK} {E : XK}
    (hpn : SqT K H pn [.str nd.nm, .ref pa, .ref pi]) (hpa : SqT K H pa ((asInts nd.args).map V.int)) (hpi : SqT K H pi fs) (hpt : SqT K H pt us) (hD : Dms K H us ds) (hdl : ds.length ≤ 1000)
    (hal : nd.args.length = arN nd) (hlt : ∀ a ∈ nd.args, a < ds.length) (hG : GivenN nd.args ds gs) (hfs : FsOk nd.nm (rowOf nd).2 fs)
    (hco : nd.nm = "const" → ∃ (ps pd : Addr) (sh : Sh) (ns : List Int), fs = [.ref ps, .ref pd] ∧ ShT K H ps sh ∧ Mod sh ∧ SqT K H pd (ns.map V.int) ∧ (ns.length : Int) = prod (sizes sh))
    (hck : chk d.sh = 0) (hlo : -W200 ≤ d.lo) (hhi : d.hi ≤ W200) (hS : ShMk P w K mg base C aS nd.nm H pi gs (0, d.sh)) (hI : IvMk P w K mg base aI nd.nm H pi gs d.lo d.hi)
    (q : ∀ H' u, Same H H' → DmAt K H' u d → Q u H') : spDom P w K mg base C aA aF aR aS aI [.ref pn, .ref pt] H Q E := by
  have hrow := row_in nd
  have kn := FT.kn _ hrow
  have hul : us.length = ds.length := hD.1
  have ha3 := arN_le nd
  have hkl : nd.nm.length ≤ 100 := by
    have : ∀ r ∈ KT, r.1.length ≤ 100 := by decide +kernel
    exact this _ hrow
  obtain ⟨pre, hpre, hfR⟩ := hfs.p
  obtain ⟨c1, c2, c3, c4⟩ := chk_zero.mp hck
  have hform : formR (rowOf nd).1 ((rowOf nd).2.map (·.1)) true (asInts nd.args) fs.length (us.length : Int) = 0 := by
    unfold formR
    rw [if_neg (by rw [asInts, List.length_map, row_len]; exact fun z => z hal), if_neg (by rw [List.length_map, hfs.l]; exact fun z => z rfl), if_neg (by decide), if_pos]
    rw [List.all_eq_true]
    intro a ha
    obtain ⟨k, hk, rfl⟩ := List.mem_map.mp ha
    have := hlt k hk
    rw [Bool.and_eq_true, decide_eq_true_iff, decide_eq_true_iff]
    omega
  have hend : endR (0, d.sh) d.lo d.hi = 0 := by
    unfold endR
    rw [if_neg (show ¬ (0 : Nat) ≠ 0 by decide), if_neg (show ¬ chk d.sh ≠ 0 by rw [hck]; decide), if_neg (by omega)]
  refine ⟨pn, pt, pa, pi, nd.nm, asInts nd.args, fs, us, ds, rfl, hpn, hpa, hpi, hpt, hD, by omega, by rw [asInts, List.length_map]; omega, hkl, .inr ⟨(rowOf nd).1, (rowOf nd).2.map (·.1), true, kn, fun e _ => ?_, fun _ => rfl, fun e => (by rw [hform] at e; cases e), fun _ => ⟨(rowOf nd).2, pre, ⟨?_, hfs.l, FT.rg _ hrow, hfs.i, hpre⟩, fun e => (by rw [hfR] at e; cases e), fun _ => ⟨gs, (0, d.sh), d.lo, d.hi, ⟨?_, fun i a h => ?_⟩, ?_, c3.mod, hS, fun _ _ => hI, fun H' s => ⟨fun _ v hv => q H' v s hv, fun k e => (by rw [hend] at e; cases e)⟩⟩⟩⟩⟩
  · obtain ⟨ps, pd, sh, ns, e1, e2, e3, e4, e5⟩ := hco e
    exact ⟨ps, pd, sh, ns, e1, e2, e3, e4, (decide_eq_true e5).symm⟩
  · exact kn.f
  · rw [asInts, List.length_map]
    exact hG.1
  · unfold asInts at h
    rw [List.getElem?_map] at h
    obtain ⟨k, hk, rfl⟩ := Option.map_eq_some_iff.mp h
    obtain ⟨g, e1, e2⟩ := hG.2 i k hk
    exact ⟨g, by rw [Int.toNat_natCast]; exact e1, e2⟩
  · show d.sh.length ≤ 16
    omega
theorem link (FT : FormT w K aA aF aR) (S : ShapeT P w K mg base C aS) (I : IvT P w K mg base aI aM) : ∀ vs H Q E, spDomL K vs H Q E → spDom P w K mg base C aA aF aR aS aI vs H Q E := by
  rintro vs H Q E ⟨v, pt, nd, us, ds, gs, d, rfl, ⟨pn, pa, pi, rfl, hpn, hpa, hpi⟩, hpt, hD, hdl, hgn, hG, hgm, hd, hgd, q⟩
  have hW : (10000000000 : Int) ≤ W200 := by decide +kernel
  rcases hgn with hg | ⟨hc, hg, har, hlt⟩
  · obtain ⟨x1, x2, x3⟩ := hg.args
    have hgs : gs = [] := List.length_eq_zero_iff.mp (by rw [hG.1, x1]; rfl)
    subst hgs
    have har : nd.args.length = arN nd := by rw [x1, x2]; rfl
    have hlt : ∀ a ∈ nd.args, a < ds.length := fun a h => by rw [x1] at h; cases h
    cases nd with
    | bc _ _ => exact hg.elim
    | dot _ _ => exact hg.elim
    | mv _ _ => exact hg.elim
    | input sh lo hi =>
      obtain ⟨a, i1, i2, i3⟩ := hpi
      obtain ⟨g1, g2, g3, g4, g5⟩ := hg
      cases hd
      refine dom_of (d := ⟨sh, lo, hi⟩) FT hpn hpa i1 hpt hD hdl har hlt hG ⟨rfl, fun j nm ab h => ?_, 0, ⟨fun _ => ⟨_, lo, hi, rfl, by rw [if_neg (by omega)]⟩, fun z => absurd z (by show ("input" : Str) ≠ "clamp"; decide +kernel), fun _ _ => rfl⟩, fR rfl⟩ (fun e => absurd e (by show ("input" : Str) ≠ "const"; decide +kernel)) g1 (show -W200 ≤ lo by omega) (show hi ≤ W200 by omega) ?_ ?_ q
      · match j, h with
        | 0, h => cases h
        | 1, h => cases h
        | 2, h => cases h
        | j + 3, h => have h : (none : Option Row) = some (nm, some ab) := h; cases h
      · exact ⟨_, S.own "input" (List.mem_cons_self ..), fun H1 pl as Q E s hpl ha q => ⟨pi, pl, _, _, rfl, sqT_same i1 s, (q H1 (Same.refl _)).1 rfl a (i2.same s) (i3.same s)⟩⟩
      · exact ⟨_, I.input, fun H1 pg us Q s hpg hD q => ⟨_, pi, pg, _, lo, hi, rfl, sqT_same i1 s, q⟩⟩
    | const sh ns =>
      obtain ⟨a, pd, i1, i2, i3, i4⟩ := hpi
      obtain ⟨g1, g2, g3, g4, g5, g6⟩ := hg
      cases hd
      have hns : ns ≠ [] := g4
      refine dom_of (d := ⟨sh, lst ns, grt ns⟩) FT hpn hpa i1 hpt hD hdl har hlt hG ⟨rfl, fun j nm ab h => ?_, 0, pre0 (by show ("const" : Str) ≠ "input"; decide +kernel) (by show ("const" : Str) ≠ "clamp"; decide +kernel), fR rfl⟩ (fun _ => ⟨a, pd, sh, ns, rfl, i2, (chk_zero.mp g1).2.2.1.mod, i4, g3⟩) g1 ?_ ?_ ?_ ?_ q
      · match j, h with
        | 0, h => cases h
        | 1, h => cases h
        | j + 2, h => have h : (none : Option Row) = some (nm, some ab) := h; cases h
      · show -W200 ≤ lst ns
        have := (g6 _ (lst_mem ns hns)).1
        omega
      · show grt ns ≤ W200
        have := (g6 _ (grt_mem ns hns)).2
        omega
      · exact ⟨_, S.own "const" (List.mem_cons_of_mem _ (List.mem_cons_self ..)), fun H1 pl as Q E s hpl ha q => ⟨pi, pl, _, _, rfl, sqT_same i1 s, (q H1 (Same.refl _)).1 rfl a (i2.same s) (i3.same s)⟩⟩
      · exact ⟨_, I.const, fun H1 pg us Q s hpg hD q => ⟨_, pi, pg, pd, _, ns, rfl, sqT_same i1 s, sqT_same i4 s, hns, q⟩⟩
  · have hl : gs.length = arN nd := by rw [hG.1]; exact har
    obtain ⟨e1, e2, e3, e4, e5, e6, e7, e8⟩ := lawD_link hc hg hl hgm hd
    obtain ⟨sh, hsh⟩ : ∃ sh, shapeL nd gs = some sh := by
      cases e : shapeL nd gs with
      | none => rw [lawD_compu hc, e] at hd; cases hd
      | some sh => exact ⟨sh, rfl⟩
    have hfi : Fine sh := by
      rw [lawD_compu hc, hsh] at hd
      have hd : finL nd gs sh = some d := hd
      unfold finL at hd
      split at hd
      · cases hd
      · split at hd
        · rename_i h
          exact Fine_of h
        · cases hd
    have hS := sh_link S hc hg hl hgm hpi
    rw [e1] at hS
    have hI := iv_link I hc hg hl hgm hsh hpi
    rw [← e6, ← e7] at hI
    have hnc := (compu_nm hc).2
    refine dom_of FT hpn hpa (info_fs hc hpi) hpt hD hdl har hlt hG (fs_ok hc hg fun l m x y as e => ?_) (fun e => absurd e hnc) e2 e4 e5 hS hI q
    subst e
    obtain ⟨g, rfl⟩ := one_of hl
    exact fold_size (as := as) hsh hfi
end
section
variable {P : Program} {w : World} {K : PySem.W.Frag} {mg : Str → Option Value} {base : Heap}
def spDomQ (P : Program) (w : World) (K : PySem.W.Frag) (mg : Str → Option Value) (base : Heap) (C : Nat → Addr) (aA aF aR aS aI : Addr) : Sp := fun vs H Q E => ∃ (pn pd pa pi : Addr) (kind : Str) (args : List Int) (fs us : List V) (ds : List Dom),
  vs = [.ref pn, .ref pd] ∧ SqT K H pn [.str kind, .ref pa, .ref pi] ∧ SqT K H pa (args.map V.int) ∧ SqT K H pi fs ∧ SqL K H pd us ∧ Dms K H us ds ∧ us.length ≤ 1000 ∧ args.length ≤ 1000 ∧ kind.length ≤ 100 ∧
  ((PySem.W.nsIn K aF kind = some none ∧ E (.ref (C 5)) none H) ∨ ∃ (n : Nat) (names : List Str) (cok : Bool), Kn K w aA aF kind n names ∧
    (kind = "const" → fs.length = names.length → ∃ (ps pd : Addr) (sh : Sh) (ns : List Int), fs = [.ref ps, .ref pd] ∧ ShT K H ps sh ∧ Mod sh ∧ SqT K H pd (ns.map V.int) ∧ cok = decide ((ns.length : Int) = prod (sizes sh))) ∧ (kind ≠ "const" → cok = true) ∧
    (formR n names cok args fs.length (us.length : Int) = 6 → E (.ref (C 6)) none H) ∧ (formR n names cok args fs.length (us.length : Int) = 0 → ∃ (nr : List (Str × Option (Int × Int))) (pre : Nat), FldK K w aF aR kind nr fs pre ∧
      (fieldsR pre nr fs = 3 → ∀ H', Same H H' → E (.ref (C 3)) none H') ∧ (fieldsR pre nr fs = 0 → ∃ (gs : List Dom) (r : Nat × Sh) (lo hi : Int), Given args ds gs ∧ r.2.length ≤ 16 ∧ Mod r.2 ∧ ShMk P w K mg base C aS kind H pi gs r ∧ (r.1 = 0 → chk r.2 = 0 → IvMk P w K mg base aI kind H pi gs lo hi) ∧
        ∀ H', Same H H' → (endR r lo hi = 0 → ∀ v, DmAt K H' v ⟨r.2, lo, hi⟩ → Q v H') ∧ ∀ k, endR r lo hi = k + 1 → E (.ref (C (k + 1))) none H')))
theorem ok_domainQ {f aA aF aR aS aI : Addr} {C : Nat → Addr} {fd : FuncData} (F : Fun K "domain_of" "domain_of" sdomain_of f fd) (R7 : ErrR K mg "TooWide" (C 7)) (ml : mg "len" = none) (l1 : ∃ u, mg "WIDTH_LIMIT" = some u ∧ RelV (.int 200) u)
    (GFM : FnOk P w K mg base (L2.CX P w) 2 fFM fdFM ["kind", "args", "info", "many"] (spForm K w C aA aF)) (kFM : PySem.W.keepIn K (.ref fFM) = true) (bFM : Binds K fdFM ["kind", "args", "info", "many"] []) (gFM : mg "_check_form" = some (.ref fFM))
    (GFD : FnOk P w K mg base (L2.CX P w) 2 fFD fdFD ["kind", "info"] (spFields K w C aF aR)) (kFD : PySem.W.keepIn K (.ref fFD) = true) (bFD : Binds K fdFD ["kind", "info"] []) (gFD : mg "check_fields" = some (.ref fFD))
    (GSO : FnOk P w K mg base (L2.CX P w) 5 fSO fdSO ["kind", "info", "shapes"] (spSof P w K mg base C aS)) (kSO : PySem.W.keepIn K (.ref fSO) = true) (bSO : Binds K fdSO ["kind", "info", "shapes"] []) (gSO : mg "shape_of_result" = some (.ref fSO))
    (GIO : FnOk P w K mg base CX0 5 fIO fdIO ["kind", "info", "given"] (spIvOf P w K mg base aI)) (kIO : PySem.W.keepIn K (.ref fIO) = true) (bIO : Binds K fdIO ["kind", "info", "given"] []) (gIO : mg "interval_of" = some (.ref fIO))
    : FnOk P w K mg base (L2.CX P w) 6 f fd ["node", "domains"] (spDomQ P w K mg base C aA aF aR aS aI) := by
  obtain ⟨u1, gl1, rl1⟩ := l1
  refine F.okX scDom (fun vs H Q E h => ?_) (fun cdv A outer s H vs Q E hr h => ?_)
  · obtain ⟨pn, pd, pa, pi, kind, args, fs, us, ds, rfl, _⟩ := h
    rfl
  · obtain ⟨pn, pd, pa, pi, kind, args, fs, us, ds, rfl, hpn, hpa, hpi, hpd, hD, hul, hal, hkl, q⟩ := h
    have hr2 : Room 2 _ := hr.mono (by decide)
    refine ⟨_, (pss_cons (ps_asg (pv 0) (pg_tup rfl (pgs_cons (pg_name (i := 2) scDom.nd rfl (.inl rfl)) (pgs_cons (pg_name (i := 3) scDom.nd rfl (.inl rfl)) (pgs_cons (pg_name (i := 4) scDom.nd rfl (.inl rfl)) pgs_nil)))))
      (pss_cons (ps_expr (pe_callS GFM hr2 (by rfl) gFM kFM bFM (fun σ => passAt (takes_of rfl rfl rfl rfl) σ) (pa_cons (pv 2) (pa_cons (pv 3) (pa_cons (pv 4) (pa_cons (pe_callB call_len_seq (by rfl) ml PySem.boot_len (pa_cons (pv 1) pa_nil)) pa_nil))))))
      (pss_cons (ps_expr (pe_callS GFD hr2 (by rfl) gFD kFD bFD (fun σ => passAt (takes_of rfl rfl rfl rfl) σ) (pa_cons (pv 2) (pa_cons (pv 4) pa_nil))))
      (pss_cons (ps_setLc (i := 5) (own := [("arg", 9)]) (g := gName 9) (tt := tYes) (te := tOp (rIxL K) (tVar 1) (tVar 9)) (by rfl) scDom.nd rfl rfl (sw_true rfl rfl rfl (by decide +kernel)) (pi_tup (pv 3)) (blkOk_by (N := nDom) (sc := defScope sdomain_of) (by decide +kernel)) (fun _ _ _ _ _ => pg_name (i := 9) scDom.nd rfl (.inl rfl)) (fun _ _ _ _ _ => pts_nil) (fun _ _ _ _ _ => pe_ix ix_list (pv 1) (pv 9) (fun _ _ => rfl)))
      (pss_cons (ps_set (i := 6) scDom.nd rfl (.inl rfl) (pe_callS GSO hr (by rfl) gSO kSO bSO (fun σ => passAt (takes_of rfl rfl rfl rfl) σ) (pa_cons (pv 2) (pa_cons (pv 4) (pa_cons (pe_lc (own := [("domain", 10)]) (g := gName 10) (tt := tYes) (te := tOp (rIxT K) (tVar 10) (tC (.int 0))) rfl scDom.nd (pi_list (pv 5)) (blkOk_by (N := nDom) (sc := defScope sdomain_of) (by decide +kernel)) (fun _ _ _ _ _ => pg_name (i := 10) scDom.nd rfl (.inl rfl) (hf := Or.inr rfl)) (fun _ _ _ _ _ => pts_nil) (fun _ _ _ _ _ => pe_ix ix_tup (pv 10) pe_int (fun _ _ => rfl))) pa_nil)))))
      (pss_cons (ps_asg (pe_call GIO hr (by rfl) gIO kIO bIO .nil pass0 (pa_cons (pv 2) (pa_cons (pv 4) (pa_cons (pv 5) pa_nil)))) (pg_tup rfl (pgs_cons (pg_name (i := 7) scDom.nd rfl (.inl rfl)) (pgs_cons (pg_name (i := 8) scDom.nd rfl (.inl rfl)) pgs_nil))))
      (pss_cons (ps_if (PW.pt (pw_or (pt_cmpR op_lt (pv 7) (pe_un un_neg (pe_op op_shl pe_int (pe_glob (v := .int 200) (by rfl) gl1 rl1))) (nomark _)) (pw_or1 (pt_cmpR op_gt (pv 8) (pe_op op_shl pe_int (pe_glob (v := .int 200) (by rfl) gl1 rl1)) (nomark _))))) (pss_one (ps_raise rfl (takes_of rfl rfl rfl rfl) (pmk_own PySem.F.excBase_ValueError R7.x R7.g R7.k (raises_own R7.b R7.t) rfl))) pss_nil)
      (pss_one (ps_ret (pe_tup (pa_cons (pv 6) (pa_cons (pv 7) (pa_cons (pv 8) pa_nil))))))))))))), ?_⟩
    refine ⟨_, rfl, pn, _, rfl, hpn, rfl, _, _, rfl, _, _, rfl, _, _, rfl, rfl, ?_⟩
    refine ⟨_, rfl, _, rfl, _, rfl, _, rfl, pd, _, rfl, .inl hpd, kind, pa, pi, (us.length : Int), args, fs, rfl, hpa, hpi, hkl, ?_⟩
    rcases q with q | ⟨n, names, cok, kn, hc1, hc2, q6, q⟩
    · exact .inl q
    refine .inr ⟨n, names, cok, kn, hc1, hc2, fun e0 => ?_, q6⟩
    obtain ⟨nr, pre, fk, q3, q⟩ := q e0
    refine ⟨_, rfl, _, rfl, kind, pi, fs, nr, pre, rfl, hpi, fk, fun H1 s1 => ⟨fun e1 => ?_, fun e3 => q3 e3 H1 s1⟩⟩
    obtain ⟨gs, r, lo, hi, hG, hrl, hrm, hSm, hIm, q⟩ := q e1
    -- given
    refine ⟨_, rfl, pa, rfl, ⟨_, sqT_same hpa s1⟩, fun D nD => lc_tup (K := K) (a := pa) (xs := args.map V.int) (fun i H' => ∃ ws : List V, Same H1 H' ∧ H' D = some (.lst ws) ∧ ws.length = i ∧ ∀ (j : Nat) (v : V) (d : Dom), ws[j]? = some v → gs[j]? = some d → DmAt K H' v d)
      ⟨[], same_upd nD, upd_same, rfl, fun j v d h => by simp at h⟩ (fun i H' _ ⟨_, e, _⟩ => sqT_same hpa (s1.trans e)) ?_ ?_⟩
    · rintro i x H' hi' ⟨ws, sm, hDl, hwl, hws⟩
      obtain ⟨a, rfl, ha⟩ := map_int_at hi'
      obtain ⟨d, hd1, hd2⟩ := hG.2 i a ha
      have hall : 0 ≤ a ∧ a < (us.length : Int) := by
        unfold formR at e0
        split at e0
        · cases e0
        · split at e0
          · cases e0
          · split at e0
            · cases e0
            · split at e0
              · rename_i h
                rw [List.all_eq_true] at h
                have := h a (List.mem_of_getElem? ha)
                rw [Bool.and_eq_true] at this
                exact ⟨of_decide_eq_true this.1, of_decide_eq_true this.2⟩
              · cases e0
      obtain ⟨an, rfl⟩ : ∃ an : Nat, a = (an : Int) := ⟨a.toNat, by omega⟩
      rw [Int.toNat_natCast] at hd1
      have hul2 : an < us.length := by omega
      have hua : us[an]? = some us[an] := List.getElem?_eq_getElem hul2
      have hdv := hD.2 an us[an] d hua hd1
      have hil : i < args.length := (List.getElem?_eq_some_iff.mp ha).1
      refine ⟨rfl, ?_⟩
      unfold tYes
      dsimp only
      rw [if_pos rfl]
      refine ⟨_, rfl, _, rfl, pd, _, an, _, rfl, rfl, sqL_same hpd (s1.trans sm), atI_nat hua, _, hDl, ?_, ws ++ [us[an]], fun b o e => by rw [upd_ne (ne_of_none e nD)]; exact sm _ _ e, upd_same, by rw [List.length_append, hwl]; rfl, fun j v d' h1 h2 => ?_⟩
      · rw [hwl]
        exact small1000 (by omega)
      · have nlu : NL H' (upd H' D (.lst (ws ++ [us[an]]))) := nl_upd hDl
        by_cases hj : j < ws.length
        · rw [List.getElem?_append_left hj] at h1
          exact (hws j v d' h1 h2).keep nlu
        · rw [List.getElem?_append_right (by omega)] at h1
          cases z : j - ws.length with
          | zero =>
            rw [z] at h1
            have e1 : us[an] = v := Option.some.inj h1
            subst e1
            have ej : j = i := by omega
            subst ej
            rw [hd2] at h2
            cases h2
            exact (hdv.same (s1.trans sm)).keep nlu
          | succ m =>
            rw [z] at h1
            simp at h1
    · rintro H2 ⟨ws, s2, hDl, hwl, hws⟩
      have hal2 : (args.map V.int).length = gs.length := by rw [List.length_map, hG.1]
      have hDws : Dms K H2 ws gs := ⟨by rw [hwl, hal2], hws⟩
      have hgl : gs.length ≤ 1000 := by rw [hG.1]; exact hal
      -- the shapes
      refine ⟨_, rfl, _, rfl, _, rfl, D, rfl, ⟨_, SqL.of hDl⟩, fun D2 nD2 => lc_list (K := K) (a := D) (xs := ws) (fun i H' => ∃ as : List Addr, Same H2 H' ∧ H' D2 = some (.lst (as.map V.ref)) ∧ as.length = i ∧ ∀ (j : Nat) (a : Addr) (d : Dom), as[j]? = some a → gs[j]? = some d → ShT K H2 a d.sh ∧ NoD K H2 a)
        ⟨[], same_upd nD2, upd_same, rfl, fun j v d h => by simp at h⟩ (fun i H' _ ⟨_, e, _⟩ => SqL.of (e _ _ hDl)) ?_ ?_⟩
      · rintro i x H' hi' ⟨as, sm, hD2l, hasl, has⟩
        have hil : i < gs.length := by rw [← hDws.1]; exact (List.getElem?_eq_some_iff.mp hi').1
        have hdi : gs[i]? = some gs[i] := List.getElem?_eq_getElem hil
        obtain ⟨p, a, rfl, h1, h2, h3⟩ := hDws.2 i x gs[i] hi' hdi
        refine ⟨rfl, ?_⟩
        unfold tYes
        dsimp only
        rw [if_pos rfl]
        refine ⟨_, rfl, p, _, (0 : Nat), _, rfl, rfl, sqT_same h1 sm, i0, _, hD2l, ?_, as ++ [a], fun b o e => by rw [upd_ne (ne_of_none e nD2)]; exact sm _ _ e, by rw [upd_same, List.map_append]; rfl, by rw [List.length_append, hasl]; rfl, fun j v d' k1 k2 => ?_⟩
        · rw [List.length_map, hasl]
          exact small1000 (by omega)
        · by_cases hj : j < as.length
          · rw [List.getElem?_append_left hj] at k1
            exact has j v d' k1 k2
          · rw [List.getElem?_append_right (by omega)] at k1
            cases z : j - as.length with
            | zero =>
              rw [z] at k1
              have e1 : a = v := Option.some.inj k1
              subst e1
              have ej : j = i := by omega
              subst ej
              rw [hdi] at k2
              cases k2
              exact ⟨h2, h3⟩
            | succ m =>
              rw [z] at k1
              simp at k1
      · rintro H3 ⟨as, s3, hD2l, hasl, has⟩
        have s12 := s1.trans s2
        have s13 := s12.trans s3
        have hSh : ShsAt K H3 as gs := ⟨by rw [hasl, hDws.1], fun i a d k1 k2 => ⟨(has i a d k1 k2).1.same s3, (has i a d k1 k2).2.same s3⟩⟩
        obtain ⟨spS, hMS, hspS⟩ := hSm
        refine ⟨kind, pi, D2, spS, rfl, hMS, fun Q' hQ' => hspS H3 D2 as Q' _ s13 (SqL.of hD2l) hSh fun H4 s4 => ⟨fun er p hS hN => ?_, fun k ek => ?_⟩⟩
        · refine hQ' H4 p r.2 hS hrl hrm fun H5 s5 => ⟨fun ec => ?_, fun k ek => ?_⟩
          · -- the interval
            have s15 := (s13.trans s4).trans s5
            obtain ⟨spI, hMI, hspI⟩ := hIm er ec
            refine ⟨_, rfl, _, rfl, _, rfl, kind, pi, D, spI, rfl, hMI, hspI H5 D ws _ s15 (SqL.of (((s3.trans s4).trans s5) _ _ hDl)) (hDws.same ((s3.trans s4).trans s5)) fun H6 p6 s6 hp6 => ?_⟩
            have s16 := s15.trans s6
            refine ⟨p6, _, rfl, hp6, rfl, _, _, rfl, _, _, rfl, rfl, ?_⟩
            have hend : endR r lo hi = if lo < -W200 ∨ W200 < hi then 7 else 0 := by
              unfold endR
              rw [if_neg (fun h => h er), if_neg (fun h => h ec)]
            refine ⟨_, rfl, _, _, rfl, rfl, ⟨by decide, by decide, by decide⟩, _, rfl, _, _, rfl, rfl, _, rfl, ite2 (fun e6 => iteT ?_) (fun e6 => ?_)⟩
            · exact (q _ s16).2 6 (by rw [hend, if_pos (.inl (of_decide_eq_true e6))])
            · refine ⟨_, rfl, _, _, rfl, rfl, ⟨by decide, by decide, by decide⟩, _, _, rfl, rfl, _, rfl, ite2 (fun e7 => ?_) (fun e7 => ?_)⟩
              · exact (q _ s16).2 6 (by rw [hend, if_pos (.inr (of_decide_eq_true e7))])
              · refine ⟨_, rfl, _, rfl, _, rfl, by show 3 ≤ sizeLine; decide, fun p7 np7 => ?_⟩
                refine (q _ (s16.trans (same_upd np7))).1 ?_ _ ⟨p7, p, rfl, SqT.of upd_same, ((hS.same s5).same s6).same (same_upd np7), ((hN.same s5).same s6).same (same_upd np7)⟩
                rw [hend, if_neg]
                rintro (h | h)
                · exact e6 (decide_eq_true h)
                · exact e7 (decide_eq_true h)
          · refine (q _ ((s13.trans s4).trans s5)).2 k ?_
            unfold endR
            rw [if_neg (fun h => h er), if_pos (by rw [ek]; exact Nat.succ_ne_zero k), ek]
        · refine (q _ (s13.trans s4)).2 k ?_
          unfold endR
          rw [if_pos (by rw [ek]; exact Nat.succ_ne_zero k), ek]
end
section
variable {P : Program} {w : World} {K : PySem.W.Frag} {mg : Str → Option Value} {base : Heap}
/-- what the law asks of domain_of -/
def spDomLQ (K : PySem.W.Frag) : Sp := fun vs H Q _ => ∃ (v : V) (pt : Addr) (nd : Nd) (us : List V) (ds gs : List Dom) (d : Dom), vs = [v, .ref pt] ∧ NdAt K H v nd ∧ SqL K H pt us ∧ Dms K H us ds ∧ ds.length ≤ 1000 ∧ GoodN nd ds.length ∧ GivenN nd.args ds gs ∧ (∀ g ∈ gs, GD g) ∧ lawD nd gs = some d ∧ GD d ∧
  ∀ H' u, Same H H' → DmAt K H' u d → Q u H'
end
section
variable {P : Program} {w : World} {K : PySem.W.Frag} {mg : Str → Option Value} {base : Heap} {C : Nat → Addr} {aA aF aR aS aI aM : Addr}
/-- what spDom asks, beyond the addresses -/
theorem dom_ofQ (FT : FormT w K aA aF aR) {nd : Nd} {H : Hp} {pn pa pi pt : Addr} {fs us : List V} {ds gs : List Dom} {d : Dom} {Q : VK} {E : XK}
    (hpn : SqT K H pn [.str nd.nm, .ref pa, .ref pi]) (hpa : SqT K H pa ((asInts nd.args).map V.int)) (hpi : SqT K H pi fs) (hpt : SqL K H pt us) (hD : Dms K H us ds) (hdl : ds.length ≤ 1000)
    (hal : nd.args.length = arN nd) (hlt : ∀ a ∈ nd.args, a < ds.length) (hG : GivenN nd.args ds gs) (hfs : FsOk nd.nm (rowOf nd).2 fs)
    (hco : nd.nm = "const" → ∃ (ps pd : Addr) (sh : Sh) (ns : List Int), fs = [.ref ps, .ref pd] ∧ ShT K H ps sh ∧ Mod sh ∧ SqT K H pd (ns.map V.int) ∧ (ns.length : Int) = prod (sizes sh))
    (hck : chk d.sh = 0) (hlo : -W200 ≤ d.lo) (hhi : d.hi ≤ W200) (hS : ShMk P w K mg base C aS nd.nm H pi gs (0, d.sh)) (hI : IvMk P w K mg base aI nd.nm H pi gs d.lo d.hi)
    (q : ∀ H' u, Same H H' → DmAt K H' u d → Q u H') : spDomQ P w K mg base C aA aF aR aS aI [.ref pn, .ref pt] H Q E := by
  have hrow := row_in nd
  have kn := FT.kn _ hrow
  have hul : us.length = ds.length := hD.1
  have ha3 := arN_le nd
  have hkl : nd.nm.length ≤ 100 := by
    have : ∀ r ∈ KT, r.1.length ≤ 100 := by decide +kernel
    exact this _ hrow
  obtain ⟨pre, hpre, hfR⟩ := hfs.p
  obtain ⟨c1, c2, c3, c4⟩ := chk_zero.mp hck
  have hform : formR (rowOf nd).1 ((rowOf nd).2.map (·.1)) true (asInts nd.args) fs.length (us.length : Int) = 0 := by
    unfold formR
    rw [if_neg (by rw [asInts, List.length_map, row_len]; exact fun z => z hal), if_neg (by rw [List.length_map, hfs.l]; exact fun z => z rfl), if_neg (by decide), if_pos]
    rw [List.all_eq_true]
    intro a ha
    obtain ⟨k, hk, rfl⟩ := List.mem_map.mp ha
    have := hlt k hk
    rw [Bool.and_eq_true, decide_eq_true_iff, decide_eq_true_iff]
    omega
  have hend : endR (0, d.sh) d.lo d.hi = 0 := by
    unfold endR
    rw [if_neg (show ¬ (0 : Nat) ≠ 0 by decide), if_neg (show ¬ chk d.sh ≠ 0 by rw [hck]; decide), if_neg (by omega)]
  refine ⟨pn, pt, pa, pi, nd.nm, asInts nd.args, fs, us, ds, rfl, hpn, hpa, hpi, hpt, hD, by omega, by rw [asInts, List.length_map]; omega, hkl, .inr ⟨(rowOf nd).1, (rowOf nd).2.map (·.1), true, kn, fun e _ => ?_, fun _ => rfl, fun e => (by rw [hform] at e; cases e), fun _ => ⟨(rowOf nd).2, pre, ⟨?_, hfs.l, FT.rg _ hrow, hfs.i, hpre⟩, fun e => (by rw [hfR] at e; cases e), fun _ => ⟨gs, (0, d.sh), d.lo, d.hi, ⟨?_, fun i a h => ?_⟩, ?_, c3.mod, hS, fun _ _ => hI, fun H' s => ⟨fun _ v hv => q H' v s hv, fun k e => (by rw [hend] at e; cases e)⟩⟩⟩⟩⟩
  · obtain ⟨ps, pd, sh, ns, e1, e2, e3, e4, e5⟩ := hco e
    exact ⟨ps, pd, sh, ns, e1, e2, e3, e4, (decide_eq_true e5).symm⟩
  · exact kn.f
  · rw [asInts, List.length_map]
    exact hG.1
  · unfold asInts at h
    rw [List.getElem?_map] at h
    obtain ⟨k, hk, rfl⟩ := Option.map_eq_some_iff.mp h
    obtain ⟨g, e1, e2⟩ := hG.2 i k hk
    exact ⟨g, by rw [Int.toNat_natCast]; exact e1, e2⟩
  · show d.sh.length ≤ 16
    omega
theorem linkQ (FT : FormT w K aA aF aR) (S : ShapeT P w K mg base C aS) (I : IvT P w K mg base aI aM) : ∀ vs H Q E, spDomLQ K vs H Q E → spDomQ P w K mg base C aA aF aR aS aI vs H Q E := by
  rintro vs H Q E ⟨v, pt, nd, us, ds, gs, d, rfl, ⟨pn, pa, pi, rfl, hpn, hpa, hpi⟩, hpt, hD, hdl, hgn, hG, hgm, hd, hgd, q⟩
  have hW : (10000000000 : Int) ≤ W200 := by decide +kernel
  rcases hgn with hg | ⟨hc, hg, har, hlt⟩
  · obtain ⟨x1, x2, x3⟩ := hg.args
    have hgs : gs = [] := List.length_eq_zero_iff.mp (by rw [hG.1, x1]; rfl)
    subst hgs
    have har : nd.args.length = arN nd := by rw [x1, x2]; rfl
    have hlt : ∀ a ∈ nd.args, a < ds.length := fun a h => by rw [x1] at h; cases h
    cases nd with
    | bc _ _ => exact hg.elim
    | dot _ _ => exact hg.elim
    | mv _ _ => exact hg.elim
    | input sh lo hi =>
      obtain ⟨a, i1, i2, i3⟩ := hpi
      obtain ⟨g1, g2, g3, g4, g5⟩ := hg
      cases hd
      refine dom_ofQ (d := ⟨sh, lo, hi⟩) FT hpn hpa i1 hpt hD hdl har hlt hG ⟨rfl, fun j nm ab h => ?_, 0, ⟨fun _ => ⟨_, lo, hi, rfl, by rw [if_neg (by omega)]⟩, fun z => absurd z (by show ("input" : Str) ≠ "clamp"; decide +kernel), fun _ _ => rfl⟩, fR rfl⟩ (fun e => absurd e (by show ("input" : Str) ≠ "const"; decide +kernel)) g1 (show -W200 ≤ lo by omega) (show hi ≤ W200 by omega) ?_ ?_ q
      · match j, h with
        | 0, h => cases h
        | 1, h => cases h
        | 2, h => cases h
        | j + 3, h => have h : (none : Option Row) = some (nm, some ab) := h; cases h
      · exact ⟨_, S.own "input" (List.mem_cons_self ..), fun H1 pl as Q E s hpl ha q => ⟨pi, pl, _, _, rfl, sqT_same i1 s, (q H1 (Same.refl _)).1 rfl a (i2.same s) (i3.same s)⟩⟩
      · exact ⟨_, I.input, fun H1 pg us Q s hpg hD q => ⟨_, pi, pg, _, lo, hi, rfl, sqT_same i1 s, q⟩⟩
    | const sh ns =>
      obtain ⟨a, pd, i1, i2, i3, i4⟩ := hpi
      obtain ⟨g1, g2, g3, g4, g5, g6⟩ := hg
      cases hd
      have hns : ns ≠ [] := g4
      refine dom_ofQ (d := ⟨sh, lst ns, grt ns⟩) FT hpn hpa i1 hpt hD hdl har hlt hG ⟨rfl, fun j nm ab h => ?_, 0, pre0 (by show ("const" : Str) ≠ "input"; decide +kernel) (by show ("const" : Str) ≠ "clamp"; decide +kernel), fR rfl⟩ (fun _ => ⟨a, pd, sh, ns, rfl, i2, (chk_zero.mp g1).2.2.1.mod, i4, g3⟩) g1 ?_ ?_ ?_ ?_ q
      · match j, h with
        | 0, h => cases h
        | 1, h => cases h
        | j + 2, h => have h : (none : Option Row) = some (nm, some ab) := h; cases h
      · show -W200 ≤ lst ns
        have := (g6 _ (lst_mem ns hns)).1
        omega
      · show grt ns ≤ W200
        have := (g6 _ (grt_mem ns hns)).2
        omega
      · exact ⟨_, S.own "const" (List.mem_cons_of_mem _ (List.mem_cons_self ..)), fun H1 pl as Q E s hpl ha q => ⟨pi, pl, _, _, rfl, sqT_same i1 s, (q H1 (Same.refl _)).1 rfl a (i2.same s) (i3.same s)⟩⟩
      · exact ⟨_, I.const, fun H1 pg us Q s hpg hD q => ⟨_, pi, pg, pd, _, ns, rfl, sqT_same i1 s, sqT_same i4 s, hns, q⟩⟩
  · have hl : gs.length = arN nd := by rw [hG.1]; exact har
    obtain ⟨e1, e2, e3, e4, e5, e6, e7, e8⟩ := lawD_link hc hg hl hgm hd
    obtain ⟨sh, hsh⟩ : ∃ sh, shapeL nd gs = some sh := by
      cases e : shapeL nd gs with
      | none => rw [lawD_compu hc, e] at hd; cases hd
      | some sh => exact ⟨sh, rfl⟩
    have hfi : Fine sh := by
      rw [lawD_compu hc, hsh] at hd
      have hd : finL nd gs sh = some d := hd
      unfold finL at hd
      split at hd
      · cases hd
      · split at hd
        · rename_i h
          exact Fine_of h
        · cases hd
    have hS := sh_link S hc hg hl hgm hpi
    rw [e1] at hS
    have hI := iv_link I hc hg hl hgm hsh hpi
    rw [← e6, ← e7] at hI
    have hnc := (compu_nm hc).2
    refine dom_ofQ FT hpn hpa (info_fs hc hpi) hpt hD hdl har hlt hG (fs_ok hc hg fun l m x y as e => ?_) (fun e => absurd e hnc) e2 e4 e5 hS hI q
    subst e
    obtain ⟨g, rfl⟩ := one_of hl
    exact fold_size (as := as) hsh hfi
end

/-! ### zip of a tuple and a list -/
section
open PySem.Spec PyProof.Rows
/-- the tuple at a and the list at b as they stand at each turn, the items in new pairs -/
def ItzM (K : PySem.W.Frag) (a b : Addr) : It :=
  ⟨fun i H => ∃ (xs ys : List V) (x y : V), SqT K H a xs ∧ SqL K H b ys ∧ xs[i]? = some x ∧ ys[i]? = some y,
    fun i H v H' => ∃ T x y, v = .ref T ∧ H T = none ∧ H' = upd H T (.tup [x, y]) ∧ (∀ xs, SqT K H a xs → xs[i]? = some x) ∧ ∀ ys, SqL K H b ys → ys[i]? = some y,
    fun i H => ∃ xs ys : List V, SqT K H a xs ∧ SqL K H b ys ∧ xs.length = ys.length ∧ xs.length = i⟩
theorem sepM {z TI TO i1 i2 a b : Addr} (D : ZipApart z TI TO i1 i2 a b) : ZipSep2 z TI TO i1 i2 [i1, a] [i2, b] where
  TIz := D.TIz
  TOz := D.TOz
  TITO := D.TITO
  TIi1 := D.TIi1
  mem1 := List.mem_cons_self ..
  zf1 := by simp only [List.mem_cons, List.not_mem_nil, or_false, not_or]; exact ⟨D.i1z.symm, D.l1z.symm⟩
  Tf1 := by simp only [List.mem_cons, List.not_mem_nil, or_false, not_or]; exact ⟨D.TOi1, D.l1TO.symm⟩
  TIi2 := D.TIi2
  mem2 := List.mem_cons_self ..
  zf2 := by simp only [List.mem_cons, List.not_mem_nil, or_false, not_or]; exact ⟨D.i2z.symm, D.l2z.symm⟩
  Tf2 := by simp only [List.mem_cons, List.not_mem_nil, or_false, not_or]; exact ⟨D.TOi2, D.l2TO.symm⟩
  sep1_2 := by simp only [List.mem_cons, List.not_mem_nil, or_false, not_or]; exact ⟨D.i12, D.l2i1.symm⟩
  sep2_1 := by simp only [List.mem_cons, List.not_mem_nil, or_false, not_or]; exact ⟨D.i12.symm, D.l1i2.symm⟩
theorem turn_zipM {P : Program} {w : World} {K : PySem.W.Frag} {elts : List Expr} {kk : Nat} {tpos : Pos} {a b z TI TO i1 i2 : Addr} (D : ZipApart z TI TO i1 i2 a b) :
    Turn P w K (.Tuple elts kk tpos) (ItzM K a b) [z, TI, TO, i1, i2] z (fun i h => IsZip h z TI TO .none ∧ IsTupOf2 h TI (.ref i1) (.ref i2) ∧ (∃ x y, IsTupOf2 h TO x y) ∧ h.IsTupleIter i1 a i ∧ h.IsListIter i2 b i) where
  mem := by simp
  obj := fun i h st c hc => by
    obtain ⟨hz, hTI, ⟨x, y, hTO⟩, ⟨o1, e1, _, d1⟩, ⟨o2, e2, _, d2⟩⟩ := st
    have e' : c = z ∨ c = TI ∨ c = TO ∨ c = i1 ∨ c = i2 := by simpa using hc
    rcases e' with q | q | q | q | q
    · rw [q]; exact ⟨_, hz, fun v q => nomatch q⟩
    · rw [q]; exact ⟨_, hTI, fun v q => nomatch q⟩
    · rw [q]; exact ⟨_, hTO, fun v q => nomatch q⟩
    · rw [q]; exact ⟨o1, e1, fun v q => by rw [d1] at q; cases q⟩
    · rw [q]; exact ⟨o2, e2, fun v q => by rw [d2] at q; cases q⟩
  keep := fun i h h' st k => by
    obtain ⟨hz, hTI, ⟨x, y, hTO⟩, h1, h2⟩ := st
    exact ⟨k z (by simp) _ hz, k TI (by simp) _ hTI, ⟨x, y, k TO (by simp) _ hTO⟩, h1.at fun o q => k i1 (by simp) o q, h2.at fun o q => k i2 (by simp) o q⟩
  item := by
    intro X hP hw hK hc i pins s σ H E I hf st hg
    subst hP hw hK
    obtain ⟨hz, hTI, hTO, h1, h2⟩ := st
    obtain ⟨xs, ys, x, y, hqx, hqy, hx, hy⟩ := hg
    obtain ⟨its, rv, p, _⟩ := I.tuple hqx
    obtain ⟨its2, rv2, p2, _⟩ := I.list hqy
    obtain ⟨u, hu, ru⟩ := rv.get hx
    obtain ⟨u2, hu2, ru2⟩ := rv2.get hy
    have hu' : its.toArray[i]? = some u := by simpa using hu
    have hu2' : its2.toArray[i]? = some u2 := by simpa using hu2
    have hl1 : i < its.toArray.size := (Array.getElem?_eq_some_iff.mp hu').1
    have hl2 : i < its2.toArray.size := (Array.getElem?_eq_some_iff.mp hu2').1
    have hh : X.A.in1.handled = none := I.ok.hd hc
    have W := WalksT.zipD2 (prog := X.prog) (w := X.w) (A := X.A) (sepM D) (Draws.tuple hh i1 a D.l1i1 its.toArray) (Draws.list hh i2 b D.l2i2 its2.toArray)
    refine W.item i s _ _ (by omega) ⟨hz, hTI, hTO, ⟨h1, p⟩, ⟨h2, p2.isList⟩⟩ fun T vals h' tk hPt hT hTt hMid hk => ?_
    obtain ⟨v1, v2, e1, e2, rfl⟩ := hPt
    have e1 : its.toArray[i]? = some v1 := e1
    have e2 : its2.toArray[i]? = some v2 := e2
    rw [hu'] at e1
    rw [hu2'] at e2
    cases e1
    cases e2
    refine ⟨_, rfl, W.go elts kk tpos i T { s with heap := h', toks := tk } _ _ hMid fun h'' hSt hk2 => ?_⟩
    have hTw := W.apart _ _ _ hMid
    have hwr : ∀ c, c ∉ [z, TI, TO, i1, i2] → c ∉ [z, TO, i1, i2] := fun c h1 h2 => h1 (by
      simp only [List.mem_cons, List.not_mem_nil, or_false] at h2 ⊢
      rcases h2 with q | q | q | q
      · exact .inl q
      · exact .inr (.inr (.inl q))
      · exact .inr (.inr (.inr (.inl q)))
      · exact .inr (.inr (.inr (.inr q))))
    have new : ObjOk X.prog X.w (upd H T (.tup [x, y])) h'' T (.tup [x, y]) :=
      ⟨by show 2 ≤ sizeLine; decide, [u, u2], .cons ru (.cons ru2 .nil), hTt.at fun o q => hk2 T o hTw q⟩
    have I1 : Inv X pins σ (upd H T (.tup [x, y])) { s with heap := h'', toks := tk } :=
      I.turnedNew (ch := [z, TI, TO, i1, i2]) (fun c o hb q => hk2 c o (hwr c hb) (hk c o (hwr c hb) q)) hf hT new
    obtain ⟨z', TI', TO', st1, st2⟩ := hSt
    refine ⟨.ref T, _, I1, rfl, ⟨T, x, y, rfl, I.hok.fresh hT, rfl, fun l hl => by rw [I.tuple_inj hl hqx]; exact hx, fun l hl => by rw [I.list_inj hl hqy]; exact hy⟩, ⟨z', TI', TO', st1.1, st2.1⟩, fun c hcm => ?_⟩
    have hlt : c < s.heap.objs.size := by
      have e' : c = z ∨ c = TI ∨ c = TO ∨ c = i1 ∨ c = i2 := by simpa using hcm
      rcases e' with q | q | q | q | q
      · rw [q]; exact Heap.lt_size hz
      · rw [q]; exact Heap.lt_size hTI
      · rw [q]; obtain ⟨_, _, e⟩ := hTO; exact Heap.lt_size e
      · rw [q]; obtain ⟨_, e1, _⟩ := h1; exact Heap.lt_size e1
      · rw [q]; obtain ⟨_, e2, _⟩ := h2; exact Heap.lt_size e2
    rw [upd_ne (Nat.ne_of_lt (Nat.lt_of_lt_of_le hlt hT))]
    exact (hf c hcm).1
  done := by
    intro X hP hw hK hc i pins s σ H E I hf st hg
    subst hP hw hK
    obtain ⟨hz, hTI, hTO, h1, h2⟩ := st
    obtain ⟨xs, ys, hqx, hqy, hxy, hxi⟩ := hg
    obtain ⟨its, rv, p, _⟩ := I.tuple hqx
    obtain ⟨its2, rv2, p2, _⟩ := I.list hqy
    have l1 := rv.length
    have l2 := rv2.length
    have hh : X.A.in1.handled = none := I.ok.hd hc
    have W := WalksT.zipD2 (prog := X.prog) (w := X.w) (A := X.A) (sepM D) (Draws.tuple hh i1 a D.l1i1 its.toArray) (Draws.list hh i2 b D.l2i2 its2.toArray)
    have hn : min its.toArray.size its2.toArray.size = i := by simp; omega
    refine W.done s _ _ (by rw [hn]; exact ⟨hz, hTI, hTO, ⟨h1, p⟩, ⟨h2, p2.isList⟩⟩) fun h' tk hk => ⟨rfl, I.turnedL (ch := [z, TI, TO, i1, i2]) (fun c o hb q => hk c o (fun h2 => hb (by
      simp only [List.mem_cons, List.not_mem_nil, or_false] at h2 ⊢
      rcases h2 with q | q | q | q
      · exact .inl q
      · exact .inr (.inr (.inl q))
      · exact .inr (.inr (.inr (.inl q)))
      · exact .inr (.inr (.inr (.inr q))))) q) hf⟩
  self := fun A i s Q E st h => wpAny_pyIter_zip st.1 h
def iZipM (K : PySem.W.Frag) (ta : TA) : TI := fun σ H R => ta σ H fun vs H1 => ∃ a b xs ys, vs = [.ref a, .ref b] ∧ SqT K H1 a xs ∧ SqL K H1 b ys ∧ R (ItzM K a b) H1
theorem pi_zipM {X : Cx} {e e2 : Expr} {ta : TA} {p pos tpos : Pos} {elts : List Expr} {kk : Nat} (hg : Gl X "zip") (hm : X.mg "zip" = none) (ha : PA X [e, e2] ta)
    (hs : starEach [e, e2] X.env = (false, eval e X.env) :: starEach [e2] X.env := by rfl) (hpl : (backTo pos (starEach [e2] X.env)).any (·.1) = false := by rfl) :
    PI X (.Tuple elts kk tpos) (.Call (.Name "zip" p) [e, e2] [] pos) (iZipM X.K ta) := by
  refine ⟨fun pins s σ H R I h => ?_⟩
  refine Call_ (ld_blt I hg hm PyProof.Rows.boot_zip (PyProof.Rows.callWith_type1 (thn (ha.run pos pins s σ H _ I h) fun us s1 ⟨vs, H1, I1, r1, q1⟩ => ?_) hs hpl))
  obtain ⟨a, b, xs, ys, ex, hqx, hqy, q⟩ := q1
  subst ex
  cases r1 with
  | cons r rr =>
    cases rr with
    | cons r' rr =>
      cases rr
      cases r
      cases r'
      obtain ⟨its, rv, p1, _⟩ := I1.tuple hqx
      obtain ⟨its2, rv2, p2, _⟩ := I1.list hqy
      have ha1 : a < s1.heap.objs.size := by obtain ⟨_, q, _⟩ := id p1; exact Heap.lt_size q
      have hb1 : b < s1.heap.objs.size := p2.lt
      refine zip_begins2 (begins_tuple a its.toArray) (begins_list b its2.toArray) p1 p2.isList fun h' hz hTI hTO g1 g2 hsz hk => wpAny_pyIter_zip hz ?_
      have I2 : Inv X pins σ H1 { s1 with heap := h' } := I1.kept (t' := s1.toks) hk
      refine ⟨s1.heap.objs.size + 4, [s1.heap.objs.size + 4, s1.heap.objs.size + 2, s1.heap.objs.size + 3, s1.heap.objs.size, s1.heap.objs.size + 1], _, _, H1, rfl, I2, turn_zipM (PySem.W.ktu_apart s1.heap.objs.size a b ha1 hb1), ⟨hz, hTI, ⟨_, _, hTO⟩, ⟨_, g1, rfl, rfl⟩, ⟨_, g2, rfl, rfl⟩⟩, fun c hcm => ?_, q⟩
      have e' : c = s1.heap.objs.size + 4 ∨ c = s1.heap.objs.size + 2 ∨ c = s1.heap.objs.size + 3 ∨ c = s1.heap.objs.size ∨ c = s1.heap.objs.size + 1 := by simpa using hcm
      have hle : s1.heap.objs.size ≤ c := by
        rcases e' with z | z | z | z | z
        · rw [z]; exact Nat.le_add_right _ _
        · rw [z]; exact Nat.le_add_right _ _
        · rw [z]; exact Nat.le_add_right _ _
        · rw [z]; exact Nat.le_refl _
        · rw [z]; exact Nat.le_add_right _ _
      exact I1.fpOk hle (I1.hok.fresh hle)
/-- a loop over zip of a tuple and a list of one length -/
theorem for_zipM {K : PySem.W.Frag} {a b : Addr} {xs ys : List V} {g : TG} {tb : TS} {D : Ends} {σ : L2.St} {H : Hp} (hl : xs.length = ys.length) (Pv : Nat → L2.St → Hp → Prop) (h0 : Pv 0 σ H) (hq : ∀ i σ H, Pv i σ H → SqT K H a xs ∧ SqL K H b ys)
    (hs : ∀ (i : Nat) (x y : V) (T : Addr) (σ : L2.St) (H : Hp), xs[i]? = some x → ys[i]? = some y → Pv i σ H → H T = none → g (.ref T) σ (upd H T (.tup [x, y])) fun σ2 H2 => tb { D with nx := Pv (i + 1), ct := Pv (i + 1), bk := D.nx } σ2 H2) (hd : ∀ σ H, Pv xs.length σ H → D.nx σ H) :
    ∃ W : Nat → Nat → L2.St → Hp → Prop, (∃ m, W 0 m σ H) ∧ ∀ i m σ H, W i m σ H →
      ((ItzM K a b).stop i H ∧ D.nx σ H) ∨ ((ItzM K a b).go i H ∧ ∃ N : L2.St → Hp → Prop, (∀ σ' H', N σ' H' → ∃ m', m' < m ∧ W (i + 1) m' σ' H') ∧ ∀ v H', (ItzM K a b).yld i H v H' → g v σ H' fun σ2 H2 => tb { D with nx := N, ct := N, bk := D.nx } σ2 H2) := by
  refine ⟨fun i m σ H => m = xs.length - i ∧ i ≤ xs.length ∧ Pv i σ H, ⟨xs.length, rfl, Nat.zero_le _, h0⟩, ?_⟩
  rintro i m σ H ⟨rfl, hi, p⟩
  obtain ⟨qx, qy⟩ := hq i σ H p
  by_cases hlt : i < xs.length
  · have hx : xs[i]? = some xs[i] := List.getElem?_eq_getElem hlt
    have hlt2 : i < ys.length := by omega
    have hy : ys[i]? = some ys[i] := List.getElem?_eq_getElem hlt2
    refine .inr ⟨⟨xs, ys, _, _, qx, qy, hx, hy⟩, Pv (i + 1), fun σ' H' p' => ⟨xs.length - (i + 1), by omega, rfl, hlt, p'⟩, fun v H' y => ?_⟩
    obtain ⟨T, x', y', rfl, hT, rfl, f1, f2⟩ := y
    exact hs i x' y' T σ H (f1 xs qx) (f2 ys qy) p hT
  · have e : i = xs.length := by omega
    subst e
    exact .inl ⟨⟨xs, ys, qx, qy, hl, rfl⟩, hd σ H p⟩
end

/-! ### the work of nodes; check_graph for valid graphs -/
def gsOf (ds : List Dom) (as : List Nat) : List Dom := as.map fun k => ds.getD k ⟨[], 0, 0⟩
theorem given_gs {as : List Nat} {ds gs : List Dom} (h : GivenN as ds gs) : gs = gsOf ds as := by
  obtain ⟨h1, h2⟩ := h
  refine List.ext_getElem? fun i => ?_
  unfold gsOf
  rw [List.getElem?_map]
  cases e : as[i]? with
  | none =>
    rw [List.getElem?_eq_none_iff] at e
    rw [List.getElem?_eq_none_iff.mpr (by omega)]
    rfl
  | some k =>
    obtain ⟨d, d1, d2⟩ := h2 i k e
    rw [d2]
    show some d = some (ds.getD k _)
    rw [List.getD_eq_getElem?_getD, d1]
    rfl
theorem given_take {as : List Nat} {ds gs : List Dom} {n : Nat} (h : GivenN as (ds.take n) gs) : GivenN as ds gs := ⟨h.1, fun i k e => by
  obtain ⟨d, d1, d2⟩ := h.2 i k e
  refine ⟨d, ?_, d2⟩
  rw [List.getElem?_take] at d1
  split at d1
  · exact d1
  · cases d1⟩
def workL : Nd → Dom → List Dom → Int
  | .input _ _ _, _, _ => 0
  | .const _ _, _, _ => 0
  | .mv (.sum _) _, _, g :: _ => prod (sizes g.sh)
  | .mv (.peak _) _, _, g :: _ => prod (sizes g.sh)
  | .mv (.fold _ _ _ _) _, _, g :: _ => prod (sizes g.sh)
  | .dot l _, d, g :: _ => prod (sizes d.sh) * sz g.sh l
  | _, d, _ => prod (sizes d.sh)
def L3 : List Str := ["sum", "peak", "fold"]
/-- the four ways of a node's work -/
theorem work_cat (nd : Nd) (d : Dom) (gs : List Dom) (hl : gs.length = arN nd) : ((nd.nm = "input" ∨ nd.nm = "const") ∧ workL nd d gs = 0) ∨ (nd.nm ≠ "input" ∧ nd.nm ≠ "const" ∧ nd.nm ∈ L3 ∧ ∃ g r, gs = g :: r ∧ workL nd d gs = prod (sizes g.sh)) ∨ (∃ l as g e, nd = .dot l as ∧ gs = [g, e]) ∨ (nd.nm ≠ "input" ∧ nd.nm ≠ "const" ∧ nd.nm ∉ L3 ∧ nd.nm ≠ "dot" ∧ workL nd d gs = prod (sizes d.sh)) := by
  have other : compu nd → nd.nm ∉ L3 → nd.nm ≠ "dot" → workL nd d gs = prod (sizes d.sh) → ((nd.nm = "input" ∨ nd.nm = "const") ∧ workL nd d gs = 0) ∨ (nd.nm ≠ "input" ∧ nd.nm ≠ "const" ∧ nd.nm ∈ L3 ∧ ∃ g r, gs = g :: r ∧ workL nd d gs = prod (sizes g.sh)) ∨ (∃ l as g e, nd = .dot l as ∧ gs = [g, e]) ∨ (nd.nm ≠ "input" ∧ nd.nm ≠ "const" ∧ nd.nm ∉ L3 ∧ nd.nm ≠ "dot" ∧ workL nd d gs = prod (sizes d.sh)) := fun hc h1 h2 h3 => .inr (.inr (.inr ⟨(compu_nm hc).1, (compu_nm hc).2, h1, h2, h3⟩))
  have red : compu nd → nd.nm ∈ L3 → gs.length = 1 → (∀ g r, workL nd d (g :: r) = prod (sizes g.sh)) → ((nd.nm = "input" ∨ nd.nm = "const") ∧ workL nd d gs = 0) ∨ (nd.nm ≠ "input" ∧ nd.nm ≠ "const" ∧ nd.nm ∈ L3 ∧ ∃ g r, gs = g :: r ∧ workL nd d gs = prod (sizes g.sh)) ∨ (∃ l as g e, nd = .dot l as ∧ gs = [g, e]) ∨ (nd.nm ≠ "input" ∧ nd.nm ≠ "const" ∧ nd.nm ∉ L3 ∧ nd.nm ≠ "dot" ∧ workL nd d gs = prod (sizes d.sh)) := fun hc h1 h2 h3 => by
    obtain ⟨g, rfl⟩ := one_of h2
    exact .inr (.inl ⟨(compu_nm hc).1, (compu_nm hc).2, h1, g, [], rfl, h3 g []⟩)
  cases nd with
  | input _ _ _ => exact .inl ⟨.inl rfl, rfl⟩
  | const _ _ => exact .inl ⟨.inr rfl, rfl⟩
  | dot l as =>
    obtain ⟨g, e, rfl⟩ := two_of hl
    exact .inr (.inr (.inl ⟨l, as, g, e, rfl, rfl⟩))
  | bc k as =>
    have hb : ∀ z ∈ BN, z ∉ L3 ∧ z ≠ "dot" := by decide +kernel
    exact other trivial (hb _ (bk_in k)).1 (hb _ (bk_in k)).2 (by cases k <;> rfl)
  | mv k as =>
    cases k with
    | sum l => exact red trivial (by show ("sum" : Str) ∈ L3; decide +kernel) hl fun _ _ => rfl
    | peak l => exact red trivial (by show ("peak" : Str) ∈ L3; decide +kernel) hl fun _ _ => rfl
    | fold l m x y => exact red trivial (by show ("fold" : Str) ∈ L3; decide +kernel) hl fun _ _ => rfl
    | order _ => exact other trivial (by show ("order" : Str) ∉ L3; decide +kernel) (by show ("order" : Str) ≠ "dot"; decide +kernel) rfl
    | rename _ _ => exact other trivial (by show ("rename" : Str) ∉ L3; decide +kernel) (by show ("rename" : Str) ≠ "dot"; decide +kernel) rfl
    | spread _ _ => exact other trivial (by show ("spread" : Str) ∉ L3; decide +kernel) (by show ("spread" : Str) ≠ "dot"; decide +kernel) rfl
    | cut _ _ _ => exact other trivial (by show ("cut" : Str) ∉ L3; decide +kernel) (by show ("cut" : Str) ≠ "dot"; decide +kernel) rfl
    | pad _ _ _ => exact other trivial (by show ("pad" : Str) ∉ L3; decide +kernel) (by show ("pad" : Str) ≠ "dot"; decide +kernel) rfl
    | join _ => exact other trivial (by show ("join" : Str) ∉ L3; decide +kernel) (by show ("join" : Str) ≠ "dot"; decide +kernel) rfl
    | window _ _ _ _ => exact other trivial (by show ("window" : Str) ∉ L3; decide +kernel) (by show ("window" : Str) ≠ "dot"; decide +kernel) rfl
    | gather _ => exact other trivial (by show ("gather" : Str) ∉ L3; decide +kernel) (by show ("gather" : Str) ≠ "dot"; decide +kernel) rfl
theorem GD.pr {d : Dom} (g : GD d) : 1 ≤ prod (sizes d.sh) ∧ prod (sizes d.sh) ≤ 256 := ⟨prod_pos1 (fine_sz g.fi), (chk_zero.mp g.ck).2.2.2⟩
theorem work_le {nd : Nd} {d : Dom} {gs : List Dom} (hl : gs.length = arN nd) (hd : GD d) (hgs : ∀ g ∈ gs, GD g) : 0 ≤ workL nd d gs ∧ workL nd d gs ≤ 4096 := by
  have h1 := hd.pr
  rcases work_cat nd d gs hl with ⟨_, e⟩ | ⟨_, _, _, g, r, rfl, e⟩ | ⟨l, as, g, e', rfl, rfl⟩ | ⟨_, _, _, _, e⟩
  · rw [e]; omega
  · rw [e]
    have := (hgs g (List.mem_cons_self ..)).pr
    omega
  · show 0 ≤ prod (sizes d.sh) * sz g.sh l ∧ prod (sizes d.sh) * sz g.sh l ≤ 4096
    have hz := sz_le (hgs g (List.mem_cons_self ..)).fi l
    generalize prod (sizes d.sh) = x at *
    generalize sz g.sh l = y at *
    refine ⟨Int.mul_nonneg (by omega) hz.1, ?_⟩
    have := Int.mul_le_mul h1.2 hz.2 hz.1 (by decide)
    omega
  · rw [e]; omega
section
variable {P : Program} {w : World} {K : PySem.W.Frag} {mg : Str → Option Value} {base : Heap}
def spWork (K : PySem.W.Frag) : Sp := fun vs H Q _ => ∃ (v u : V) (pd : Addr) (nd : Nd) (d : Dom) (us : List V) (ds gs : List Dom), vs = [v, u, .ref pd] ∧ NdAt K H v nd ∧ DmAt K H u d ∧ SqL K H pd us ∧ Dms K H us ds ∧ GivenN nd.args ds gs ∧ GD d ∧ (∀ g ∈ gs, GD g) ∧ nd.args.length = arN nd ∧ (∀ l as, nd = .dot l as → ∀ g ∈ gs, sz g.sh l ≠ 0) ∧
  ∀ H', Same H H' → Q (.int (workL nd d gs)) H'
abbrev nWN : List Str := ["node", "domain", "domains", "kind", "args", "info", "sizes"]
theorem scWN : FnScope nWN ["node", "domain", "domains"] (defScope swork_of_node) := ⟨rfl, rfl, rfl, by decide +kernel, rfl, by decide +kernel, by decide +kernel⟩
theorem ok_work {f : Addr} {fd : FuncData} (F : Fun K "work_of_node" "work_of_node" swork_of_node f fd) (md : mg "dict" = none) (cCO : Calls P w K mg base CX0 1 "count_of" ["shape"] (spCountOf K)) : FnOk P w K mg base CX0 2 f fd ["node", "domain", "domains"] (spWork K) := by
  obtain ⟨fCO, dCO, GCO, kCO, bCO, gCO⟩ := cCO.ex
  refine F.ok scWN (fun vs H Q E h => ?_) (fun cdv A outer s H vs Q E hr h => ?_)
  · obtain ⟨v, u, pd, nd, d, us, ds, gs, rfl, _⟩ := h
    rfl
  · obtain ⟨v, u, pd, nd, d, us, ds, gs, rfl, ⟨pn, pa, pi, rfl, hpn, hpa, hpi⟩, ⟨pu, au, rfl, hu1, hu2, hu3⟩, hpd, hD, hG, hd, hgs, har, hdot, q⟩ := h
    have hr1 : Room 1 _ := hr
    have hl : gs.length = arN nd := by rw [hG.1]; exact har
    refine ⟨_, (pss_cons (ps_asg (pv 0) (pg_tup rfl (pgs_cons (pg_name (i := 3) scWN.nd rfl (.inl rfl)) (pgs_cons (pg_name (i := 4) scWN.nd rfl (.inl rfl)) (pgs_cons (pg_name (i := 5) scWN.nd rfl (.inl rfl)) pgs_nil)))))
      (pss_cons (ps_if (PW.pt (pw_or (pt_cmpR op_eq (pv 3) pe_str (nomark _)) (pw_or1 (pt_cmpR op_eq (pv 3) pe_str (nomark _))))) (pss_one (ps_ret pe_int)) pss_nil)
      (pss_cons (ps_if (pt_inS (zs := ["sum", "peak", "fold"]) (by decide) (pv 3) (pa_cons pe_str (pa_cons pe_str (pa_cons pe_str pa_nil)))) (pss_one (ps_ret (pe_call GCO hr1 (by rfl) gCO kCO bCO .nil pass0 (pa_cons (pe_ix ix_tup (pe_ix ix_list (pv 2) (pe_ix ix_tup (pv 4) pe_int (fun _ _ => rfl)) (fun _ _ => rfl)) pe_int (fun _ _ => rfl)) pa_nil)))) pss_nil)
      (pss_cons (ps_if (pt_cmpR op_eq (pv 3) pe_str (nomark _)) (pss_cons (ps_set (i := 6) scWN.nd rfl (.inl rfl) (pe_callTy (call_dictT (by rfl)) (by rfl) md (by decide +kernel) (pa_cons (pe_ix ix_tup (pe_ix ix_list (pv 2) (pe_ix ix_tup (pv 4) pe_int (fun _ _ => rfl)) (fun _ _ => rfl)) pe_int (fun _ _ => rfl)) pa_nil)))
      (pss_one (ps_ret (pe_op op_mul (pe_call GCO hr1 (by rfl) gCO kCO bCO .nil pass0 (pa_cons (pe_ix ix_tup (pv 1) pe_int (fun _ _ => rfl)) pa_nil)) (pe_dget (Nat.lt_of_le_of_lt (Nat.add_le_add_left (by decide) _) hr.units) (pv 6) (pe_ix ix_tup (pv 5) pe_int (fun _ _ => rfl)) (fun _ _ => rfl)))))) pss_nil)
      (pss_one (ps_ret (pe_call GCO hr1 (by rfl) gCO kCO bCO .nil pass0 (pa_cons (pe_ix ix_tup (pv 1) pe_int (fun _ _ => rfl)) pa_nil)))))))), ?_⟩
    refine ⟨_, rfl, pn, _, rfl, hpn, rfl, _, _, rfl, _, _, rfl, _, _, rfl, rfl, ?_⟩
    -- the first arg's domain
    have first : ∀ g r, gs = g :: r → ∃ (k : Nat) (as : List Nat) (q b : Addr), nd.args = k :: as ∧ us[k]? = some (.ref q) ∧ SqT K H q [.ref b, .int g.lo, .int g.hi] ∧ ShT K H b g.sh ∧ NoD K H b := fun g r e => by
      have h1 := hG.1
      rw [e] at h1
      cases ha : nd.args with
      | nil => rw [ha] at h1; cases h1
      | cons k as =>
        obtain ⟨d', d1, d2⟩ := hG.2 0 k (by rw [ha]; rfl)
        rw [e] at d2
        cases d2
        have hk : k < us.length := by rw [hD.1]; exact (List.getElem?_eq_some_iff.mp d1).1
        have hu : us[k]? = some us[k] := List.getElem?_eq_getElem hk
        obtain ⟨q, b, e3, e4, e5, e6⟩ := hD.2 k _ _ hu d1
        exact ⟨k, as, q, b, rfl, by rw [hu, e3], e4, e5, e6⟩
    refine ⟨_, rfl, rfl, _, rfl, ite_kind (fun e => ?_) (fun n1 => ?_)⟩
    · rcases work_cat nd d gs hl with ⟨_, e'⟩ | ⟨h, _⟩ | ⟨l, as, g, e2, rfl, _⟩ | ⟨h, _⟩
      · have := q _ (Same.refl _)
        rw [e'] at this
        exact this
      · exact absurd e h
      · exact absurd e (by show ("dot" : Str) ≠ "input"; decide +kernel)
      · exact absurd e h
    refine ⟨_, rfl, rfl, _, rfl, ite_kind (fun e => ?_) (fun n2 => ?_)⟩
    · rcases work_cat nd d gs hl with ⟨_, e'⟩ | ⟨_, h, _⟩ | ⟨l, as, g, e2, rfl, _⟩ | ⟨_, h, _⟩
      · have := q _ (Same.refl _)
        rw [e'] at this
        exact this
      · exact absurd e h
      · exact absurd e (by show ("dot" : Str) ≠ "const"; decide +kernel)
      · exact absurd e h
    refine ⟨nd.nm, rfl, fun H2 s2 => ⟨_, rfl, ite_in (fun hin => ?_) (fun n3 => ?_)⟩⟩
    · rcases work_cat nd d gs hl with ⟨h, _⟩ | ⟨_, _, _, g, r, e1, e2⟩ | ⟨l, as, g, e2, rfl, _⟩ | ⟨_, _, h, _⟩
      · exact (h.elim n1 n2).elim
      · obtain ⟨k, as, p, b, x1, x2, x3, x4, x5⟩ := first g r e1
        rw [x1] at hpa
        have gg := hgs g (by rw [e1]; exact List.mem_cons_self ..)
        refine ⟨_, rfl, _, rfl, pa, _, (0 : Nat), _, rfl, rfl, sqT_same hpa s2, i0, pd, _, (k : Int), _, rfl, rfl, sqL_same hpd s2, atI_nat x2, p, _, (0 : Nat), _, rfl, rfl, sqT_same x3 s2, i0, b, g.sh, rfl, x4.same s2, gg.fi.mod, ?_⟩
        have := q _ s2
        rw [e2] at this
        exact this
      · exact absurd hin (by show ("dot" : Str) ∉ L3; decide +kernel)
      · exact absurd hin h
    refine ⟨_, rfl, rfl, _, rfl, ite_kind (fun e => ?_) (fun n4 => ?_)⟩
    · rcases work_cat nd d gs hl with ⟨h, _⟩ | ⟨_, _, h, _⟩ | ⟨l, as, g, e2, rfl, e1⟩ | ⟨_, _, _, h, _⟩
      · exact (h.elim n1 n2).elim
      · exact absurd h n3
      · obtain ⟨k, as', p, b, x1, x2, x3, ⟨ts, xa, xx⟩, x5⟩ := first g [e2] e1
        rw [x1] at hpa
        have gg := hgs g (by rw [e1]; exact List.mem_cons_self ..)
        obtain ⟨z, z1, z2⟩ := sz_some (hdot l as rfl g (by rw [e1]; exact List.mem_cons_self ..))
        refine ⟨_, rfl, _, rfl, pa, _, (0 : Nat), _, rfl, rfl, sqT_same hpa s2, i0, pd, _, (k : Int), _, rfl, rfl, sqL_same hpd s2, atI_nat x2, p, _, (0 : Nat), _, rfl, rfl, sqT_same x3 s2, i0, b, ts, kvsOf g.sh, rfl, sqT_same xa s2, x5.same s2, paired_kvs (xx.same s2), fun dd ndd => ?_⟩
        rw [mergeK_kvs gg.nd]
        have s3 := s2.trans (same_upd (o := .dK (kvsOf g.sh)) ndd)
        refine ⟨_, rfl, pu, _, (0 : Nat), _, rfl, rfl, sqT_same hu1 s3, i0, au, d.sh, rfl, hu2.same s3, hd.fi.mod, ?_⟩
        have hget := DGet.k (k := .inr (one l)) (upd_same (H := H2) (a := dd) (o := .dK (kvsOf g.sh)))
        rw [valV_kvs, z1] at hget
        have hpi3 := sqT_same (show SqT K H pi [.str (one l)] from hpi) s3
        refine ⟨_, rfl, _, rfl, pi, _, (0 : Nat), _, rfl, rfl, hpi3, i0, dd, .int z, rfl, hget, ?_⟩
        refine ⟨_, _, rfl, rfl, cmul_sm (by have := hd.pr; omega) (by have := hd.pr; omega), ?_⟩
        have := q _ s3
        rw [e1] at this
        have this : Q (.int (prod (sizes d.sh) * sz g.sh l)) _ := this
        rw [z2] at this
        exact this
      · exact absurd e h
    · rcases work_cat nd d gs hl with ⟨h, _⟩ | ⟨_, _, h, _⟩ | ⟨l, as, g, e2, rfl, e1⟩ | ⟨_, _, _, _, e'⟩
      · exact (h.elim n1 n2).elim
      · exact absurd h n3
      · exact absurd rfl n4
      · refine ⟨_, rfl, pu, _, (0 : Nat), _, rfl, rfl, sqT_same hu1 s2, i0, au, d.sh, rfl, hu2.same s2, hd.fi.mod, ?_⟩
        have := q _ s2
        rw [e'] at this
        exact this
end
def worksOf (nds : List Nd) (ds : List Dom) : List Int := (nds.zip ds).map fun p => workL p.1 p.2 (gsOf ds p.1.args)
def totW (nds : List Nd) (ds : List Dom) : Int := (worksOf nds ds).sum
theorem dot_sz {l : Nat} {as : List Nat} {gs : List Dom} {d : Dom} (h : lawD (.dot l as) gs = some d) (hl : gs.length = 2) : ∀ g ∈ gs, sz g.sh l ≠ 0 := by
  obtain ⟨a, b, rfl⟩ := two_of hl
  rw [lawD_compu (nd := .dot l as) trivial] at h
  intro g hg z
  have hs : shapeL (.dot l as) [a, b] = none := by
    show ((castAll a.sh [b.sh]).bind fun s => if sz a.sh l = 0 ∨ sz b.sh l = 0 then none else some (dropL s l)) = none
    cases castAll a.sh [b.sh] with
    | none => rfl
    | some s =>
      show (if sz a.sh l = 0 ∨ sz b.sh l = 0 then none else some (dropL s l)) = none
      rw [if_pos]
      rcases List.mem_cons.mp hg with rfl | hg
      · exact .inl z
      · rw [List.mem_singleton] at hg
        rw [hg] at z
        exact .inr z
  rw [hs] at h
  cases h
theorem GoodN.ar {nd : Nd} {m : Nat} (h : GoodN nd m) : nd.args.length = arN nd := by
  rcases h with h | h
  · obtain ⟨a, b, _⟩ := h.args
    rw [a, b]
    rfl
  · exact h.2.2.1
/-- of a graph's node: its work, and that it is small -/
theorem WfG.work {nds : List Nd} {ds : List Dom} (w : WfG nds ds) {i : Nat} {nd : Nd} {d : Dom} (h1 : nds[i]? = some nd) (h2 : ds[i]? = some d) : GivenN nd.args ds (gsOf ds nd.args) ∧ GD d ∧ (∀ g ∈ gsOf ds nd.args, GD g) ∧ nd.args.length = arN nd ∧ (∀ l as, nd = .dot l as → ∀ g ∈ gsOf ds nd.args, sz g.sh l ≠ 0) ∧ (worksOf nds ds)[i]? = some (workL nd d (gsOf ds nd.args)) := by
  obtain ⟨w1, w2, gs, w3, w4, w5⟩ := w.g i nd d h1 h2
  have hg := given_take w3
  have e := given_gs hg
  rw [e] at hg w4 w5
  refine ⟨hg, w2, w4, w1.ar, fun l as e2 => ?_, ?_⟩
  · subst e2
    exact dot_sz w5 (by rw [hg.1]; exact w1.ar)
  · unfold worksOf
    rw [List.getElem?_map, List.getElem?_zip_eq_some (z := (nd, d)) |>.mpr ⟨h1, h2⟩]
    rfl
theorem sum_take {l : List Int} {i : Nat} {x : Int} (h : l[i]? = some x) : (l.take (i + 1)).sum = (l.take i).sum + x := by
  rw [take_snoc h, List.sum_append]
  simp
section
variable {P : Program} {w : World} {K : PySem.W.Frag} {mg : Str → Option Value} {base : Heap}
structure TxtC (mg : Str → Option Value) : Prop where
  len : mg "len" = none
  tuple : mg "tuple" = none
  zip : mg "zip" = none
def spTotal (K : PySem.W.Frag) : Sp := fun vs H Q _ => ∃ (pn pd : Addr) (ws us : List V) (nds : List Nd) (ds : List Dom), vs = [.ref pn, .ref pd] ∧ SqT K H pn ws ∧ Nds K H ws nds ∧ SqL K H pd us ∧ Dms K H us ds ∧ WfG nds ds ∧ ∀ H', Same H H' → Q (.int (totW nds ds)) H'
abbrev nTW : List Str := ["nodes", "domains", "total", "node", "domain"]
theorem scTW : FnScope nTW ["nodes", "domains"] (defScope stotal_work) := ⟨rfl, rfl, rfl, by decide +kernel, rfl, by decide +kernel, by decide +kernel⟩
theorem ok_total {f : Addr} {fd : FuncData} (F : Fun K "total_work" "total_work" stotal_work f fd) (T : TxtC mg) (cWN : Calls P w K mg base CX0 2 "work_of_node" ["node", "domain", "domains"] (spWork K)) : FnOk P w K mg base CX0 3 f fd ["nodes", "domains"] (spTotal K) := by
  obtain ⟨fWN, dWN, GWN, kWN, bWN, gWN⟩ := cWN.ex
  refine F.ok scTW (fun vs H Q E h => ?_) (fun cdv A outer s H vs Q E hr2 h => ?_)
  · obtain ⟨pn, pd, ws, us, nds, ds, rfl, _⟩ := h
    rfl
  · obtain ⟨pn, pd, ws, us, nds, ds, rfl, hpn, hN, hpd, hD, hW, q⟩ := h
    refine ⟨_, (pss_cons (ps_set (i := 2) scTW.nd rfl (.inl rfl) pe_int)
      (pss_cons (ps_for PassesOwn.never rfl (pi_zipM (by rfl) T.zip (pa_cons (pv 0) (pa_cons (pv 1) pa_nil))) (pg_tup rfl (pgs_cons (pg_name (i := 3) scTW.nd rfl (.inl rfl)) (pgs_cons (pg_name (i := 4) scTW.nd rfl (.inl rfl)) pgs_nil))) (pss_one (ps_set (i := 2) scTW.nd rfl (.inl rfl) (pe_op op_add (pv 2) (pe_call GWN hr2 (by rfl) gWN kWN bWN .nil pass0 (pa_cons (pv 3) (pa_cons (pv 4) (pa_cons (pv 1) pa_nil))))))))
      (pss_one (ps_ret (pv 2))))), ?_⟩
    have hl : ws.length = us.length := by rw [hN.1, hD.1, hW.l]
    refine ⟨_, rfl, _, rfl, pn, pd, ws, us, rfl, hpn, hpd, for_zipM hl (fun i σ H' => ∃ (v3 v4 : Option V), σ = [some (.ref pn), some (.ref pd), some (.int ((worksOf nds ds).take i).sum), v3, v4] ∧ Same H H') ⟨_, _, rfl, Same.refl _⟩ (fun i σ H' ⟨_, _, _, sm⟩ => ⟨sqT_same hpn sm, sqL_same hpd sm⟩) ?_ ?_⟩
    · rintro i x y T' σ H1 hx hy ⟨v3, v4, rfl, sm⟩ hT
      have sT := sm.trans (same_upd (o := .tup [x, y]) hT)
      have hi : i < ws.length := (List.getElem?_eq_some_iff.mp hx).1
      obtain ⟨nd, hnd⟩ : ∃ nd, nds[i]? = some nd := ⟨_, List.getElem?_eq_getElem (by rw [← hN.1]; exact hi)⟩
      obtain ⟨d, hd⟩ : ∃ d, ds[i]? = some d := ⟨_, List.getElem?_eq_getElem (by rw [← hD.1, ← hl]; exact hi)⟩
      obtain ⟨w1, w2, w3, w4, w5, w6⟩ := hW.work hnd hd
      refine ⟨T', _, rfl, SqT.of upd_same, rfl, _, _, rfl, _, _, rfl, rfl, ?_⟩
      refine ⟨_, rfl, _, rfl, _, rfl, _, rfl, x, y, pd, nd, d, us, ds, _, rfl, (hN.2 i x nd hx hnd).same sT, (hD.2 i y d hy hd).same sT, sqL_same hpd sT, hD.same sT, w1, w2, w3, w4, w5, fun H2 s2 => ⟨_, _, rfl, rfl, some x, some y, ?_, sT.trans s2⟩⟩
      rw [sum_take w6]
      rfl
    · rintro σ H1 ⟨v3, v4, rfl, sm⟩
      refine ⟨_, rfl, ?_⟩
      have e : (worksOf nds ds).take ws.length = worksOf nds ds := List.take_of_length_le (by
        unfold worksOf
        rw [List.length_map, List.length_zip, hN.1]
        exact Nat.min_le_left _ _)
      rw [e]
      exact q _ sm
def spCheckG (K : PySem.W.Frag) : Sp := fun vs H Q _ => ∃ (pg pn po : Addr) (ws : List V) (nds : List Nd) (ds : List Dom) (os : List Nat), vs = [.ref pg] ∧ SqT K H pg [.ref pn, .ref po] ∧ SqT K H pn ws ∧ Nds K H ws nds ∧ WfG nds ds ∧ nds.length ≤ 400 ∧ totW nds ds ≤ 50000 ∧ SqT K H po ((asInts os).map V.int) ∧ os ≠ [] ∧ os.length ≤ 1000 ∧ (∀ o ∈ os, o < nds.length) ∧
  ∀ H' p us, Same H H' → SqT K H' p us → Dms K H' us ds → Q (.ref p) H'
abbrev nCG : List Str := ["graph", "nodes", "outs", "domains", "node", "out"]
theorem scCG : FnScope nCG ["graph"] (defScope scheck_graph) := ⟨rfl, rfl, rfl, by decide +kernel, rfl, by decide +kernel, by decide +kernel⟩
theorem ok_checkG {spD : Sp} {f : Addr} {C : Nat → Addr} {fd : FuncData} (F : Fun K "check_graph" "check_graph" scheck_graph f fd) (T : TxtC mg) (R4 : ErrR K mg "TooLarge" (C 4)) (R6 : ErrR K mg "FormError" (C 6)) (l1 : ∃ u, mg "NODE_LIMIT" = some u ∧ RelV (.int 400) u) (l2 : ∃ u, mg "WORK_LIMIT" = some u ∧ RelV (.int 50000) u)
    (link : ∀ vs H Q E, spDomLQ K vs H Q E → spD vs H Q E) (cDQ : Calls P w K mg base (L2.CX P w) 6 "domain_of" ["node", "domains"] spD) (cTW : Calls P w K mg base CX0 3 "total_work" ["nodes", "domains"] (spTotal K)) : FnOk P w K mg base (L2.CX P w) 7 f fd ["graph"] (spCheckG K) := by
  obtain ⟨fDQ, dDQ, GDQ, kDQ, bDQ, gDQ⟩ := cDQ.ex
  obtain ⟨fTW, dTW, GTW, kTW, bTW, gTW⟩ := cTW.ex
  obtain ⟨uN, gNL, rNL⟩ := l1
  obtain ⟨uW, gWL, rWL⟩ := l2
  refine F.okX scCG (fun vs H Q E h => ?_) (fun cdv A outer s H vs Q E hr6 h => ?_)
  · obtain ⟨pg, pn, po, ws, nds, ds, os, rfl, _⟩ := h
    rfl
  · obtain ⟨pg, pn, po, ws, nds, ds, os, rfl, hpg, hpn, hN, hW, hnl, htw, hpo, ho0, hol, hos, q⟩ := h
    have hr3 : Room 3 _ := hr6.mono (by decide)
    have hwl : ws.length = nds.length := hN.1
    refine ⟨_, (pss_cons (ps_asg (pv 0) (pg_tup rfl (pgs_cons (pg_name (i := 1) scCG.nd rfl (.inl rfl)) (pgs_cons (pg_name (i := 2) scCG.nd rfl (.inl rfl)) pgs_nil))))
      (pss_cons (ps_if (pt_cmpR op_gt (pe_callB call_len_seq (by rfl) T.len PySem.boot_len (pa_cons (pv 1) pa_nil)) (pe_glob (v := .int 400) (by rfl) gNL rNL) (nomark _)) (pss_one (ps_raise rfl (takes_of rfl rfl rfl rfl) (SkE.pmk_own1 PySem.F.excBase_ValueError R4.x R4.g R4.k (raises_own R4.b R4.t) rfl (pe_joined (.cons pe_str (.cons (pe_fmt (pe_callB call_len_seq (by rfl) T.len PySem.boot_len (pa_cons (pv 1) pa_nil))) (.cons pe_str .nil))))))) pss_nil)
      (pss_cons (ps_set (i := 3) scCG.nd rfl (.inl rfl) (pe_lst pa_nil))
      (pss_cons (ps_for (passes_of rfl) rfl (pi_tup (pv 1)) (pg_name (i := 4) scCG.nd rfl (.inl rfl)) (pss_one (ps_expr (pe_bm PySem.F.plainAttrs_list PySem.F.slot_list_append PySem.F.type_list_append mt_append (pv 3) (pa_cons (pe_callS GDQ hr6 (by rfl) gDQ kDQ bDQ (fun σ => passAt (takes_of rfl rfl rfl rfl) σ) (pa_cons (pv 4) (pa_cons (pv 3) pa_nil))) pa_nil)))))
      (pss_cons (ps_if (pt_cmpR op_eq (pe_callB call_len_seq (by rfl) T.len PySem.boot_len (pa_cons (pv 2) pa_nil)) pe_int (nomark _)) (pss_one (ps_raise rfl (takes_of rfl rfl rfl rfl) (pmk_own PySem.F.excBase_ValueError R6.x R6.g R6.k (raises_own R6.b R6.t) rfl))) pss_nil)
      (pss_cons (ps_for (passes_of rfl) rfl (pi_tup (pv 2)) (pg_name (i := 5) scCG.nd rfl (.inl rfl)) (pss_one (ps_if (PW.pt (pw_or (pt_cmpR op_lt (pv 5) pe_int (nomark _)) (pw_or1 (pt_cmpR op_ge (pv 5) (pe_callB call_len_seq (by rfl) T.len PySem.boot_len (pa_cons (pv 1) pa_nil)) (nomark _))))) (pss_one (ps_raise rfl (takes_of rfl rfl rfl rfl) (pmk_own PySem.F.excBase_ValueError R6.x R6.g R6.k (raises_own R6.b R6.t) rfl))) pss_nil)))
      (pss_cons (ps_if (pt_cmpR op_gt (pe_call GTW hr3 (by rfl) gTW kTW bTW .nil pass0 (pa_cons (pv 1) (pa_cons (pv 3) pa_nil))) (pe_glob (v := .int 50000) (by rfl) gWL rWL) (nomark _)) (pss_one (ps_raise rfl (takes_of rfl rfl rfl rfl) (pmk_own PySem.F.excBase_ValueError R4.x R4.g R4.k (raises_own R4.b R4.t) rfl))) pss_nil)
      (pss_one (ps_ret (pe_callTy call_tuple_of (by rfl) T.tuple (by decide +kernel) (pa_cons (pv 3) pa_nil))))))))))), ?_⟩
    refine ⟨_, rfl, pg, _, rfl, hpg, rfl, _, _, rfl, _, _, rfl, rfl, ?_⟩
    refine ⟨_, rfl, pn, _, rfl, .inr hpn, _, _, rfl, rfl, _, rfl, ite2 (fun e => ?_) (fun _ => ?_)⟩
    · have := of_decide_eq_true e
      omega
    refine ⟨Nat.zero_le _, fun D nD => ?_⟩
    have s1 := same_upd (o := .lst []) nD
    refine ⟨_, rfl, pn, rfl, ⟨_, sqT_same hpn s1⟩, for_tup (K := K) (a := pn) (xs := ws) (fun i σ H' => ∃ (v4 : Option V) (us : List V), σ = [some (.ref pg), some (.ref pn), some (.ref po), some (.ref D), v4, none] ∧ Same H H' ∧ H' D = some (.lst us) ∧ Dms K H' us (ds.take i)) ⟨_, [], rfl, s1, upd_same, ⟨rfl, fun i v d h => by simp at h⟩⟩ (fun i σ H' _ ⟨_, _, _, sm, _⟩ => sqT_same hpn sm) ?_ ?_⟩
    · rintro i x σ H1 hx ⟨v4, us, rfl, sm, hDl, hD⟩
      have hi : i < ws.length := (List.getElem?_eq_some_iff.mp hx).1
      obtain ⟨nd, hnd⟩ : ∃ nd, nds[i]? = some nd := ⟨_, List.getElem?_eq_getElem (by omega)⟩
      obtain ⟨d, hd⟩ : ∃ d, ds[i]? = some d := ⟨_, List.getElem?_eq_getElem (by rw [← hW.l]; omega)⟩
      obtain ⟨w1, w2, gs, w3, w4, w5⟩ := hW.g i nd d hnd hd
      have htl : (ds.take i).length = i := by
        rw [List.length_take, ← hW.l]
        omega
      have hul : us.length = i := by rw [hD.1, htl]
      refine ⟨_, rfl, .inl ⟨rfl, _, SqL.of hDl⟩, _, rfl, _, rfl, link _ _ _ _ ⟨x, D, nd, us, ds.take i, gs, d, rfl, (hN.2 i x nd hx hnd).same sm, SqL.of hDl, hD, by omega, by rw [htl]; exact w1, w3, w4, w5, w2, fun H2 u s2 hu => ?_⟩⟩
      refine ⟨D, _, _, rfl, rfl, s2 _ _ hDl, small1000 (by omega), _, us ++ [u], rfl, fun b o e => by rw [upd_ne (ne_of_none e nD)]; exact s2 _ _ (sm _ _ e), upd_same, ?_⟩
      have nl : NL H2 (upd H2 D (.lst (us ++ [u]))) := nl_upd (s2 _ _ hDl)
      rw [take_snoc hd]
      exact ((hD.same s2).keep nl).snoc (hu.keep nl)
    rintro σ H1 ⟨v4, us, rfl, sm, hDl, hD⟩
    rw [List.take_of_length_le (by rw [hwl, hW.l]; exact Nat.le_refl _)] at hD
    have hul : us.length = nds.length := by rw [hD.1, hW.l]
    have ho1 : 0 < os.length := List.length_pos_iff.mpr ho0
    have hoL : ((asInts os).map V.int).length = os.length := by rw [List.length_map, asInts, List.length_map]
    refine ⟨_, rfl, po, _, rfl, .inr (sqT_same hpo sm), rfl, _, rfl, ?_⟩
    rw [hoL]
    by_cases hz : V.int (os.length : Int) = V.int 0
    · exact absurd (V.int.inj hz) (by omega)
    rw [decide_eq_false hz]
    refine iteF ⟨_, rfl, po, rfl, ⟨_, sqT_same hpo sm⟩, for_tup (K := K) (a := po) (xs := (asInts os).map V.int) (fun i σ H' => ∃ (v5 : Option V), σ = [some (.ref pg), some (.ref pn), some (.ref po), some (.ref D), v4, v5] ∧ H' = H1) ⟨_, rfl, rfl⟩ (fun i σ H' _ ⟨_, _, e⟩ => by rw [e]; exact sqT_same hpo sm) ?_ ?_⟩
    · rintro i x σ H2 hx ⟨v5, rfl, rfl⟩
      obtain ⟨o, rfl, ho⟩ := map_int_at hx
      unfold asInts at ho
      rw [List.getElem?_map] at ho
      obtain ⟨k, hk, rfl⟩ := Option.map_eq_some_iff.mp ho
      have hkl := hos k (List.mem_of_getElem? hk)
      refine ⟨_, rfl, _, _, rfl, rfl, _, rfl, ite2 (fun e => ?_) (fun _ => ?_)⟩
      · have := of_decide_eq_true e
        omega
      refine ⟨_, rfl, _, rfl, pn, _, rfl, .inr (sqT_same hpn sm), _, _, rfl, rfl, _, rfl, ite2 (fun e => ?_) (fun _ => ⟨_, rfl, rfl⟩)⟩
      have := of_decide_eq_true e
      omega
    rintro σ H2 ⟨v5, rfl, rfl⟩
    refine ⟨_, rfl, _, rfl, pn, D, ws, us, nds, ds, rfl, sqT_same hpn sm, hN.keep (Same.nl sm), SqL.of hDl, hD, hW, fun H3 s3 => ⟨_, _, rfl, rfl, _, rfl, ite2 (fun e => ?_) (fun _ => ?_)⟩⟩
    · have := of_decide_eq_true e
      omega
    refine ⟨_, rfl, D, _, rfl, .inl ⟨SqL.of (s3 _ _ hDl), fun p np => ?_⟩⟩
    have s4 := same_upd (o := .tup us) np
    exact q _ p us ((sm.trans s3).trans s4) (SqT.of upd_same) ((hD.same s3).same s4)
end
/-! ### enumerate of a tuple; zip of two tuples as a walk -/
section
open PySem.AutoSeq1 (wpAny_loadPart')
open PySem.Spec PyProof.Rows
theorem meets_enumerate_newT (l : Addr) (items : Array Value) (n : Nat) (dct : Option Addr) (sl : Array (Option Value)) :
    Meets (Builtin.«enumerate.__new__» ⟨[.type "enumerate", .ref l], []⟩) (fun _ R s => s.heap.get? l = some { cls := .type "tuple", dict := dct, data := .seq items n, slots := sl } ∧
      R (.ok (.ret (.ref (s.heap.push { cls := .type "tuple_iterator", data := .fields #[.ref l, .int 0 0] }).objs.size)))
        { s with heap := (s.heap.push { cls := .type "tuple_iterator", data := .fields #[.ref l, .int 0 0] }).push { cls := .type "enumerate", data := .fields #[.none, .bool false, .ref s.heap.objs.size, rawInt 0, .none, .none] } }) :=
  .of_wp fun prog w A R s h => by
    obtain ⟨hp, g, d, tk, os⟩ := s; obtain ⟨hl, h⟩ := h
    have hsub := sub_enumerate
    have hL : Heap.IsTuple (Shared.heap ⟨hp, g, d, tk, os⟩) l items := ⟨_, hl, rfl, n, rfl⟩
    wp_walk using wpAny_loadPart' hl
    refine wpAny_stack_any fun st => wpAny_pure ?_
    split
    · rename_i c _ _ _ _ _
      cases (c == Value.type "enumerate")
      · wp_walk using wpAny_loadPart' hl, wpAny_pyIter_tuple hL
        exact ⟨_, rfl, h⟩
      · wp_walk using wpAny_loadPart' hl, wpAny_pyIter_tuple hL
        exact ⟨_, rfl, h⟩
    · wp_walk using wpAny_loadPart' hl, wpAny_pyIter_tuple hL
      exact ⟨_, rfl, h⟩
variable {prog : Program} {w : World} {A : Around} {E : Value → Shared → Prop} {s : Shared}
theorem call_enumerate_tuple {l : Addr} {items : Array Value} {Q : Value → Shared → Prop} (hL : s.heap.IsTuple l items)
    (h : ∀ h', IsEnum h' (s.heap.objs.size + 1) s.heap.objs.size 0 .none → h'.IsTupleIter s.heap.objs.size l 0 → h'.objs.size = s.heap.objs.size + 2 →
      (∀ b o, s.heap.get? b = some o → h'.get? b = some o) → Q (.ref (s.heap.objs.size + 1)) { s with heap := h' }) :
    wpAny (model prog w) A (call (.type "enumerate") [.ref l]) Q E s := by
  obtain ⟨⟨c, dct, dt, sl⟩, hl, hc, n, hd⟩ := hL
  replace hc : c = .type "tuple" := hc
  replace hd : dt = .seq items n := hd
  subst hc hd
  refine callType_new F.called_enumerate (by decide) (F.typeCall_enumerate_1 _) (F.newCall_enumerate_1 _) (fun obj => F.args_object_init_2 obj _) F.entry_enumerate_new
    (meets_enumerate_newT l items n dct sl) ⟨hl, ?_⟩
  have hz : (s.heap.push { cls := .type "tuple_iterator", data := .fields #[.ref l, .int 0 0] }).objs.size = s.heap.objs.size + 1 := Heap.size_push ..
  show _ ∧ _
  rw [hz]
  have he : IsEnum ((s.heap.push { cls := .type "tuple_iterator", data := .fields #[.ref l, .int 0 0] }).push
      { cls := .type "enumerate", data := .fields #[.none, .bool false, .ref s.heap.objs.size, rawInt 0, .none, .none] }) (s.heap.objs.size + 1) s.heap.objs.size 0 .none := by
    have := Heap.get?_push_size (s.heap.push { cls := .type "tuple_iterator", data := .fields #[.ref l, .int 0 0] })
      (o := { cls := .type "enumerate", data := .fields #[.none, .bool false, .ref s.heap.objs.size, rawInt 0, .none, .none] }) rfl
    rw [hz] at this; exact this
  refine ⟨⟨_, he, rfl⟩, h _ he ⟨_, Heap.get?_push_of_some _ (Heap.get?_push_size _ rfl), rfl, rfl⟩ (by rw [Heap.size_push, hz]) fun b o x => Heap.get?_push_of_some _ (Heap.get?_push_of_some _ x)⟩
/-- the tuple at a as it stands at each turn, each item in a new pair -/
def IteT (K : PySem.W.Frag) (a : Addr) : It :=
  ⟨fun i H => ∃ (xs : List V) (x : V), SqT K H a xs ∧ xs[i]? = some x, fun i H v H' => ∃ T x, v = .ref T ∧ H T = none ∧ H' = upd H T (.tup [.int (i : Nat), x]) ∧ ∀ xs, SqT K H a xs → xs[i]? = some x, fun i H => ∃ xs : List V, SqT K H a xs ∧ xs.length ≤ i⟩
theorem turn_enumT {P : Program} {w : World} {K : PySem.W.Frag} {elts : List Expr} {kk : Nat} {tpos : Pos} (a e it : Addr) (hai : a ≠ it) (hea : e ≠ a) :
    Turn P w K (.Tuple elts kk tpos) (IteT K a) [e, it] e (fun i h => (∃ old, IsEnum h e it ((i : Nat) : Int) old) ∧ h.IsTupleIter it a i ∧ e ≠ it) where
  mem := by simp
  obj := fun i h st b hb => by
    obtain ⟨⟨old, he⟩, ⟨o, ho, hc, hd⟩, _⟩ := st
    have e' : b = e ∨ b = it := by simpa using hb
    rcases e' with z | z
    · rw [z]; exact ⟨_, he, fun v q => nomatch q⟩
    · rw [z]; exact ⟨o, ho, fun v q => by rw [hd] at q; cases q⟩
  keep := fun i h h' st k => let ⟨⟨old, he⟩, hi, hne⟩ := st; ⟨⟨old, k e (by simp) _ he⟩, hi.at fun o q => k it (by simp) o q, hne⟩
  item := by
    intro X hP hw hK hc i pins s σ H E I hf st hg
    subst hP hw hK
    obtain ⟨⟨old, he⟩, hit, hne⟩ := st
    obtain ⟨xs, x, hq, hx⟩ := hg
    obtain ⟨its, rv, p, hz⟩ := I.tuple hq
    obtain ⟨u, hu, ru⟩ := rv.get hx
    have hel : e < s.heap.objs.size := Heap.lt_size he
    have hil : it < s.heap.objs.size := by obtain ⟨_, q, _⟩ := hit; exact Heap.lt_size q
    have hu' : its.toArray[i]? = some u := by simpa using hu
    have hlt : i < its.toArray.size := (Array.getElem?_eq_some_iff.mp hu').1
    refine wpAny_pyNext_enum_itemD (Draws.tuple (show X.A.in1.handled = none from I.ok.hd hc) it a hai its.toArray) he ⟨hit, p⟩ hlt hne (by simp only [List.mem_cons, List.not_mem_nil, or_false, not_or]; exact ⟨hne, hea⟩) fun x' h' tk hP' ho hit' hT hsz hk => ?_
    have hP' : its.toArray[i]? = some x' := hP'
    rw [hu'] at hP'
    cases hP'
    refine ⟨_, rfl, wpAny_letOwnedTupleGo_enum (s := { s with heap := h', toks := tk + 1 }) ho fun h'' he' sb => ?_⟩
    have hT2 : h''.get? s.heap.objs.size = some { cls := .type "tuple", data := .seq #[.int i tk, u] } := (sb.2 _ (Nat.ne_of_gt hel)).trans hT
    have new : ObjOk X.prog X.w (upd H s.heap.objs.size (.tup [.int (i : Nat), x])) h'' s.heap.objs.size (.tup [.int (i : Nat), x]) :=
      ⟨by show 2 ≤ sizeLine; decide, [.int i tk, u], .cons ⟨_, rfl⟩ (.cons ru .nil), ⟨_, hT2, rfl, _, rfl⟩⟩
    have I1 : Inv X pins σ (upd H s.heap.objs.size (.tup [.int (i : Nat), x])) { s with heap := h'', toks := tk + 1 } :=
      I.turnedNew (ch := [e, it]) (fun b ob hb q => (sb.2 b (fun z => hb (by simp [z]))).trans (hk b ob (fun z => hb (by simp [z])) (fun z => hb (by simp [z])) q)) hf (Nat.le_refl _) new
    refine ⟨.ref s.heap.objs.size, _, I1, rfl, ⟨_, x, rfl, I.hok.fresh (Nat.le_refl _), rfl, fun ys hy => by rw [I.tuple_inj hy hq]; exact hx⟩, ⟨⟨u, ?_⟩, hit'.1.at fun o q => (sb.2 it (Ne.symm hne)).trans q, hne⟩, fun b hb => ?_⟩
    · have e1 : ((i + 1 : Nat) : Int) = (i : Int) + 1 := by omega
      rw [e1]; exact he'
    · have hb' : b < s.heap.objs.size := by
        have e' : b = e ∨ b = it := by simpa using hb
        rcases e' with z | z
        · rw [z]; exact hel
        · rw [z]; exact hil
      rw [upd_ne (Nat.ne_of_lt hb')]
      exact (hf b hb).1
  done := by
    intro X hP hw hK hc i pins s σ H E I hf st hg
    subst hP hw hK
    obtain ⟨⟨old, he⟩, hit, hne⟩ := st
    obtain ⟨xs, hq, hx⟩ := hg
    obtain ⟨its, rv, p, hz⟩ := I.tuple hq
    obtain ⟨f0, f1, f2, f3, f4, f5⟩ := hf it (by simp)
    have hl := rv.length
    unfold pyNext
    have hT : s.TypeIs (.ref e) "enumerate" := ⟨_, he, rfl⟩
    refine wpAny_bind (wpAny_attempt (wpAny_callSpecial?_slot (name := Str.ofString "__next__") hT F.slot_enumerate_next
      (wpAny_call_entry F.slot_enumerate_next hT F.entry_enumerate_next ?_ (F.args_enumerate_next_1 _))))
    show wpAny _ _ (field (.ref e) 2 >>= _) _ _ _
    refine wpAny_bind (wpAny_field he rfl (x := .ref it) rfl ?_)
    refine wpAny_bind (wpAny_nextOf_tuple_end (show X.A.in1.handled = none from I.ok.hd hc) hit p (by simp; omega) fun h' x he' hx' => ?_)
    obtain ⟨o, ho, hc'⟩ := hx'
    refine wpAny_bind (wpAny_isInstance (T := "StopIteration") (b := true) ⟨o, ho, hc'⟩ isSubtype_stop ?_)
    exact wpAny_pure ⟨rfl, I.turned (t' := s.toks) (fun b o hb q => he' b o hb q) f0 f1 f3 f4 f5⟩
  self := fun A i s Q E st h => let ⟨⟨_, he⟩, _⟩ := st; wpAny_pyIter_enum he h
def iEnumT (K : PySem.W.Frag) (ta : TA) : TI := fun σ H R => ta σ H fun vs H1 => ∃ a xs, vs = [.ref a] ∧ SqT K H1 a xs ∧ R (IteT K a) H1
theorem pi_enumT {X : Cx} {e : Expr} {ta : TA} {p pos tpos : Pos} {elts : List Expr} {kk : Nat} (hg : Gl X "enumerate") (hm : X.mg "enumerate" = none) (ha : PA X [e] ta) (hs : starEach [e] X.env = [(false, eval e X.env)] := by rfl) :
    PI X (.Tuple elts kk tpos) (.Call (.Name "enumerate" p) [e] [] pos) (iEnumT X.K ta) := by
  refine ⟨fun pins s σ H R I h => ?_⟩
  refine Call_ (ld_blt I hg hm boot_enumerate (PyProof.Rows.callWith_type1 (thn (ha.run pos pins s σ H _ I h) fun us s1 ⟨vs, H1, I1, r1, q1⟩ => ?_) hs rfl))
  obtain ⟨a, xs, ex, hq, q⟩ := q1
  subst ex
  cases r1 with
  | cons r rr =>
    cases rr
    cases r
    obtain ⟨its, rv, p', hz⟩ := I1.tuple hq
    have hal : a < s1.heap.objs.size := by obtain ⟨_, q, _⟩ := id p'; exact Heap.lt_size q
    refine call_enumerate_tuple (show s1.heap.IsTuple a its.toArray from p') fun h' he hit hsz hk => wpAny_pyIter_enum he ?_
    have I2 : Inv X pins σ H1 { s1 with heap := h' } := I1.kept (t' := s1.toks) hk
    refine ⟨s1.heap.objs.size + 1, [s1.heap.objs.size + 1, s1.heap.objs.size], _, _, H1, rfl, I2, turn_enumT a (s1.heap.objs.size + 1) s1.heap.objs.size (Nat.ne_of_lt hal) (Nat.ne_of_gt (Nat.lt_succ_of_lt hal)), ⟨⟨.none, he⟩, hit, Nat.succ_ne_self _⟩, fun b hb => ?_, q⟩
    have e' : b = s1.heap.objs.size + 1 ∨ b = s1.heap.objs.size := by simpa using hb
    have hle : s1.heap.objs.size ≤ b := by
      rcases e' with z | z
      · rw [z]; exact Nat.le_add_right _ _
      · rw [z]; exact Nat.le_refl _
    exact I1.fpOk hle (I1.hok.fresh hle)
theorem walk_enumT {K : PySem.W.Frag} {a : Addr} {xs : List V} : Walk (IteT K a) xs.length (fun H => SqT K H a xs) (YPair (fun i => some (.int (i : Nat))) (fun i => xs[i]?)) := by
  refine ⟨fun i _ hi q => ⟨xs, xs[i], q, by simp [hi]⟩, fun _ q => ⟨xs, q, Nat.le_refl _⟩, fun i H v H' _ q y => ?_⟩
  obtain ⟨T, x, h1, h2, h3, h4⟩ := y
  exact ⟨T, .int (i : Nat), x, h1, h2, h3, rfl, h4 xs q⟩
theorem walk_zipT {K : PySem.W.Frag} {a b : Addr} {xs ys : List V} {n : Nat} (hn : n = min xs.length ys.length) : Walk (RZ.ItzT K a b) n (fun H => SqT K H a xs ∧ SqT K H b ys) (YPair (fun i => xs[i]?) (fun i => ys[i]?)) := by
  subst hn
  refine ⟨fun i _ hi q => ?_, fun _ q => ⟨xs, ys, q.1, q.2, by omega⟩, fun i H v H' _ q y => ?_⟩
  · have h1 : i < xs.length := by omega
    have h2 : i < ys.length := by omega
    exact ⟨xs, ys, xs[i], ys[i], q.1, q.2, by simp [h1], by simp [h2]⟩
  · obtain ⟨T, x, y', h1, h2, h3, h4, h5⟩ := y
    exact ⟨T, x, y', h1, h2, h3, h4 xs q.1, h5 ys q.2⟩
end

/-! ### pruning -/
def Nd.re (f : Nat → Nat) : Nd → Nd
  | .input s l h => .input s l h
  | .const s n => .const s n
  | .bc k as => .bc k (as.map f)
  | .dot l as => .dot l (as.map f)
  | .mv k as => .mv k (as.map f)
theorem re_nm (f : Nat → Nat) (nd : Nd) : (nd.re f).nm = nd.nm := by cases nd <;> rfl
theorem re_args (f : Nat → Nat) (nd : Nd) : (nd.re f).args = nd.args.map f := by cases nd <;> rfl
theorem re_info {K : PySem.W.Frag} {H : Hp} {pi : Addr} (f : Nat → Nat) (nd : Nd) : InfoAt K H pi (nd.re f) ↔ InfoAt K H pi nd := by cases nd <;> exact Iff.rfl
def isIn : Nd → Bool
  | .input _ _ _ => true
  | _ => false
theorem isIn_nm (nd : Nd) : decide (V.str nd.nm = V.str "input") = isIn nd := by
  cases nd with
  | input _ _ _ => exact decide_eq_true rfl
  | const _ _ => exact str_ne (by show ("const" : Str) ≠ "input"; decide +kernel)
  | dot _ _ => exact str_ne (by show ("dot" : Str) ≠ "input"; decide +kernel)
  | bc k _ => exact str_ne (bk_nm k).1
  | mv k _ => exact str_ne (mv_nm k).1
theorem isIn_args {nd : Nd} (h : isIn nd = true) : nd.args = [] := by
  cases nd <;> first | rfl | cases h
def argsAt (nds : List Nd) (p : Nat) : List Nat := ((nds[p]?).map Nd.args).getD []
def inAt (nds : List Nd) (p : Nat) : Bool := ((nds[p]?).map isIn).getD false
def needL (nds : List Nd) (os : List Nat) : Nat → List Nat
  | 0 => os
  | t + 1 => if nds.length - 1 - t ∈ needL nds os t then needL nds os t ++ argsAt nds (nds.length - 1 - t) else needL nds os t
def keep (nds : List Nd) (os : List Nat) (i : Nat) : Bool := inAt nds i || decide (i ∈ needL nds os nds.length)
def pos (k : Nat → Bool) (i : Nat) : Nat := ((List.range i).filter k).length
def ndAt (nds : List Nd) (j : Nat) : Nd := (nds[j]?).getD (.input [] 0 0)
def keptN (nds : List Nd) (k : Nat → Bool) (i : Nat) : List Nd := ((List.range i).filter k).map fun j => (ndAt nds j).re (pos k)
theorem kept_len (nds : List Nd) (k : Nat → Bool) (i : Nat) : (keptN nds k i).length = pos k i := by
  unfold keptN pos
  rw [List.length_map]
theorem kept_yes {nds : List Nd} {k : Nat → Bool} {i : Nat} (h : k i = true) : keptN nds k (i + 1) = keptN nds k i ++ [(ndAt nds i).re (pos k)] := by
  unfold keptN
  rw [List.range_succ, List.filter_append, List.map_append, List.filter_cons_of_pos h]
  rfl
theorem kept_no {nds : List Nd} {k : Nat → Bool} {i : Nat} (h : k i = false) : keptN nds k (i + 1) = keptN nds k i := by
  unfold keptN
  rw [List.range_succ, List.filter_append, List.map_append, List.filter_cons_of_neg (by rw [h]; exact Bool.false_ne_true)]
  simp
theorem need_mono (nds : List Nd) (os : List Nat) (t : Nat) {i : Nat} (h : i ∈ needL nds os t) : i ∈ needL nds os (t + 1) := by
  unfold needL
  split
  · exact List.mem_append_left _ h
  · exact h
theorem need_le (nds : List Nd) (os : List Nat) {i : Nat} : ∀ (d t : Nat), i ∈ needL nds os t → i ∈ needL nds os (t + d)
  | 0, _, h => h
  | d + 1, t, h => need_mono nds os (t + d) (need_le nds os d t h)
/-- args are earlier -/
def Back (nds : List Nd) : Prop := ∀ p a, a ∈ argsAt nds p → a < p
theorem need_back {nds : List Nd} {os : List Nat} (hb : Back nds) {i : Nat} (hi : i < nds.length) : ∀ d, nds.length - 1 - i + d ≤ nds.length → i ∈ needL nds os (nds.length - 1 - i + d) → i ∈ needL nds os (nds.length - 1 - i)
  | 0, _, h => h
  | d + 1, hd, h => by
    refine need_back hb hi d (by omega) ?_
    have h : i ∈ needL nds os ((nds.length - 1 - i + d) + 1) := h
    unfold needL at h
    split at h
    · rcases List.mem_append.mp h with h | h
      · exact h
      · have := hb _ _ h
        omega
    · exact h
theorem keep_args {nds : List Nd} {os : List Nat} (hb : Back nds) {i a : Nat} (hi : i < nds.length) (hk : keep nds os i = true) (ha : a ∈ argsAt nds i) : keep nds os a = true := by
  unfold keep at *
  rw [Bool.or_eq_true] at hk ⊢
  rcases hk with hk | hk
  · unfold inAt argsAt at *
    cases e : nds[i]? with
    | none => rw [e] at hk; cases hk
    | some nd =>
      rw [e] at hk ha
      have h1 : isIn nd = true := hk
      have h2 : a ∈ nd.args := ha
      rw [isIn_args h1] at h2
      cases h2
  · right
    have h1 := of_decide_eq_true hk
    have h2 := need_back (os := os) hb hi (i + 1) (by omega) (by rw [show nds.length - 1 - i + (i + 1) = nds.length by omega]; exact h1)
    have h3 : a ∈ needL nds os (nds.length - 1 - i + 1) := by
      unfold needL
      rw [if_pos (by rw [show nds.length - 1 - (nds.length - 1 - i) = i by omega]; exact h2), show nds.length - 1 - (nds.length - 1 - i) = i by omega]
      exact List.mem_append_right _ ha
    have h4 := need_le nds os i _ h3
    rw [show nds.length - 1 - i + 1 + i = nds.length by omega] at h4
    exact decide_eq_true h4
theorem keep_out {nds : List Nd} {os : List Nat} {o : Nat} (h : o ∈ os) : keep nds os o = true := by
  unfold keep
  rw [Bool.or_eq_true]
  right
  have := need_le nds os nds.length 0 (show o ∈ needL nds os 0 from h)
  rw [Nat.zero_add] at this
  exact decide_eq_true this
theorem wf_back {nds : List Nd} {ds : List Dom} (w : WfG nds ds) : Back nds := fun p a h => by
  unfold argsAt at h
  cases e : nds[p]? with
  | none => rw [e] at h; cases h
  | some nd =>
    rw [e] at h
    have h : a ∈ nd.args := h
    have hp : p < ds.length := by rw [← w.l]; exact (List.getElem?_eq_some_iff.mp e).1
    obtain ⟨g, _⟩ := w.g p nd ds[p] e (List.getElem?_eq_getElem hp)
    rcases g with g | g
    · rw [g.args.1] at h
      cases h
    · exact g.2.2.2 a h
def bools (n : Nat) (P : Nat → Bool) : List V := (List.range n).map fun i => V.bl (P i)
theorem bools_len (n : Nat) (P : Nat → Bool) : (bools n P).length = n := by unfold bools; rw [List.length_map, List.length_range]
theorem bools_at {n : Nat} {P : Nat → Bool} {i : Nat} (h : i < n) : (bools n P)[i]? = some (.bl (P i)) := by
  unfold bools
  rw [List.getElem?_map, List.getElem?_range h]
  rfl
theorem bools_set {n a : Nat} {P : Nat → Bool} : (bools n P).set a (.bl true) = bools n fun i => P i || decide (i = a) := by
  refine List.ext_getElem? fun i => ?_
  rw [List.getElem?_set, bools_len]
  by_cases hi : i < n
  · rw [bools_at (P := fun i => P i || decide (i = a)) hi]
    by_cases e : a = i
    · rw [if_pos e, if_pos (by omega), decide_eq_true e.symm, Bool.or_true]
    · rw [if_neg e, bools_at hi, decide_eq_false (fun z => e z.symm), Bool.or_false]
  · rw [List.getElem?_eq_none_iff.mpr (show (bools n fun i => P i || decide (i = a)).length ≤ i by rw [bools_len]; omega)]
    by_cases e : a = i
    · rw [if_pos e, if_neg (by omega)]
    · rw [if_neg e]
      exact List.getElem?_eq_none_iff.mpr (by rw [bools_len]; omega)
theorem bools_congr {n : Nat} {P Q : Nat → Bool} (h : ∀ i, i < n → P i = Q i) : bools n P = bools n Q := by
  unfold bools
  refine List.map_congr_left fun i hi => ?_
  rw [h i (List.mem_range.mp hi)]
theorem or_snoc {i a : Nat} {l : List Nat} {b : Bool} : (b || decide (i ∈ l ++ [a])) = ((b || decide (i ∈ l)) || decide (i = a)) := by
  rw [Bool.eq_iff_iff]
  simp only [Bool.or_eq_true, decide_eq_true_iff, List.mem_append, List.mem_singleton]
  exact or_assoc.symm
/-- tuples stay -/
def TK (H H' : Hp) : Prop := ∀ b o, H b = some o → ((∃ xs, o = .tup xs) ∨ ∃ p u, o = .frz p u) → H' b = some o
theorem sqT_tk {K : PySem.W.Frag} {H H' : Hp} {a : Addr} {xs : List V} (h : SqT K H a xs) (s : TK H H') : SqT K H' a xs := by
  rcases h with (h | ⟨o, h⟩) | h
  · exact .inl (.inl (s _ _ h (.inl ⟨_, rfl⟩)))
  · exact .inl (.inr ⟨o, s _ _ h (.inr ⟨_, _, rfl⟩)⟩)
  · exact .inr h
theorem ShT.tk {K : PySem.W.Frag} {H H' : Hp} {a : Addr} {sh : Sh} (h : ShT K H a sh) (s : TK H H') : ShT K H' a sh := by
  obtain ⟨ts, h1, h2, h3⟩ := h
  exact ⟨ts, sqT_tk h1 s, h2, fun i t p a b => sqT_tk (h3 i t p a b) s⟩
theorem NoD.tk {K : PySem.W.Frag} {H H' : Hp} {a : Addr} (h : NoD K H a) (s : TK H H') : NoD K H' a := by
  obtain ⟨o, hd, h⟩ := h
  exact ⟨o, hd, h.imp (fun ⟨u, e⟩ => ⟨u, s _ _ e (.inr ⟨_, _, rfl⟩)⟩) id⟩
theorem InfoAt.tk {K : PySem.W.Frag} {H H' : Hp} {pi : Addr} {nd : Nd} (h : InfoAt K H pi nd) (s : TK H H') : InfoAt K H' pi nd := by
  cases nd with
  | input sh lo hi =>
    obtain ⟨a, h1, h2, h3⟩ := h
    exact ⟨a, sqT_tk h1 s, h2.tk s, h3.tk s⟩
  | const sh ns =>
    obtain ⟨a, pd, h1, h2, h3, h4⟩ := h
    exact ⟨a, pd, sqT_tk h1 s, h2.tk s, h3.tk s, sqT_tk h4 s⟩
  | bc k as => exact sqT_tk h s
  | dot l as => exact sqT_tk h s
  | mv k as => exact sqT_tk h s
theorem NdAt.tk {K : PySem.W.Frag} {H H' : Hp} {v : V} {nd : Nd} (h : NdAt K H v nd) (s : TK H H') : NdAt K H' v nd := by
  obtain ⟨pn, pa, pi, e, h1, h2, h3⟩ := h
  exact ⟨pn, pa, pi, e, sqT_tk h1 s, sqT_tk h2 s, h3.tk s⟩
theorem Nds.tk {K : PySem.W.Frag} {H H' : Hp} {vs : List V} {nds : List Nd} (h : Nds K H vs nds) (s : TK H H') : Nds K H' vs nds := ⟨h.1, fun i v d a b => (h.2 i v d a b).tk s⟩
theorem tk_dict {H : Hp} {d : Addr} {kvs : List (Key × V)} {o : HO} (h : H d = some (.dK kvs)) : TK H (upd H d o) := fun b x e t => by
  by_cases hb : b = d
  · subst hb
    rw [h] at e
    cases e
    rcases t with ⟨_, t⟩ | ⟨_, _, t⟩ <;> cases t
  · rw [upd_ne hb]
    exact e
theorem ixN_nat {n a : Nat} (h : a < n) : ixN n (a : Int) = some a := by
  unfold ixN
  rw [if_pos (by omega), if_pos (by omega), Int.toNat_natCast]
section
variable {P : Program} {w : World} {K : PySem.W.Frag} {mg : Str → Option Value} {base : Heap}
structure TxtP (mg : Str → Option Value) extends TxtC mg where
  range : mg "range" = none
  reversed : mg "reversed" = none
  enumerate : mg "enumerate" = none
def spMoved (K : PySem.W.Frag) : Sp := fun vs H Q _ => ∃ (v : V) (dp : Addr) (nd : Nd) (kvs : List (Key × V)) (f : Nat → Nat), vs = [v, .ref dp] ∧ NdAt K H v nd ∧ H dp = some (.dK kvs) ∧ (∀ a ∈ nd.args, valV kvs (.inl (a : Int)) = some (.int ((f a : Nat) : Int))) ∧ nd.args.length ≤ 900 ∧ ∀ H' u, Same H H' → NdAt K H' u (nd.re f) → Q u H'
abbrev nMo : List Str := ["node", "places", "kind", "args", "info", "arg"]
theorem scMo : FnScope nMo ["node", "places"] (defScope s_moved) := ⟨rfl, rfl, rfl, by decide +kernel, rfl, by decide +kernel, by decide +kernel⟩
theorem ok_moved {f : Addr} {fd : FuncData} (F : Fun K "_moved" "_moved" s_moved f fd) (T : TxtC mg) : FnOk P w K mg base CX0 1 f fd ["node", "places"] (spMoved K) := by
  refine F.ok scMo (fun vs H Q E h => ?_) (fun cdv A outer s H vs Q E hr h => ?_)
  · obtain ⟨v, dp, nd, kvs, g, rfl, _⟩ := h
    rfl
  · obtain ⟨v, dp, nd, kvs, g, rfl, ⟨pn, pa, pi, rfl, hpn, hpa, hpi⟩, hdp, hv, hl, q⟩ := h
    refine ⟨_, (pss_cons (ps_asg (pv 0) (pg_tup rfl (pgs_cons (pg_name (i := 2) scMo.nd rfl (.inl rfl)) (pgs_cons (pg_name (i := 3) scMo.nd rfl (.inl rfl)) (pgs_cons (pg_name (i := 4) scMo.nd rfl (.inl rfl)) pgs_nil)))))
      (pss_one (ps_ret (pe_tup (pa_cons (pv 2) (pa_cons (pe_callTy call_tuple_of (by rfl) T.tuple (by decide +kernel) (pa_cons (pe_lc (own := [("arg", 5)]) (g := (gName 5)) (tt := tYes) (te := (tDGet (tVar 1) (tVar 5))) rfl scMo.nd (pi_tup (pv 3)) (blkOk_by (N := nMo) (sc := defScope s_moved) (by decide +kernel)) (fun _ _ _ _ _ => (pg_name (i := 5) scMo.nd rfl (.inl rfl) (hf := Or.inr rfl))) (fun _ _ _ _ _ => pts_nil) (fun _ _ _ _ _ => (pe_dget (Nat.lt_of_le_of_lt (Nat.add_le_add_left (by decide) _) hr.units) (pv 1) (pv 5) (fun _ _ => rfl)))) pa_nil)) (pa_cons (pv 4) pa_nil))))))), ?_⟩
    refine ⟨_, rfl, pn, _, rfl, hpn, rfl, _, _, rfl, _, _, rfl, _, _, rfl, rfl, ?_⟩
    refine ⟨_, rfl, _, rfl, pa, rfl, ⟨_, hpa⟩, fun D nD => lc_tup (K := K) (a := pa) (xs := (asInts nd.args).map V.int) (fun i H' => Same H H' ∧ H' D = some (.lst ((asInts ((nd.args.take i).map g)).map V.int))) ⟨same_upd nD, upd_same⟩ (fun i H' _ h => sqT_same hpa h.1) ?_ ?_⟩
    · rintro i x H' hx ⟨sm, hD⟩
      obtain ⟨a, rfl, ha⟩ := map_int_at hx
      unfold asInts at ha
      rw [List.getElem?_map] at ha
      obtain ⟨k, hk, rfl⟩ := Option.map_eq_some_iff.mp ha
      have hi : i < nd.args.length := (List.getElem?_eq_some_iff.mp hk).1
      refine ⟨rfl, ?_⟩
      unfold tYes
      dsimp only
      rw [if_pos rfl]
      have hget := DGet.k (k := .inl (k : Int)) (sm _ _ hdp)
      rw [hv k (List.mem_of_getElem? hk)] at hget
      refine ⟨_, rfl, _, rfl, dp, _, rfl, hget, _, hD, ?_, fun b o e => by rw [upd_ne (ne_of_none e nD)]; exact sm _ _ e, ?_⟩
      · rw [List.length_map, asInts, List.length_map, List.length_map, List.length_take]
        exact small1000 (by omega)
      · rw [upd_same, take_snoc hk]
        simp [asInts]
    · rintro H' ⟨sm, hD⟩
      rw [List.take_of_length_le (by rw [List.length_map, asInts, List.length_map]; exact Nat.le_refl _)] at hD
      refine ⟨D, _, rfl, .inl ⟨SqL.of hD, fun l nl => ?_⟩⟩
      have s1 := same_upd (o := .tup ((asInts (nd.args.map g)).map V.int)) nl
      refine ⟨_, rfl, by show 3 ≤ sizeLine; decide, fun p np => ?_⟩
      have s2 := same_upd (o := .tup [.str nd.nm, .ref l, .ref pi]) np
      have s12 := (sm.trans s1).trans s2
      refine q _ _ s12 ⟨p, l, pi, rfl, by rw [re_nm]; exact SqT.of upd_same, by rw [re_args]; exact sqT_same (SqT.of upd_same) s2, (re_info g nd).mpr (hpi.keep (Same.nl s12))⟩
end
theorem re_lawD (f : Nat → Nat) (nd : Nd) (gs : List Dom) : lawD (nd.re f) gs = lawD nd gs := by
  cases nd with
  | input _ _ _ => rfl
  | const _ _ => rfl
  | dot l as =>
    match gs with
    | [] => rfl
    | [_] => rfl
    | [_, _] => rfl
    | _ :: _ :: _ :: _ => rfl
  | bc k as =>
    cases k <;> (match gs with
    | [] => rfl
    | [_] => rfl
    | [_, _] => rfl
    | [_, _, _] => rfl
    | _ :: _ :: _ :: _ :: _ => rfl)
  | mv k as =>
    cases k <;> (match gs with
    | [] => rfl
    | [_] => rfl
    | [_, _] => rfl
    | _ :: _ :: _ :: _ => rfl)
theorem re_isIn (f : Nat → Nat) (nd : Nd) : isIn (nd.re f) = isIn nd := by cases nd <;> rfl
theorem re_ar (f : Nat → Nat) (nd : Nd) : arN (nd.re f) = arN nd := by
  cases nd with
  | bc k _ => cases k <;> rfl
  | mv k _ => cases k <;> rfl
  | input _ _ _ => rfl
  | const _ _ => rfl
  | dot _ _ => rfl
theorem re_good {f : Nat → Nat} {nd : Nd} {m m' : Nat} (h : GoodN nd m) (hf : ∀ a ∈ nd.args, f a < m') : GoodN (nd.re f) m' := by
  rcases h with h | ⟨h1, h2, h3, h4⟩
  · left
    cases nd <;> first | exact h | exact h.elim
  · right
    refine ⟨?_, ?_, by rw [re_args, List.length_map, re_ar]; exact h3, fun a ha => ?_⟩
    · cases nd <;> first | exact h1 | exact trivial
    · cases nd with
      | input _ _ _ => exact trivial
      | const _ _ => exact trivial
      | dot _ _ => exact h2
      | bc k _ => cases k <;> exact h2
      | mv k _ => exact h2
    · rw [re_args] at ha
      obtain ⟨b, hb, rfl⟩ := List.mem_map.mp ha
      exact hf b hb
theorem re_id {f : Nat → Nat} {nd : Nd} (h : ∀ a ∈ nd.args, f a = a) : nd.re f = nd := by
  have m : ∀ l : List Nat, (∀ a ∈ l, f a = a) → l.map f = l := fun l hl => by
    rw [List.map_congr_left (g := id) fun a ha => hl a ha]
    exact List.map_id _
  cases nd with
  | input _ _ _ => rfl
  | const _ _ => rfl
  | bc k as => show Nd.bc k (as.map f) = _; rw [m as h]
  | dot l as => show Nd.dot l (as.map f) = _; rw [m as h]
  | mv k as => show Nd.mv k (as.map f) = _; rw [m as h]
/-- where all is kept, all stays as it is -/
theorem totW_le {nds : List Nd} {ds : List Dom} (w : WfG nds ds) : totW nds ds ≤ 4096 * nds.length := by
  have h : ∀ i, i ≤ nds.length → ((worksOf nds ds).take i).sum ≤ 4096 * (i : Int) := by
    intro i
    induction i with
    | zero => intro _; simp
    | succ i ih =>
      intro hi
      obtain ⟨nd, hnd⟩ : ∃ nd, nds[i]? = some nd := ⟨_, List.getElem?_eq_getElem (by omega)⟩
      obtain ⟨d, hd⟩ : ∃ d, ds[i]? = some d := ⟨_, List.getElem?_eq_getElem (by rw [← w.l]; omega)⟩
      obtain ⟨w1, w2, w3, w4, w5, w6⟩ := w.work hnd hd
      rw [sum_take w6]
      have := work_le (nd := nd) (by rw [w1.1]; exact w4) w2 w3
      have := ih (by omega)
      omega
  have := h nds.length (Nat.le_refl _)
  rwa [List.take_of_length_le (by unfold worksOf; rw [List.length_map, List.length_zip]; exact Nat.min_le_left _ _)] at this
/-! ### dicts whose keys are nested tuples -/
def rawD (P : Program) (w : World) (a : Addr) (xs : List (NestedKey × Addr × Value)) (h : Heap) : Prop :=
  (a == sysModules) = false ∧ ∃ o es ep, h.get? a = some o ∧ o.ExactDict ∧ o.data = Data.dict es ep ∧ es.toList = xs.map (entryOfKey (nestedKind P w)) ∧ (xs.map (·.1)).Nodup
theorem raw_ok {P : Program} {w : World} {H : Hp} {h : Heap} {a : Addr} {xs : List (NestedKey × Addr × Value)} (r : rawD P w a xs h) : ObjOk P w H h a (.ext (rawD P w a xs)) := by
  obtain ⟨l, o, es, ep, h1, h2⟩ := id r
  exact ⟨r, ⟨o, h1⟩, fun k1 k2 ⟨l, o, es, ep, h1, h2⟩ k => ⟨l, o, es, ep, k o h1, h2⟩⟩
theorem pe_dnewN {X : Cx} {pos : Pos} : PE X (Expr.Dict [] [] pos) (fun σ H Q => ∀ p, H p = none → Q (.ref p) (upd H p (.ext (rawD X.prog X.w p [])))) := ⟨fun pins s σ H Q I h => by
  have hb := Inv.big I
  refine wpAny_Dict_empty ⟨.ref s.heap.objs.size, upd H s.heap.objs.size (.ext (rawD X.prog X.w s.heap.objs.size [])), Inv.laid I (fun x x_1 q => Heap.get?_push_of_some _ q) (Nat.le_refl _) (raw_ok ⟨?_, _, _, _, Heap.get?_push_size s.heap rfl, ⟨rfl, rfl, rfl⟩, rfl, rfl, List.nodup_nil⟩), rfl, h _ (HOk.fresh I.hok (Nat.le_refl _))⟩
  exact beq_eq_false_iff_ne.mpr (Nat.ne_of_gt hb)⟩
mutual
def keyD : PyData → NestedKey
  | .int i => .num i
  | .str x => .text x
  | .tuple ds => .tup (keyDs ds)
  | _ => .none
def keyDs : List PyData → List NestedKey
  | [] => []
  | d :: ds => keyD d :: keyDs ds
end
mutual
def plainD : PyData → Bool
  | .int _ => true
  | .str _ => true
  | .tuple ds => plainDs ds
  | _ => false
def plainDs : List PyData → Bool
  | [] => true
  | d :: ds => plainD d && plainDs ds
end
mutual
theorem keyD_inj : ∀ {d e : PyData}, plainD d = true → plainD e = true → keyD d = keyD e → d = e
  | .int i, .int j, _, _, h => by simp only [keyD, NestedKey.num.injEq] at h; rw [h]
  | .str i, .str j, _, _, h => by simp only [keyD, NestedKey.text.injEq] at h; rw [h]
  | .tuple ds, .tuple es, hd, he, h => by
    simp only [keyD, NestedKey.tup.injEq] at h
    simp only [plainD] at hd he
    rw [keyDs_inj hd he h]
  | .int _, .str _, _, _, h => by simp [keyD] at h
  | .int _, .tuple _, _, _, h => by simp [keyD] at h
  | .str _, .int _, _, _, h => by simp [keyD] at h
  | .str _, .tuple _, _, _, h => by simp [keyD] at h
  | .tuple _, .int _, _, _, h => by simp [keyD] at h
  | .tuple _, .str _, _, _, h => by simp [keyD] at h
  | .none, _, h, _, _ => by simp [plainD] at h
  | .bool _, _, h, _, _ => by simp [plainD] at h
  | .list _, _, h, _, _ => by simp [plainD] at h
  | .dict _, _, h, _, _ => by simp [plainD] at h
  | .int _, .none, _, h, _ => by simp [plainD] at h
  | .int _, .bool _, _, h, _ => by simp [plainD] at h
  | .int _, .list _, _, h, _ => by simp [plainD] at h
  | .int _, .dict _, _, h, _ => by simp [plainD] at h
  | .str _, .none, _, h, _ => by simp [plainD] at h
  | .str _, .bool _, _, h, _ => by simp [plainD] at h
  | .str _, .list _, _, h, _ => by simp [plainD] at h
  | .str _, .dict _, _, h, _ => by simp [plainD] at h
  | .tuple _, .none, _, h, _ => by simp [plainD] at h
  | .tuple _, .bool _, _, h, _ => by simp [plainD] at h
  | .tuple _, .list _, _, h, _ => by simp [plainD] at h
  | .tuple _, .dict _, _, h, _ => by simp [plainD] at h
theorem keyDs_inj : ∀ {ds es : List PyData}, plainDs ds = true → plainDs es = true → keyDs ds = keyDs es → ds = es
  | [], [], _, _, _ => rfl
  | d :: ds, e :: es, hd, he, h => by
    simp only [plainDs, Bool.and_eq_true] at hd he
    simp only [keyDs, List.cons.injEq] at h
    rw [keyD_inj hd.1 he.1 h.1, keyDs_inj hd.2 he.2 h.2]
  | [], _ :: _, _, _, h => by simp [keyDs] at h
  | _ :: _, [], _, _, h => by simp [keyDs] at h
end
mutual
theorem nkD {X : Cx} {pins : List (Addr × Obj)} {σ : St} {H : Hp} {s : Shared} (I : Inv X pins σ H s) : ∀ {d : PyData} {v : V} {u : Value}, Dp X.K H v d → plainD d = true → RelV v u → NestedIs s.heap (keyD d) u
  | .int i, v, u, h, _, r => by
    cases h
    obtain ⟨t, rfl⟩ := r
    simp only [keyD]
    exact .int i t
  | .str i, v, u, h, _, r => by
    cases h
    obtain ⟨t, rfl⟩ := r
    simp only [keyD]
    exact .text i t
  | .tuple ds, v, u, h, hp, r => by
    cases h with
    | tup hq ha =>
      cases r
      simp only [plainD] at hp
      obtain ⟨its, rv, ⟨o, h1, h2, n, h3⟩, _⟩ := I.tuple hq
      simp only [keyD]
      exact .tup h1 h2 h3 (nkDs I ha hp rv)
  | .none, _, _, _, h, _ => by simp [plainD] at h
  | .bool _, _, _, _, h, _ => by simp [plainD] at h
  | .list _, _, _, _, h, _ => by simp [plainD] at h
  | .dict _, _, _, _, h, _ => by simp [plainD] at h
theorem nkDs {X : Cx} {pins : List (Addr × Obj)} {σ : St} {H : Hp} {s : Shared} (I : Inv X pins σ H s) : ∀ {ds : List PyData} {vs : List V} {us : List Value}, DpAll X.K H vs ds → plainDs ds = true → Vals vs us → NestedAll s.heap (keyDs ds) us
  | [], vs, us, h, _, r => by
    cases h
    cases r
    simp only [keyDs]
    exact .nil
  | d :: ds, vs, us, h, hp, r => by
    cases h with
    | cons h1 h2 =>
      cases r with
      | cons r1 r2 =>
        simp only [plainDs, Bool.and_eq_true] at hp
        simp only [keyDs]
        exact .cons (nkD I h1 hp.1 r1) (nkDs I h2 hp.2 r2)
end
/-- tuples are kept -/
def KeepT (K : PySem.W.Frag) (H H' : Hp) : Prop := ∀ a xs, SqT K H a xs → SqT K H' a xs
theorem KeepT.trans {K : PySem.W.Frag} {H H1 H2 : Hp} (a : KeepT K H H1) (b : KeepT K H1 H2) : KeepT K H H2 := fun p xs h => b p xs (a p xs h)
mutual
theorem dp_kt {K : PySem.W.Frag} {H H' : Hp} (k : KeepT K H H') : ∀ {d : PyData} {v : V}, Dp K H v d → plainD d = true → Dp K H' v d
  | .int i, v, h, _ => by
    cases h
    exact .int i
  | .str i, v, h, _ => by
    cases h
    exact .str i
  | .tuple ds, v, h, hp => by
    cases h with
    | tup hq ha =>
      simp only [plainD] at hp
      exact .tup (k _ _ hq) (dps_kt k ha hp)
  | .none, _, _, h => by simp [plainD] at h
  | .bool _, _, _, h => by simp [plainD] at h
  | .list _, _, _, h => by simp [plainD] at h
  | .dict _, _, _, h => by simp [plainD] at h
theorem dps_kt {K : PySem.W.Frag} {H H' : Hp} (k : KeepT K H H') : ∀ {ds : List PyData} {vs : List V}, DpAll K H vs ds → plainDs ds = true → DpAll K H' vs ds
  | [], vs, h, _ => by
    cases h
    exact .nil
  | d :: ds, vs, h, hp => by
    cases h with
    | cons h1 h2 =>
      simp only [plainDs, Bool.and_eq_true] at hp
      exact .cons (dp_kt k h1 hp.1) (dps_kt k h2 hp.2)
end
def DNs (K : PySem.W.Frag) (H : Hp) : List (NestedKey × Addr × Value) → List (PyData × Int) → Prop
  | [], [] => True
  | x :: xs, p :: ps => (x.1 = keyD p.1 ∧ plainD p.1 = true ∧ (keyD p.1).depth ≤ 8 ∧ Dp K H (.ref x.2.1) p.1 ∧ ∃ t, x.2.2 = .int p.2 t) ∧ DNs K H xs ps
  | _, _ => False
def DN (P : Program) (w : World) (K : PySem.W.Frag) (H : Hp) (G : Addr) (kvs : List (PyData × Int)) : Prop := ∃ xs, H G = some (.ext (rawD P w G xs)) ∧ DNs K H xs kvs
theorem DNs.kt {K : PySem.W.Frag} {H H' : Hp} (k : KeepT K H H') : ∀ {xs : List (NestedKey × Addr × Value)} {kvs : List (PyData × Int)}, DNs K H xs kvs → DNs K H' xs kvs
  | [], [], h => h
  | x :: xs, p :: ps, h => ⟨⟨h.1.1, h.1.2.1, h.1.2.2.1, dp_kt k h.1.2.2.2.1 h.1.2.1, h.1.2.2.2.2⟩, DNs.kt k h.2⟩
  | [], _ :: _, h => h.elim
  | _ :: _, [], h => h.elim
theorem DN.kt {P : Program} {w : World} {K : PySem.W.Frag} {H H' : Hp} {G : Addr} {kvs : List (PyData × Int)} (k : KeepT K H H') (e : ∀ o, H G = some o → H' G = some o) : DN P w K H G kvs → DN P w K H' G kvs
  | ⟨xs, h1, h2⟩ => ⟨xs, e _ h1, h2.kt k⟩
theorem DNs.len {K : PySem.W.Frag} {H : Hp} : ∀ {xs : List (NestedKey × Addr × Value)} {kvs : List (PyData × Int)}, DNs K H xs kvs → xs.length = kvs.length
  | [], [], _ => rfl
  | x :: xs, p :: ps, h => by rw [List.length_cons, List.length_cons, DNs.len h.2]
  | [], _ :: _, h => h.elim
  | _ :: _, [], h => h.elim
def lookN (kvs : List (PyData × Int)) (d : PyData) : Option Int := (kvs.find? fun p => decide (keyD p.1 = keyD d)).map (·.2)
def putN (kvs : List (PyData × Int)) (d : PyData) (n : Int) : List (PyData × Int) := if (lookN kvs d).isSome = true then kvs.map (fun p => if keyD p.1 = keyD d then (p.1, n) else p) else kvs ++ [(d, n)]
theorem look_at {K : PySem.W.Frag} {H : Hp} {d : PyData} : ∀ {xs : List (NestedKey × Addr × Value)} {kvs : List (PyData × Int)}, DNs K H xs kvs →
    (lookN kvs d = none ∧ atKey xs (keyD d) = none) ∨ ∃ n a t, lookN kvs d = some n ∧ atKey xs (keyD d) = some (a, .int n t)
  | [], [], _ => .inl ⟨rfl, rfl⟩
  | x :: xs, p :: ps, h => by
    obtain ⟨⟨h1, _, _, _, t, h2⟩, h3⟩ := h
    unfold lookN atKey
    by_cases e : keyD p.1 = keyD d
    · rw [List.find?_cons_of_pos (by exact decide_eq_true e), List.find?_cons_of_pos (by rw [h1]; exact decide_eq_true e)]
      exact .inr ⟨p.2, x.2.1, t, rfl, by rw [← h2]; rfl⟩
    · rw [List.find?_cons_of_neg (by rw [decide_eq_false e]; exact Bool.false_ne_true), List.find?_cons_of_neg (by rw [h1, decide_eq_false e]; exact Bool.false_ne_true)]
      exact look_at h3
  | [], _ :: _, h => h.elim
  | _ :: _, [], h => h.elim
theorem DNs.append {K : PySem.W.Frag} {H : Hp} : ∀ {xs : List (NestedKey × Addr × Value)} {kvs : List (PyData × Int)} {ys : List (NestedKey × Addr × Value)} {lvs : List (PyData × Int)}, DNs K H xs kvs → DNs K H ys lvs → DNs K H (xs ++ ys) (kvs ++ lvs)
  | [], [], _, _, _, h => h
  | x :: xs, p :: ps, _, _, h, h' => ⟨h.1, DNs.append h.2 h'⟩
  | [], _ :: _, _, _, h, _ => h.elim
  | _ :: _, [], _, _, h, _ => h.elim
theorem DNs.put {K : PySem.W.Frag} {H : Hp} {d : PyData} {n : Int} {t : Tok} : ∀ {xs : List (NestedKey × Addr × Value)} {kvs : List (PyData × Int)}, DNs K H xs kvs → DNs K H (xs.map (putAt (keyD d) (.int n t))) (kvs.map fun p => if keyD p.1 = keyD d then (p.1, n) else p)
  | [], [], h => h
  | x :: xs, p :: ps, h => by
    obtain ⟨⟨h1, h2, h3, h4, h5⟩, h6⟩ := h
    refine ⟨?_, DNs.put h6⟩
    unfold putAt
    dsimp only
    by_cases e : keyD p.1 = keyD d
    · rw [if_pos e, if_pos (h1.trans e)]
      exact ⟨h1, h2, h3, h4, t, rfl⟩
    · rw [if_neg e, if_neg (fun z => e (h1.symm.trans z))]
      exact ⟨h1, h2, h3, h4, h5⟩
  | [], _ :: _, h => h.elim
  | _ :: _, [], h => h.elim
theorem DNs.is {X : Cx} {pins : List (Addr × Obj)} {σ : St} {H : Hp} {s : Shared} (I : Inv X pins σ H s) : ∀ {xs : List (NestedKey × Addr × Value)} {kvs : List (PyData × Int)}, DNs X.K H xs kvs → ∀ x ∈ xs, (nestedKind X.prog X.w).is s.heap x.1 x.2.1
  | [], [], _, x, h => absurd h (List.not_mem_nil)
  | y :: ys, p :: ps, h, x, hx => by
    rcases List.mem_cons.mp hx with rfl | hx
    · obtain ⟨⟨h1, h2, h3, h4, _⟩, _⟩ := h
      rw [h1]
      exact ⟨nkD I h4 h2 rfl, h3⟩
    · exact DNs.is I h.2 x hx
  | [], _ :: _, h, _, _ => h.elim
  | _ :: _, [], h, _, _ => h.elim
theorem DN.at {X : Cx} {pins : List (Addr × Obj)} {σ : St} {H : Hp} {s : Shared} (I : Inv X pins σ H s) {G : Addr} {xs : List (NestedKey × Addr × Value)} {kvs : List (PyData × Int)} (hG : H G = some (.ext (rawD X.prog X.w G xs))) (h : DNs X.K H xs kvs) :
    (G == sysModules) = false ∧ Heap.DictOfH (nestedKind X.prog X.w) s.heap G xs := by
  obtain ⟨⟨l, o, es, ep, h1, h2, h3, h4, h5⟩, _⟩ := I.hok G _ hG
  exact ⟨l, o, es, ep, h1, h2, h3, h4, h.is I, h5⟩
theorem op_inN {X : Cx} (hu : X.A.units + 64 < cLine) : OpR X (compareOp .In) (fun x y H Q => ∃ (a G : Addr) (d : PyData) (kvs : List (PyData × Int)), x = .ref a ∧ y = .ref G ∧ Dp X.K H (.ref a) d ∧ plainD d = true ∧ (keyD d).depth ≤ 8 ∧ DN X.prog X.w X.K H G kvs ∧ Q (.bl (lookN kvs d).isSome) H) := fun pins s σ H x y v u Q I rx ry h => by
  obtain ⟨a, G, d, kvs, rfl, rfl, h1, h2, h3, ⟨xs, hG, hx⟩, q⟩ := h
  cases rx
  cases ry
  obtain ⟨l, dd⟩ := DN.at I hG hx
  refine wpAny_in_heap (knd := nestedKind X.prog X.w) (by show X.A.units + 1 + 8 < cLine; omega) ⟨nkD I h1 h2 rfl, h3⟩ l dd ?_
  refine ⟨.bl (lookN kvs d).isSome, H, Inv.tok I _, ?_, q⟩
  rcases look_at hx (d := d) with ⟨e1, e2⟩ | ⟨n, b, t, e1, e2⟩
  · rw [e1, e2]; rfl
  · rw [e1, e2]; rfl
theorem pe_dgetN {X : Cx} {o i : Expr} {pos : Pos} {td ty : TE} (hu : X.A.units + 64 < cLine) (ho : PE X o td) (hi : PE X i ty) (hs : NoSl i) :
    PE X (o.Subscript i pos) (fun σ H Q => td σ H fun x H1 => ty σ H1 fun y H2 => ∃ (a G : Addr) (d : PyData) (kvs : List (PyData × Int)) (n : Int), x = .ref G ∧ y = .ref a ∧ Dp X.K H2 (.ref a) d ∧ plainD d = true ∧ (keyD d).depth ≤ 8 ∧ DN X.prog X.w X.K H2 G kvs ∧ lookN kvs d = some n ∧ Q (.int n) H2) := ⟨fun pins s σ H Q I h => by
  refine subD_of F.slot_dict_getitem.lookup hs (thn (ho.run pins s σ H _ I h) ?_)
  rintro u s1 ⟨x, H1, I1, rx, q1⟩
  refine thn (hi.run pins s1 σ H1 _ I1 q1) ?_
  rintro iv s2 ⟨y, H2, I2, ry, a, G, d, kvs, n, rfl, rfl, h1, h2, h3, ⟨xs, hG, hx⟩, e, q2⟩
  cases rx
  cases ry
  obtain ⟨l, dd⟩ := DN.at I2 hG hx
  obtain ⟨ob, es, ep, g1, g2, g3⟩ := id dd
  refine ⟨⟨ob, g1, g2.1⟩, ?_⟩
  rcases look_at hx (d := d) with ⟨e1, e2⟩ | ⟨n', b, t, e1, e2⟩
  · rw [e] at e1
    cases e1
  · rw [e] at e1
    cases e1
    exact wpAny_getItem_heap (knd := nestedKind X.prog X.w) (by show X.A.units + 1 + 8 < cLine; omega) ⟨nkD I2 h1 h2 rfl, h3⟩ dd e2 ⟨.int n, H2, Inv.tok I2 _, ⟨t, rfl⟩, q2⟩⟩
theorem ext_kt {K : PySem.W.Frag} {H : Hp} {G : Addr} {o : HO} {φ : Heap → Prop} (h : H G = some (.ext φ)) : KeepT K H (upd H G o) := fun a xs hq => by
  rcases hq with (hq | ⟨o, hq⟩) | hq
  · exact .inl (.inl (by rw [upd_ne (ne_of hq h (fun z => nomatch z))]; exact hq))
  · exact .inl (.inr ⟨o, by rw [upd_ne (ne_of hq h (fun z => nomatch z))]; exact hq⟩)
  · exact .inr hq
theorem set_dictN {X : Cx} (hu : X.A.units + 64 < cLine) : PSet X (fun o i v H Q => ∃ (a G : Addr) (d : PyData) (kvs : List (PyData × Int)) (n : Int), o = .ref G ∧ i = .ref a ∧ v = .int n ∧ Dp X.K H (.ref a) d ∧ plainD d = true ∧ (keyD d).depth ≤ 8 ∧ DN X.prog X.w X.K H G kvs ∧ kvs.length ≤ 1000 ∧
    ∀ H', But G H H' → KeepT X.K H H' → DN X.prog X.w X.K H' G (putN kvs d n) → Q H') := fun pins s σ H o i v ov iv u Q I ro ri rv h => by
  obtain ⟨a, G, d, kvs, n, rfl, rfl, rfl, h1, h2, h3, ⟨xs, hG, hx⟩, hl, q⟩ := h
  cases ro
  cases ri
  obtain ⟨t, rfl⟩ := rv
  obtain ⟨l, dd⟩ := DN.at I hG hx
  refine wpAny_setItem_heap (knd := nestedKind X.prog X.w) (by show X.A.units + 1 + 8 < cLine; omega) ⟨nkD I h1 h2 rfl, h3⟩ dd (fun h' dd' hs => ?_) (by rw [hx.len]; exact Nat.le_trans hl (by decide))
  obtain ⟨ob, es, ep, g1, g2, g3, g4, g5, g6⟩ := dd'
  refine ⟨upd H G (.ext (rawD X.prog X.w G (storedH xs (keyD d) a (.int n t)))), d_write I (by rw [hG]; exact True.intro) hs ⟨ob, g1⟩ (raw_ok ⟨l, ob, es, ep, g1, g2, g3, g4, g6⟩), q _ But.upd (ext_kt hG) ⟨_, upd_same, ?_⟩⟩
  have hk : KeepT X.K H (upd H G (.ext (rawD X.prog X.w G (storedH xs (keyD d) a (.int n t))))) := ext_kt hG
  replace hx := hx.kt hk
  replace h1 := dp_kt hk h1 h2
  clear hk
  generalize upd H G (.ext (rawD X.prog X.w G (storedH xs (keyD d) a (.int n t)))) = H1 at *
  unfold storedH putN
  rcases look_at hx (d := d) with ⟨e1, e2⟩ | ⟨n', b, t', e1, e2⟩
  · rw [if_neg (by rw [e2]; exact Bool.false_ne_true), if_neg (by rw [e1]; exact Bool.false_ne_true)]
    exact DNs.append hx (ys := [(keyD d, a, .int n t)]) (lvs := [(d, n)]) ⟨⟨rfl, h2, h3, h1, t, rfl⟩, True.intro⟩
  · rw [if_pos (by rw [e2]; rfl), if_pos (by rw [e1]; rfl)]
    exact hx.put

def rLenS (K : PySem.W.Frag) : List V → Hp → VK → Prop := fun xs H Q => ∃ p ys, xs = [V.ref p] ∧ (SqL K H p ys ∨ SqT K H p ys) ∧ Q (V.int ys.length) H

/-! ### comparing graphs -/
def vD : V → PyData
  | .str z => .str z
  | .int n => .int n
  | _ => .str ""
def infoD : Nd → PyData
  | .input sh lo hi => .tuple [datSh sh, .int lo, .int hi]
  | .const sh ns => .tuple [datSh sh, .tuple (ns.map PyData.int)]
  | .bc k _ => .tuple (k.fs.map vD)
  | .dot l _ => .tuple [.str (one l)]
  | .mv k _ => .tuple (k.fs.map vD)
def datNd (nd : Nd) : PyData := .tuple [.str nd.nm, .tuple ((asInts nd.args).map PyData.int), infoD nd]
theorem ints_lay : ∀ ns : List Int, PyData.canLayAll0 (ns.map PyData.int) = true
  | [] => by simp [PyData.canLayAll0]
  | n :: ns => by simp [PyData.canLayAll0, PyData.canLay0, ints_lay ns]
theorem ints_depth : ∀ ns : List Int, PyData.depthAll (ns.map PyData.int) ≤ 1
  | [] => by simp [PyData.depthAll]
  | n :: ns => by
    have := ints_depth ns
    simp only [List.map_cons, PyData.depthAll, PyData.depth]
    omega
theorem dp_ints {K : PySem.W.Frag} {H : Hp} : ∀ ns : List Int, DpAll K H (ns.map V.int) (ns.map PyData.int)
  | [] => .nil
  | n :: ns => .cons (.int n) (dp_ints ns)
def GoodD (nd : Nd) : Prop := GivN nd ∨ (compu nd ∧ GoodF nd)
theorem GoodN.d {nd : Nd} {m : Nat} (h : GoodN nd m) : GoodD nd := h.imp id fun z => ⟨z.1, z.2.1⟩
theorem txt_ok {ls : List Nat} (h : ∀ c ∈ ls, c < 128) : PyData.strOk ⟨ls.toArray⟩ = true := by
  show (ls.toArray.all (· < 0x110000)) = true
  simp
  intro i hi
  have := h _ hi
  omega
theorem info_lay {nd : Nd} (h : GoodD nd) : (infoD nd).canLay0 = true := by
  have i : ∀ n : Int, (PyData.int n).canLay0 = true := fun _ => by simp [PyData.canLay0]
  cases nd with
  | input sh lo hi =>
    have hl : Low sh := (h.resolve_right fun z => z.1.elim).2.1
    simp [infoD, PyData.canLay0, PyData.canLayAll0, datSh_lay sh hl]
  | const sh ns =>
    have hl : Low sh := (h.resolve_right fun z => z.1.elim).2.1
    simp [infoD, PyData.canLay0, PyData.canLayAll0, datSh_lay sh hl, ints_lay ns]
  | dot l _ =>
    have hg : l < 128 := (h.resolve_left fun z => z.elim).2
    simp [infoD, PyData.canLay0, PyData.canLayAll0, one_ok hg]
  | bc k _ => cases k <;> simp [infoD, Bk.fs, vD, PyData.canLay0, PyData.canLayAll0]
  | mv k as =>
    have hg := (h.resolve_left fun z => z.elim).2
    cases k with
    | sum l => simp [infoD, Mv.fs, vD, PyData.canLay0, PyData.canLayAll0, one_ok (show l < 128 from hg)]
    | peak l => simp [infoD, Mv.fs, vD, PyData.canLay0, PyData.canLayAll0, one_ok (show l < 128 from hg)]
    | join l => simp [infoD, Mv.fs, vD, PyData.canLay0, PyData.canLayAll0, one_ok (show l < 128 from hg)]
    | gather l => simp [infoD, Mv.fs, vD, PyData.canLay0, PyData.canLayAll0, one_ok (show l < 128 from hg)]
    | order ls => simp [infoD, Mv.fs, vD, PyData.canLay0, PyData.canLayAll0, txt_ok hg.2]
    | rename l m => simp [infoD, Mv.fs, vD, PyData.canLay0, PyData.canLayAll0, one_ok hg.1, one_ok hg.2]
    | spread l z => simp [infoD, Mv.fs, vD, PyData.canLay0, PyData.canLayAll0, one_ok hg.1]
    | cut l x y => simp [infoD, Mv.fs, vD, PyData.canLay0, PyData.canLayAll0, one_ok hg.1]
    | pad l x y => simp [infoD, Mv.fs, vD, PyData.canLay0, PyData.canLayAll0, one_ok hg.1]
    | window l m x y => simp [infoD, Mv.fs, vD, PyData.canLay0, PyData.canLayAll0, one_ok hg.1, one_ok hg.2.1]
    | fold l m x y => simp [infoD, Mv.fs, vD, PyData.canLay0, PyData.canLayAll0, one_ok hg.1, one_ok hg.2.1]
theorem info_depth (nd : Nd) : (infoD nd).depth ≤ 4 := by
  cases nd with
  | input sh lo hi =>
    have := datSh_depth sh
    simp only [infoD, PyData.depth, PyData.depthAll]
    omega
  | const sh ns =>
    have := datSh_depth sh
    have := ints_depth ns
    simp only [infoD, PyData.depth, PyData.depthAll]
    omega
  | dot l _ => simp only [infoD, PyData.depth, PyData.depthAll]; omega
  | bc k _ => cases k <;> simp only [infoD, Bk.fs, vD, List.map_cons, List.map_nil, PyData.depth, PyData.depthAll] <;> omega
  | mv k _ => cases k <;> simp only [infoD, Mv.fs, vD, List.map_cons, List.map_nil, PyData.depth, PyData.depthAll] <;> omega
theorem nd_lay {nd : Nd} (h : GoodD nd) : (datNd nd).canLay0 = true := by
  have hn : PyData.strOk nd.nm = true := (show ∀ r ∈ KT, PyData.strOk r.1 = true by decide +kernel) _ (row_in nd)
  simp [datNd, PyData.canLay0, PyData.canLayAll0, hn, ints_lay, info_lay h]
theorem nd_depth (nd : Nd) : (datNd nd).depth ≤ 5 := by
  have h1 := info_depth nd
  have h2 := ints_depth (asInts nd.args)
  simp only [datNd, PyData.depth, PyData.depthAll]
  omega
theorem nds_lay : ∀ nds : List Nd, (∀ nd ∈ nds, GoodD nd) → PyData.canLayAll0 (nds.map datNd) = true
  | [], _ => by simp [PyData.canLayAll0]
  | d :: ds, h => by simp [PyData.canLayAll0, nd_lay (h d List.mem_cons_self), nds_lay ds fun p hp => h p (List.mem_cons_of_mem _ hp)]
theorem nds_depth : ∀ nds : List Nd, PyData.depthAll (nds.map datNd) ≤ 6
  | [] => by simp [PyData.depthAll]
  | d :: ds => by
    have h1 := nds_depth ds
    have h2 := nd_depth d
    simp only [List.map_cons, PyData.depthAll]
    omega
def grD (nds : List Nd) (os : List Nat) : PyData := .tuple [.tuple (nds.map datNd), .tuple ((asInts os).map PyData.int)]
theorem gr_shaped {nds : List Nd} (os : List Nat) (h : ∀ nd ∈ nds, GoodD nd) : SeqAt.shaped (grD nds os) = true := by
  have h1 := nds_depth nds
  have h2 := ints_depth (asInts os)
  have h3 : PyData.depth (grD nds os) ≤ 64 := by
    simp only [grD, PyData.depth, PyData.depthAll]
    omega
  show (PyData.canLay0 (grD nds os) && decide (PyData.depth (grD nds os) ≤ 64)) = true
  rw [Bool.and_eq_true]
  exact ⟨by simp [grD, PyData.canLay0, PyData.canLayAll0, nds_lay nds h, ints_lay], decide_eq_true h3⟩
theorem dp_nd {K : PySem.W.Frag} {H : Hp} {v : V} {nd : Nd} (h : NdAt K H v nd) : Dp K H v (datNd nd) := by
  obtain ⟨pn, pa, pi, rfl, h1, h2, h3⟩ := h
  refine .tup h1 (.cons (.str _) (.cons (.tup h2 (dp_ints _)) (.cons ?_ .nil)))
  cases nd with
  | input sh lo hi =>
    obtain ⟨a, i1, i2, _⟩ := h3
    exact .tup i1 (.cons (dp_sh i2) (.cons (.int _) (.cons (.int _) .nil)))
  | const sh ns =>
    obtain ⟨a, pd, i1, i2, _, i4⟩ := h3
    exact .tup i1 (.cons (dp_sh i2) (.cons (.tup i4 (dp_ints _)) .nil))
  | dot l _ => exact .tup h3 (.cons (.str _) .nil)
  | bc k _ =>
    refine .tup h3 ?_
    cases k <;> first | exact .nil | exact .cons (.int _) .nil | exact .cons (.int _) (.cons (.int _) .nil)
  | mv k _ =>
    refine .tup h3 ?_
    cases k <;> first | exact .cons (.str _) .nil | exact .cons (.str _) (.cons (.str _) .nil) | exact .cons (.str _) (.cons (.int _) .nil) | exact .cons (.str _) (.cons (.int _) (.cons (.int _) .nil)) | exact .cons (.str _) (.cons (.str _) (.cons (.int _) (.cons (.int _) .nil)))
theorem dp_nds {K : PySem.W.Frag} {H : Hp} : ∀ {us : List V} {ds : List Nd}, Nds K H us ds → DpAll K H us (ds.map datNd)
  | [], [], _ => .nil
  | [], p :: sh, h => nomatch h.1
  | t :: ts, [], h => nomatch h.1
  | t :: ts, p :: sh, h => .cons (dp_nd (h.2 0 t p rfl rfl)) (dp_nds ⟨Nat.succ.inj h.1, fun i t' p' a b => h.2 (i + 1) t' p' (by simpa using a) (by simpa using b)⟩)
theorem dp_gr {K : PySem.W.Frag} {H : Hp} {p q r : Addr} {ws : List V} {nds : List Nd} {os : List Nat} (h : SqT K H p [.ref q, .ref r]) (hq : SqT K H q ws) (hN : Nds K H ws nds) (hr : SqT K H r ((asInts os).map V.int)) : Dp K H (.ref p) (grD nds os) :=
  .tup h (.cons (.tup hq (dp_nds hN)) (.cons (.tup hr (dp_ints _)) .nil))
theorem inV_nats (n : Nat) : ∀ l : List Nat, inV (.int (n : Int)) ((asInts l).map V.int) = decide (n ∈ l)
  | [] => by simp [inV, asInts]
  | y :: l => by
    have ih := inV_nats n l
    have e : inV (.int (n : Int)) ((asInts (y :: l)).map V.int) = (((y : Int) == (n : Int)) || inV (.int (n : Int)) ((asInts l).map V.int)) := rfl
    rw [e, ih]
    show (((y : Int) == (n : Int)) || decide (n ∈ l)) = decide (n ∈ y :: l)
    rw [Bool.eq_iff_iff, Bool.or_eq_true, beq_iff_eq, decide_eq_true_iff, decide_eq_true_iff, List.mem_cons]
    refine or_congr ⟨fun z => by omega, fun z => by omega⟩ Iff.rfl
theorem flat_nats : ∀ l : List Nat, ((asInts l).map V.int).all flatV = true
  | [] => rfl
  | _ :: l => flat_nats l
mutual
theorem eqv_plain : ∀ {d e : PyData}, plainD d = true → plainD e = true → (PyData.eqv d e = true ↔ d = e)
  | .int i, .int j, _, _ => by simp [PyData.eqv]
  | .str i, .str j, _, _ => by simp [PyData.eqv]
  | .tuple ds, .tuple es, hd, he => by
    simp only [plainD] at hd he
    simp only [PyData.eqv, PyData.tuple.injEq]
    exact eqvs_plain hd he
  | .int _, .str _, _, _ => by simp [PyData.eqv]
  | .int _, .tuple _, _, _ => by simp [PyData.eqv]
  | .str _, .int _, _, _ => by simp [PyData.eqv]
  | .str _, .tuple _, _, _ => by simp [PyData.eqv]
  | .tuple _, .int _, _, _ => by simp [PyData.eqv]
  | .tuple _, .str _, _, _ => by simp [PyData.eqv]
  | .none, _, h, _ => by simp [plainD] at h
  | .bool _, _, h, _ => by simp [plainD] at h
  | .list _, _, h, _ => by simp [plainD] at h
  | .dict _, _, h, _ => by simp [plainD] at h
  | .int _, .none, _, h => by simp [plainD] at h
  | .int _, .bool _, _, h => by simp [plainD] at h
  | .int _, .list _, _, h => by simp [plainD] at h
  | .int _, .dict _, _, h => by simp [plainD] at h
  | .str _, .none, _, h => by simp [plainD] at h
  | .str _, .bool _, _, h => by simp [plainD] at h
  | .str _, .list _, _, h => by simp [plainD] at h
  | .str _, .dict _, _, h => by simp [plainD] at h
  | .tuple _, .none, _, h => by simp [plainD] at h
  | .tuple _, .bool _, _, h => by simp [plainD] at h
  | .tuple _, .list _, _, h => by simp [plainD] at h
  | .tuple _, .dict _, _, h => by simp [plainD] at h
theorem eqvs_plain : ∀ {ds es : List PyData}, plainDs ds = true → plainDs es = true → (PyData.eqvAll ds es = true ↔ ds = es)
  | [], [], _, _ => by simp [PyData.eqvAll]
  | d :: ds, e :: es, hd, he => by
    simp only [plainDs, Bool.and_eq_true] at hd he
    simp only [PyData.eqvAll, List.cons.injEq, Bool.and_eq_true]
    rw [eqv_plain hd.1 he.1, eqvs_plain hd.2 he.2]
  | [], _ :: _, _, _ => by simp [PyData.eqvAll]
  | _ :: _, [], _, _ => by simp [PyData.eqvAll]
end

theorem ints_plain : ∀ ns : List Int, plainDs (ns.map PyData.int) = true
  | [] => by simp [plainDs]
  | n :: ns => by simp [plainDs, plainD, ints_plain ns]
theorem axs_plain : ∀ zs : Sh, plainDs (zs.map axD) = true
  | [] => by simp [plainDs]
  | n :: ns => by simp [plainDs, plainD, axD, axs_plain ns]
theorem vds_plain : ∀ vs : List V, plainDs (vs.map vD) = true
  | [] => by simp [plainDs]
  | v :: vs => by
    have h : plainD (vD v) = true := by
      unfold vD
      split <;> simp [plainD]
    simp [plainDs, h, vds_plain vs]
theorem info_plain (nd : Nd) : plainD (infoD nd) = true := by
  cases nd with
  | input sh lo hi => simp [infoD, plainD, plainDs, datSh, axs_plain]
  | const sh ns => simp [infoD, plainD, plainDs, datSh, axs_plain, ints_plain]
  | dot l _ => simp [infoD, plainD, plainDs]
  | bc k _ => simp [infoD, plainD, vds_plain]
  | mv k _ => simp [infoD, plainD, vds_plain]
theorem nd_plain (nd : Nd) : plainD (datNd nd) = true := by simp [datNd, plainD, plainDs, ints_plain, info_plain]
mutual
theorem key_depth : ∀ {d : PyData}, plainD d = true → (keyD d).depth ≤ d.depth + 1
  | .int i, _ => by simp [keyD, NestedKey.depth]
  | .str i, _ => by simp [keyD, NestedKey.depth]
  | .tuple ds, h => by
    simp only [plainD] at h
    have := keys_depth h
    simp only [keyD, NestedKey.depth, PyData.depth]
    omega
  | .none, h => by simp [plainD] at h
  | .bool _, h => by simp [plainD] at h
  | .list _, h => by simp [plainD] at h
  | .dict _, h => by simp [plainD] at h
theorem keys_depth : ∀ {ds : List PyData}, plainDs ds = true → NestedKey.depthAll (keyDs ds) ≤ PyData.depthAll ds + 1
  | [], _ => by simp [keyDs, NestedKey.depthAll]
  | d :: ds, h => by
    simp only [plainDs, Bool.and_eq_true] at h
    have h1 := key_depth h.1
    have h2 := keys_depth h.2
    simp only [keyDs, NestedKey.depthAll, PyData.depthAll]
    omega
end
theorem nd_key8 (nd : Nd) : (keyD (datNd nd)).depth ≤ 8 := by
  have h1 := key_depth (nd_plain nd)
  have h2 := nd_depth nd
  omega
theorem asInts_inj {a b : List Nat} (h : (asInts a).map PyData.int = (asInts b).map PyData.int) : a = b := by
  unfold asInts at h
  rw [List.map_map, List.map_map] at h
  refine (List.map_inj_right (fun x y e => ?_)).mp h
  simp only [Function.comp, PyData.int.injEq] at e
  omega
theorem pyints_inj {a b : List Int} (h : a.map PyData.int = b.map PyData.int) : a = b :=
  (List.map_inj_right (fun x y e => by simpa using e)).mp h
theorem sh_inj {a b : Sh} (h : a.map axD = b.map axD) : a = b := by
  refine (List.map_inj_right (fun x y e => ?_)).mp h
  simp only [axD, PyData.tuple.injEq, List.cons.injEq, PyData.str.injEq, PyData.int.injEq, and_true] at e
  obtain ⟨x1, x2⟩ := x
  obtain ⟨y1, y2⟩ := y
  simp only at e
  rw [one_inj e.1, e.2]
theorem dat_inj {a b : Nd} (h : datNd a = datNd b) : a = b := by
  unfold datNd at h
  simp only [PyData.tuple.injEq, List.cons.injEq, PyData.str.injEq, and_true] at h
  obtain ⟨hn, ha, hi⟩ := h
  replace ha := asInts_inj ha
  cases a with
  | input s1 l1 h1 =>
    cases b with
    | input s2 l2 h2 =>
      simp only [infoD, datSh, PyData.tuple.injEq, List.cons.injEq, PyData.int.injEq, and_true] at hi
      rw [sh_inj hi.1, hi.2.1, hi.2.2]
    | bc k _ => cases k <;> (simp only [Nd.nm, Bk.nm] at hn; exact absurd hn (by decide +kernel))
    | mv k _ => cases k <;> (simp only [Nd.nm, Mv.nm] at hn; exact absurd hn (by decide +kernel))
    | _ => simp only [Nd.nm] at hn; exact absurd hn (by decide +kernel)
  | const s1 n1 =>
    cases b with
    | const s2 n2 =>
      simp only [infoD, datSh, PyData.tuple.injEq, List.cons.injEq, and_true] at hi
      rw [sh_inj hi.1, pyints_inj hi.2]
    | bc k _ => cases k <;> (simp only [Nd.nm, Bk.nm] at hn; exact absurd hn (by decide +kernel))
    | mv k _ => cases k <;> (simp only [Nd.nm, Mv.nm] at hn; exact absurd hn (by decide +kernel))
    | _ => simp only [Nd.nm] at hn; exact absurd hn (by decide +kernel)
  | dot l1 a1 =>
    cases b with
    | dot l2 a2 =>
      simp only [infoD, PyData.tuple.injEq, List.cons.injEq, PyData.str.injEq, and_true] at hi
      simp only [Nd.args] at ha
      rw [one_inj hi, ha]
    | bc k _ => cases k <;> (simp only [Nd.nm, Bk.nm] at hn; exact absurd hn (by decide +kernel))
    | mv k _ => cases k <;> (simp only [Nd.nm, Mv.nm] at hn; exact absurd hn (by decide +kernel))
    | _ => simp only [Nd.nm] at hn; exact absurd hn (by decide +kernel)
  | bc k a1 =>
    cases b with
    | bc k2 a2 =>
      simp only [Nd.args] at ha
      subst ha
      cases k <;> cases k2 <;> first
        | rfl
        | (simp only [Nd.nm, Bk.nm] at hn; exact absurd hn (by decide +kernel))
        | (simp only [infoD, Bk.fs, List.map_cons, List.map_nil, vD, PyData.tuple.injEq, List.cons.injEq, PyData.int.injEq, and_true] at hi; first | rw [hi.1, hi.2] | rw [Int.ofNat_inj.mp hi])
    | mv k2 _ => cases k <;> cases k2 <;> (simp only [Nd.nm, Bk.nm, Mv.nm] at hn; exact absurd hn (by decide +kernel))
    | _ => cases k <;> (simp only [Nd.nm, Bk.nm] at hn; exact absurd hn (by decide +kernel))
  | mv k a1 =>
    cases b with
    | mv k2 a2 =>
      simp only [Nd.args] at ha
      subst ha
      cases k <;> cases k2 <;> first
        | (simp only [Nd.nm, Mv.nm] at hn; exact absurd hn (by decide +kernel))
        | (simp only [infoD, Mv.fs, List.map_cons, List.map_nil, vD, PyData.tuple.injEq, List.cons.injEq, PyData.int.injEq, PyData.str.injEq, and_true] at hi
           first
             | rw [one_inj hi]
             | (obtain ⟨h1, h2, h3, h4⟩ := hi; rw [one_inj h1, one_inj h2, h3, h4])
             | (obtain ⟨h1, h2, h3, h4⟩ := hi; rw [one_inj h1, h2, h3, h4])
             | (obtain ⟨h1, h2, h3⟩ := hi; rw [one_inj h1, h2, h3])
             | (obtain ⟨h1, h2⟩ := hi; rw [one_inj h1, one_inj h2])
             | (obtain ⟨h1, h2⟩ := hi; rw [one_inj h1, h2])
             | (have : ∀ l1 l2 : List Nat, (⟨l1.toArray⟩ : Str) = ⟨l2.toArray⟩ → l1 = l2 := fun l1 l2 e => by simpa using e
                rw [this _ _ hi]))
    | bc k2 _ => cases k <;> cases k2 <;> (simp only [Nd.nm, Bk.nm, Mv.nm] at hn; exact absurd hn (by decide +kernel))
    | _ => cases k <;> (simp only [Nd.nm, Mv.nm] at hn; exact absurd hn (by decide +kernel))
/-! ### sharing -/
def Nd.wa (as' : List Nat) : Nd → Nd
  | .input s l h => .input s l h
  | .const s n => .const s n
  | .bc k _ => .bc k as'
  | .dot l _ => .dot l as'
  | .mv k _ => .mv k as'
theorem wa_nm (as' : List Nat) (nd : Nd) : (nd.wa as').nm = nd.nm := by cases nd <;> rfl
theorem wa_args {as' : List Nat} {nd : Nd} (h : as'.length = nd.args.length) : (nd.wa as').args = as' := by
  cases nd with
  | input _ _ _ => exact (List.eq_nil_of_length_eq_zero h).symm
  | const _ _ => exact (List.eq_nil_of_length_eq_zero h).symm
  | bc _ _ => rfl
  | dot _ _ => rfl
  | mv _ _ => rfl
theorem wa_info {K : PySem.W.Frag} {H : Hp} {pi : Addr} (as' : List Nat) (nd : Nd) : InfoAt K H pi (nd.wa as') ↔ InfoAt K H pi nd := by cases nd <;> exact Iff.rfl
theorem wa_lawD (as' : List Nat) (nd : Nd) (gs : List Dom) : lawD (nd.wa as') gs = lawD nd gs := by
  cases nd with
  | input _ _ _ => rfl
  | const _ _ => rfl
  | dot l as =>
    match gs with
    | [] => rfl
    | [_] => rfl
    | [_, _] => rfl
    | _ :: _ :: _ :: _ => rfl
  | bc k as =>
    cases k <;> (match gs with
    | [] => rfl
    | [_] => rfl
    | [_, _] => rfl
    | [_, _, _] => rfl
    | _ :: _ :: _ :: _ :: _ => rfl)
  | mv k as =>
    cases k <;> (match gs with
    | [] => rfl
    | [_] => rfl
    | [_, _] => rfl
    | _ :: _ :: _ :: _ => rfl)
theorem wa_ar (as' : List Nat) (nd : Nd) : arN (nd.wa as') = arN nd := by
  cases nd with
  | bc k _ => cases k <;> rfl
  | mv k _ => cases k <;> rfl
  | input _ _ _ => rfl
  | const _ _ => rfl
  | dot _ _ => rfl
theorem wa_good {as' : List Nat} {nd : Nd} {m m' : Nat} (h : GoodN nd m) (hl : as'.length = nd.args.length) (hf : ∀ a ∈ as', a < m') : GoodN (nd.wa as') m' := by
  rcases h with h | ⟨h1, h2, h3, h4⟩
  · left
    cases nd <;> first | exact h | exact h.elim
  · right
    refine ⟨?_, ?_, by rw [wa_args hl, hl, wa_ar]; exact h3, fun a ha => ?_⟩
    · cases nd <;> first | exact h1 | exact trivial
    · cases nd with
      | input _ _ _ => exact trivial
      | const _ _ => exact trivial
      | dot _ _ => exact h2
      | bc k _ => cases k <;> exact h2
      | mv k _ => exact h2
    · rw [wa_args hl] at ha
      exact hf a ha
theorem re_wa (f : Nat → Nat) (nd : Nd) : nd.re f = nd.wa (nd.args.map f) := by cases nd <;> rfl
def kN (nd : Nd) : NestedKey := keyD (datNd nd)
theorem kN_iff {a b : Nd} : kN a = kN b ↔ a = b := ⟨fun h => dat_inj (keyD_inj (nd_plain a) (nd_plain b) h), fun h => by rw [h]⟩
theorem eqv_nd (a b : Nd) : PyData.eqv (datNd a) (datNd b) = decide (kN a = kN b) := by
  rw [Bool.eq_iff_iff, decide_eq_true_iff, eqv_plain (nd_plain a) (nd_plain b), kN_iff]
  exact ⟨fun h => dat_inj h, fun h => by rw [h]⟩
def idxK (rem : List Nd) (m : Nd) : Option Nat := rem.findIdx? fun r => decide (kN r = kN m)
theorem idx_some {rem : List Nd} {m : Nd} {k : Nat} (h : idxK rem m = some k) : rem[k]? = some m ∧ ∀ j, j < k → rem[j]? ≠ some m := by
  unfold idxK at h
  obtain ⟨hk, h1, h2⟩ := List.findIdx?_eq_some_iff_getElem.mp h
  have e := kN_iff.mp (of_decide_eq_true h1)
  refine ⟨by rw [List.getElem?_eq_getElem hk, e], fun j hj e2 => ?_⟩
  have h3 := h2 j hj
  have hjl := (List.getElem?_eq_some_iff.mp e2)
  apply h3
  rw [hjl.2]
  exact decide_eq_true rfl
theorem idx_none {rem : List Nd} {m : Nd} : idxK rem m = none ↔ m ∉ rem := by
  unfold idxK
  rw [List.findIdx?_eq_none_iff]
  constructor
  · intro h hm
    have := h m hm
    rw [decide_eq_true rfl] at this
    cases this
  · intro h r hr
    exact decide_eq_false fun e => h (kN_iff.mp e ▸ hr)
theorem idx_snoc (rem : List Nd) (r m : Nd) : idxK (rem ++ [r]) m = match idxK rem m with | some k => some k | none => if kN r = kN m then some rem.length else none := by
  unfold idxK
  rw [List.findIdx?_append]
  cases h : rem.findIdx? (fun r => decide (kN r = kN m)) with
  | some k => rfl
  | none =>
    by_cases e : r = m
    · subst e
      simp [List.findIdx?_cons]
    · have e' : ¬ kN r = kN m := fun z => e (kN_iff.mp z)
      simp [List.findIdx?_cons, e']
/-- where the next node goes -/
def place (rem : List Nd) (m : Nd) : Option Nat := if isIn m = true then none else idxK rem m
def toF (to : List Nat) (a : Nat) : Nat := to.getD a 0
def shS (nds : List Nd) : Nat → List Nd × List Nat
  | 0 => ([], [])
  | i + 1 => match place (shS nds i).1 ((ndAt nds i).re (toF (shS nds i).2)) with
    | some k => ((shS nds i).1, (shS nds i).2 ++ [k])
    | none => ((shS nds i).1 ++ [(ndAt nds i).re (toF (shS nds i).2)], (shS nds i).2 ++ [(shS nds i).1.length])
theorem sh_len (nds : List Nd) : ∀ i, (shS nds i).2.length = i ∧ (shS nds i).1.length ≤ i
  | 0 => ⟨rfl, Nat.le_refl _⟩
  | i + 1 => by
    obtain ⟨h1, h2⟩ := sh_len nds i
    unfold shS
    cases place (shS nds i).1 ((ndAt nds i).re (toF (shS nds i).2)) with
    | some k => exact ⟨by rw [List.length_append, h1]; rfl, by show (shS nds i).1.length ≤ i + 1; omega⟩
    | none => exact ⟨by rw [List.length_append, h1]; rfl, by rw [List.length_append]; show _ + 1 ≤ _; omega⟩
def Dist (rem : List Nd) : Prop := ∀ (i : Nat) (m : Nd), rem[i]? = some m → isIn m = false → m ∉ rem.take i
theorem given_uniq {as : List Nat} {ds gs gs' : List Dom} (h : GivenN as ds gs) (h' : GivenN as ds gs') : gs = gs' := by
  refine List.ext_getElem? fun i => ?_
  by_cases hi : i < as.length
  · obtain ⟨k, hk⟩ : ∃ k, as[i]? = some k := ⟨_, List.getElem?_eq_getElem hi⟩
    obtain ⟨d, h1, h2⟩ := h.2 i k hk
    obtain ⟨d', h3, h4⟩ := h'.2 i k hk
    rw [h1] at h3
    cases h3
    rw [h2, h4]
  · rw [List.getElem?_eq_none_iff.mpr (by rw [h.1]; omega), List.getElem?_eq_none_iff.mpr (by rw [h'.1]; omega)]
/-- computed nodes have few elements -/
def CapN (nds : List Nd) (ds : List Dom) : Prop := ∀ (i : Nat) nd d, nds[i]? = some nd → ds[i]? = some d → compu nd → prod (sizes d.sh) ≤ 24
theorem compu_re {f : Nat → Nat} {nd : Nd} : compu (nd.re f) ↔ compu nd := by cases nd <;> exact Iff.rfl
theorem compu_wa {as' : List Nat} {nd : Nd} : compu (nd.wa as') ↔ compu nd := by cases nd <;> exact Iff.rfl
theorem CapN.snoc {nds : List Nd} {ds : List Dom} {nd : Nd} {d : Dom} (h : CapN nds ds) (hl : nds.length = ds.length) (x : compu nd → prod (sizes d.sh) ≤ 24) : CapN (nds ++ [nd]) (ds ++ [d]) := fun i nd' d' e1 e2 hc => by
  by_cases hi : i < nds.length
  · rw [List.getElem?_append_left hi] at e1
    rw [List.getElem?_append_left (by omega)] at e2
    exact h i nd' d' e1 e2 hc
  · have hlt := (List.getElem?_eq_some_iff.mp e1).1
    rw [List.length_append] at hlt
    have ei : i = nds.length := by
      have : ([nd] : List Nd).length = 1 := rfl
      omega
    subst ei
    rw [List.getElem?_append_right (Nat.le_refl _), Nat.sub_self] at e1
    rw [hl, List.getElem?_append_right (Nat.le_refl _), Nat.sub_self] at e2
    cases e1
    cases e2
    exact x hc
theorem work_le24 {nd : Nd} {d : Dom} {gs : List Dom} (hl : gs.length = arN nd) (hd : GD d) (hgs : ∀ g ∈ gs, GD g) (hc : compu nd → prod (sizes d.sh) ≤ 24) : workL nd d gs ≤ 384 := by
  have h1 := hd.pr
  rcases work_cat nd d gs hl with ⟨_, e⟩ | ⟨_, _, _, g, r, rfl, e⟩ | ⟨l, as, g, e', rfl, rfl⟩ | ⟨_, _, _, _, e⟩
  · rw [e]; omega
  · rw [e]
    have := (hgs g (List.mem_cons_self ..)).pr
    omega
  · show prod (sizes d.sh) * sz g.sh l ≤ 384
    have hz := sz_le (hgs g (List.mem_cons_self ..)).fi l
    have h2 := hc trivial
    generalize prod (sizes d.sh) = x at *
    generalize sz g.sh l = y at *
    have := Int.mul_le_mul h2 hz.2 hz.1 (by decide)
    omega
  · rw [e]; omega
theorem totW_le24 {nds : List Nd} {ds : List Dom} (w : WfG nds ds) (c : CapN nds ds) : totW nds ds ≤ 384 * nds.length := by
  have h : ∀ i, i ≤ nds.length → ((worksOf nds ds).take i).sum ≤ 384 * (i : Int) := by
    intro i
    induction i with
    | zero => intro _; simp
    | succ i ih =>
      intro hi
      obtain ⟨nd, hnd⟩ : ∃ nd, nds[i]? = some nd := ⟨_, List.getElem?_eq_getElem (by omega)⟩
      obtain ⟨d, hd⟩ : ∃ d, ds[i]? = some d := ⟨_, List.getElem?_eq_getElem (by rw [← w.l]; omega)⟩
      obtain ⟨w1, w2, w3, w4, w5, w6⟩ := w.work hnd hd
      rw [sum_take w6]
      have := work_le24 (nd := nd) (by rw [w1.1]; exact w4) w2 w3 (c i nd d hnd hd)
      have := ih (by omega)
      omega
  have := h nds.length (Nat.le_refl _)
  rwa [List.take_of_length_le (by unfold worksOf; rw [List.length_map, List.length_zip]; exact Nat.min_le_left _ _)] at this
/-- all that holds on the way -/
theorem sh_ok {nds : List Nd} {ds : List Dom} (w : WfG nds ds) (cp : CapN nds ds) : ∀ i, i ≤ nds.length → ∃ dr, WfG (shS nds i).1 dr ∧ Dist (shS nds i).1 ∧ CapN (shS nds i).1 dr ∧ ∀ j, j < i → ∃ t, (shS nds i).2[j]? = some t ∧ t < (shS nds i).1.length ∧ dr[t]? = ds[j]?
  | 0, _ => ⟨[], ⟨rfl, fun i nd d h => by simp [shS] at h⟩, fun i m h => by simp [shS] at h, fun i nd d h => by simp [shS] at h, fun j h => absurd h (Nat.not_lt_zero _)⟩
  | i + 1, hi => by
    obtain ⟨dr, hw, hd, hcp, ht⟩ := sh_ok w cp i (by omega)
    obtain ⟨l1, l2⟩ := sh_len nds i
    obtain ⟨nd, hnd⟩ : ∃ nd, nds[i]? = some nd := ⟨_, List.getElem?_eq_getElem (by omega)⟩
    obtain ⟨d, hdi⟩ : ∃ d, ds[i]? = some d := ⟨_, List.getElem?_eq_getElem (by rw [← w.l]; omega)⟩
    have en : ndAt nds i = nd := by unfold ndAt; rw [hnd]; rfl
    obtain ⟨w1, w2, gs, w3, w4, w5⟩ := w.g i nd d hnd hdi
    unfold shS
    rw [en]
    generalize (shS nds i).1 = rem at *
    generalize (shS nds i).2 = to at *
    have hwl := hw.l
    have hback : ∀ a ∈ nd.args, a < i := fun a ha => by
      obtain ⟨j, hj, e⟩ := List.mem_iff_getElem.mp ha
      obtain ⟨g, g1, _⟩ := w3.2 j a (by rw [List.getElem?_eq_getElem hj, e])
      have := (List.getElem?_eq_some_iff.mp g1).1
      rw [List.length_take] at this
      omega
    have hto : ∀ a, a < i → toF to a < rem.length ∧ dr[toF to a]? = ds[a]? := fun a ha => by
      obtain ⟨t, t1, t2, t3⟩ := ht a ha
      have : toF to a = t := by unfold toF; rw [List.getD_eq_getElem?_getD, t1]; rfl
      rw [this]
      exact ⟨t2, t3⟩
    have hg : GoodN (nd.re (toF to)) dr.length := re_good w1 fun a ha => by rw [← hwl]; exact (hto a (hback a ha)).1
    have hgv : GivenN (nd.re (toF to)).args dr gs := ⟨by rw [re_args, List.length_map]; exact w3.1, fun j b hb => by
      rw [re_args, List.getElem?_map] at hb
      obtain ⟨a, ha, rfl⟩ := Option.map_eq_some_iff.mp hb
      obtain ⟨g, g1, g2⟩ := w3.2 j a ha
      have hai := hback a (List.mem_of_getElem? ha)
      rw [List.getElem?_take, if_pos hai] at g1
      exact ⟨g, by rw [(hto a hai).2]; exact g1, g2⟩⟩
    have hlD : lawD (nd.re (toF to)) gs = some d := by rw [re_lawD]; exact w5
    cases hp : place rem (nd.re (toF to)) with
    | some k =>
      have hk : idxK rem (nd.re (toF to)) = some k := by
        unfold place at hp
        split at hp
        · cases hp
        · exact hp
      obtain ⟨h1, h2⟩ := idx_some hk
      have hkl := (List.getElem?_eq_some_iff.mp h1).1
      refine ⟨dr, hw, hd, hcp, fun j hj => ?_⟩
      by_cases e : j < i
      · obtain ⟨t, t1, t2, t3⟩ := ht j e
        exact ⟨t, by show (to ++ [k])[j]? = _; rw [List.getElem?_append_left (by omega)]; exact t1, t2, t3⟩
      · have ej : j = i := by omega
        subst ej
        refine ⟨k, by show (to ++ [k])[j]? = _; rw [← l1, List.getElem?_append_right (Nat.le_refl _), Nat.sub_self]; rfl, hkl, ?_⟩
        obtain ⟨d', hd'⟩ : ∃ d', dr[k]? = some d' := ⟨_, List.getElem?_eq_getElem (by omega)⟩
        obtain ⟨_, _, gs', v3, _, v5⟩ := hw.g k _ d' h1 hd'
        have : gs' = gs := given_uniq (given_take v3) hgv
        rw [this, hlD] at v5
        rw [hd', hdi, ← v5]
    | none =>
      refine ⟨dr ++ [d], hw.snoc hg w2 hgv w4 hlD, fun j m hm hin => ?_, hcp.snoc hwl (fun hc => cp i nd d hnd hdi (compu_re.mp hc)), fun j hj => ?_⟩
      · show m ∉ (rem ++ [nd.re (toF to)]).take j
        replace hm : (rem ++ [nd.re (toF to)])[j]? = some m := hm
        by_cases e : j < rem.length
        · rw [List.getElem?_append_left e] at hm
          rw [List.take_append_of_le_length (by omega)]
          exact hd j m hm hin
        · have hlt := (List.getElem?_eq_some_iff.mp hm).1
          rw [List.length_append] at hlt
          have ej : j = rem.length := by
            have : ([nd.re (toF to)] : List Nd).length = 1 := rfl
            omega
          subst ej
          rw [List.getElem?_append_right (Nat.le_refl _), Nat.sub_self] at hm
          cases hm
          rw [List.take_left']
          · unfold place at hp
            rw [if_neg (by rw [hin]; exact Bool.false_ne_true)] at hp
            exact idx_none.mp hp
          · rfl
      · by_cases e : j < i
        · obtain ⟨t, t1, t2, t3⟩ := ht j e
          exact ⟨t, by show (to ++ [_])[j]? = _; rw [List.getElem?_append_left (by omega)]; exact t1, by show t < (rem ++ _).length; rw [List.length_append]; omega, by rw [List.getElem?_append_left (by omega)]; exact t3⟩
        · have ej : j = i := by omega
          subst ej
          exact ⟨rem.length, by show (to ++ [_])[j]? = _; rw [← l1, List.getElem?_append_right (Nat.le_refl _), Nat.sub_self]; rfl, by show rem.length < (rem ++ _).length; rw [List.length_append]; show rem.length < rem.length + 1; omega, by rw [hwl, List.getElem?_append_right (Nat.le_refl _), Nat.sub_self, hdi]; rfl⟩
/-- sharing what is shared changes nothing -/
theorem sh_idem {rem : List Nd} {dr : List Dom} (w : WfG rem dr) (hd : Dist rem) : ∀ i, i ≤ rem.length → shS rem i = (rem.take i, List.range i)
  | 0, _ => by rw [List.take_zero]; rfl
  | i + 1, hi => by
    have ih := sh_idem w hd i (by omega)
    obtain ⟨nd, hnd⟩ : ∃ nd, rem[i]? = some nd := ⟨_, List.getElem?_eq_getElem (by omega)⟩
    have en : ndAt rem i = nd := by unfold ndAt; rw [hnd]; rfl
    obtain ⟨d, hdi⟩ : ∃ d, dr[i]? = some d := ⟨_, List.getElem?_eq_getElem (by rw [← w.l]; omega)⟩
    obtain ⟨w1, w2, gs, w3, w4, w5⟩ := w.g i nd d hnd hdi
    have hid : nd.re (toF (List.range i)) = nd := re_id fun a ha => by
      obtain ⟨j, hj, e⟩ := List.mem_iff_getElem.mp ha
      obtain ⟨g, g1, _⟩ := w3.2 j a (by rw [List.getElem?_eq_getElem hj, e])
      have := (List.getElem?_eq_some_iff.mp g1).1
      rw [List.length_take] at this
      unfold toF
      rw [List.getD_eq_getElem?_getD, List.getElem?_range (by omega)]
      rfl
    have hp : place (rem.take i) nd = none := by
      unfold place
      by_cases hin : isIn nd = true
      · rw [if_pos hin]
      · rw [if_neg hin]
        exact idx_none.mpr (hd i nd hnd (Bool.eq_false_iff.mpr hin))
    unfold shS
    rw [ih, en]
    simp only
    rw [hid, hp]
    simp only
    rw [take_snoc hnd, List.range_succ, List.length_take, Nat.min_eq_left (by omega)]
theorem look_put (kvs : List (PyData × Int)) (d e : PyData) (n : Int) : lookN (putN kvs d n) e = if keyD d = keyD e then some n else lookN kvs e := by
  have hmap : ∀ l : List (PyData × Int), lookN (l.map fun p => if keyD p.1 = keyD d then (p.1, n) else p) e = if keyD d = keyD e ∧ (lookN l d).isSome = true then some n else lookN l e := by
    intro l
    induction l with
    | nil => simp [lookN]
    | cons p ps ih =>
      unfold lookN at ih ⊢
      rw [List.map_cons]
      by_cases h1 : keyD p.1 = keyD d
      · rw [if_pos h1]
        by_cases h2 : keyD p.1 = keyD e
        · have h3 : keyD d = keyD e := h1.symm.trans h2
          rw [List.find?_cons_of_pos (by exact decide_eq_true h2)]
          rw [List.find?_cons_of_pos (a := p) (by exact decide_eq_true h1)]
          rw [if_pos ⟨h3, rfl⟩]
          rfl
        · have h3 : ¬ keyD d = keyD e := fun z => h2 (h1.trans z)
          rw [List.find?_cons_of_neg (by rw [decide_eq_false h2]; exact Bool.false_ne_true), List.find?_cons_of_neg (a := p) (p := fun p => decide (keyD p.1 = keyD e)) (by rw [decide_eq_false h2]; exact Bool.false_ne_true), ih, if_neg (fun z => h3 z.1), if_neg (fun z => h3 z.1)]
      · rw [if_neg h1]
        rw [List.find?_cons_of_neg (a := p) (p := fun p => decide (keyD p.1 = keyD d)) (by rw [decide_eq_false h1]; exact Bool.false_ne_true)]
        by_cases h2 : keyD p.1 = keyD e
        · have h3 : ¬ keyD d = keyD e := fun z => h1 (h2.trans z.symm)
          rw [List.find?_cons_of_pos (by exact decide_eq_true h2), List.find?_cons_of_pos (a := p) (p := fun p => decide (keyD p.1 = keyD e)) (by exact decide_eq_true h2), if_neg (fun z => h3 z.1)]
        · rw [List.find?_cons_of_neg (by rw [decide_eq_false h2]; exact Bool.false_ne_true), List.find?_cons_of_neg (a := p) (p := fun p => decide (keyD p.1 = keyD e)) (by rw [decide_eq_false h2]; exact Bool.false_ne_true)]
          exact ih
  unfold putN
  by_cases hs : (lookN kvs d).isSome = true
  · rw [if_pos hs, hmap]
    by_cases h : keyD d = keyD e
    · rw [if_pos ⟨h, hs⟩, if_pos h]
    · rw [if_neg (fun z => h z.1), if_neg h]
  · rw [if_neg hs]
    have hnone : lookN kvs d = none := by
      cases hh : lookN kvs d with
      | none => rfl
      | some x => rw [hh] at hs; exact absurd rfl hs
    unfold lookN at *
    rw [List.find?_append]
    by_cases h : keyD d = keyD e
    · rw [if_pos h]
      rw [h] at hnone
      rw [Option.map_eq_none_iff] at hnone
      rw [hnone, Option.none_or]
      rw [List.find?_cons_of_pos (by exact decide_eq_true h)]
      rfl
    · rw [if_neg h]
      have : List.find? (fun p : PyData × Int => decide (keyD p.1 = keyD e)) [(d, n)] = none := by
        rw [List.find?_cons_of_neg (by rw [decide_eq_false h]; exact Bool.false_ne_true)]
        rfl
      rw [this, Option.or_none]
theorem put_len (kvs : List (PyData × Int)) (d : PyData) (n : Int) : (putN kvs d n).length ≤ kvs.length + 1 := by
  unfold putN
  split
  · rw [List.length_map]; omega
  · rw [List.length_append]; exact Nat.le_refl _
/-- the dict of the firsts -/
def Firsts (rem : List Nd) (kvs : List (PyData × Int)) : Prop := ∀ m, isIn m = false → lookN kvs (datNd m) = (idxK rem m).map (fun k : Nat => (k : Int))
theorem firsts_snoc {rem : List Nd} {kvs : List (PyData × Int)} {m : Nd} (h : Firsts rem kvs) (hp : place rem m = none) : Firsts (rem ++ [m]) (putN kvs (datNd m) (rem.length : Nat)) := fun m' hin => by
  rw [look_put, idx_snoc]
  by_cases e : m = m'
  · subst e
    have : idxK rem m = none := by
      unfold place at hp
      rw [if_neg (by rw [hin]; exact Bool.false_ne_true)] at hp
      exact hp
    rw [if_pos rfl, this, if_pos rfl]
    rfl
  · have hne : ¬ keyD (datNd m) = keyD (datNd m') := fun z => e (kN_iff.mp z)
    have hne' : ¬ kN m = kN m' := hne
    rw [h m' hin, if_neg hne, if_neg hne']
    cases idxK rem m' <;> rfl
instance : DecidableEq Nd := fun a b => if h : kN a = kN b then .isTrue (kN_iff.mp h) else .isFalse fun e => h (kN_iff.mpr e)
/-- the place, as the law finds it -/
def samesL (rem : List Nd) (m : Nd) (n : Nat) : List Nat := (List.range n).filter fun k => decide (rem[k]? = some m) && !isIn m
section
variable {P : Program} {w : World} {K : PySem.W.Frag} {mg : Str → Option Value} {base : Heap}
theorem tAnd_of {A B : TT} {b1 b2 : Bool} {σ : St} {H : Hp} {Q : Bool → Hp → Prop} (hA : ∀ Q' : Bool → Hp → Prop, Q' b1 H → A σ H Q') (hB : b1 = true → ∀ Q' : Bool → Hp → Prop, Q' b2 H → B σ H Q') (h : Q (b1 && b2) H) : tAnd A B σ H Q := by
  refine hA _ ?_
  cases b1 with
  | true => exact hB rfl _ h
  | false => exact h
theorem tk_ext {H H' : Hp} {F : Addr} {φ : Heap → Prop} (h : H F = some (.ext φ)) (b : But F H H') : TK H H' := fun c o e t => by
  have : c ≠ F := fun z => by
    subst z
    rw [h] at e
    cases e
    rcases t with ⟨_, t⟩ | ⟨_, _, t⟩ <;> cases t
  rw [b c this]
  exact e
theorem tk_keep {H H' : Hp} (s : TK H H') : KeepT K H H' := fun a xs h => sqT_tk h s
theorem same_keep {H H' : Hp} (s : Same H H') : KeepT K H H' := fun a xs h => sqT_same h s
theorem same_tk {H H' : Hp} (s : Same H H') : TK H H' := fun b o e _ => s b o e
theorem tk_list {H : Hp} {p : Addr} {o : HO} {ys : List V} (h : H p = some (.lst ys)) : TK H (upd H p o) := fun b x e t => by
  by_cases hb : b = p
  · subst hb
    rw [h] at e
    cases e
    rcases t with ⟨_, t⟩ | ⟨_, _, t⟩ <;> cases t
  · rw [upd_ne hb]
    exact e
def spShare (P : Program) (w : World) (K : PySem.W.Frag) : Sp := fun vs H Q _ => ∃ (pg pn po : Addr) (ws : List V) (nds : List Nd) (ds : List Dom) (os : List Nat), vs = [.ref pg] ∧ SqT K H pg [.ref pn, .ref po] ∧ SqT K H pn ws ∧ Nds K H ws nds ∧ WfG nds ds ∧ nds.length ≤ 400 ∧ totW nds ds ≤ 50000 ∧ SqT K H po ((asInts os).map V.int) ∧ os ≠ [] ∧ os.length ≤ 1000 ∧ (∀ o ∈ os, o < nds.length) ∧
  ∀ H' p q r ws', Same H H' → SqT K H' p [.ref q, .ref r] → SqT K H' q ws' → Nds K H' ws' (shS nds nds.length).1 → SqT K H' r ((asInts (os.map (toF (shS nds nds.length).2))).map V.int) → Q (.ref p) H'
abbrev nSh : List Str := ["graph", "nodes", "outs", "remaining", "places", "firsts", "place", "node", "moved", "out"]
theorem scSh : FnScope nSh ["graph"] (defScope sshare) := ⟨rfl, rfl, rfl, by decide +kernel, rfl, by decide +kernel, by decide +kernel⟩
theorem ok_share {f : Addr} {fd : FuncData} (F : Fun K "share" "share" sshare f fd) (T : TxtP mg) (cMo : Calls P w K mg base CX0 1 "_moved" ["node", "places"] (spMoved K)) (cCG : Calls P w K mg base (L2.CX P w) 7 "check_graph" ["graph"] (spCheckG K)) : FnOk P w K mg base (L2.CX P w) 8 f fd ["graph"] (spShare P w K) := by
  obtain ⟨fMo, dMo, GMo, kMo, bMo, gMo⟩ := cMo.ex
  obtain ⟨fCG, dCG, GCG, kCG, bCG, gCG⟩ := cCG.ex
  refine F.okX scSh (fun vs H Q E h => ?_) (fun cdv A outer s H vs Q E hr7 h => ?_)
  · obtain ⟨pg, pn, po, ws, nds, ds, os, rfl, _⟩ := h
    rfl
  · obtain ⟨pg, pn, po, ws, nds, ds, os, rfl, hpg, hpn, hN, hW, hnl, htw, hpo, ho0, hol, hos, q⟩ := h
    have hr1 : Room 1 _ := hr7.mono (by decide)
    refine ⟨_, (pss_cons (ps_expr (pe_callS GCG hr7 (by rfl) gCG kCG bCG (fun σ => passAt (takes_of rfl rfl rfl rfl) σ) (pa_cons (pv 0) pa_nil)))
      (pss_cons (ps_asg (pv 0) (pg_tup rfl (pgs_cons (pg_name (i := 1) scSh.nd rfl (.inl rfl)) (pgs_cons (pg_name (i := 2) scSh.nd rfl (.inl rfl)) pgs_nil))))
      (pss_cons (ps_set (i := 3) scSh.nd rfl (.inl rfl) (pe_lst pa_nil))
      (pss_cons (ps_set (i := 4) scSh.nd rfl (.inr rfl) pe_dnewK)
      (pss_cons (ps_set (i := 5) scSh.nd rfl (.inl rfl) pe_dnewN)
      (pss_cons (ps_for (passes_of rfl) rfl (pi_enumT (by rfl) T.enumerate (pa_cons (pv 1) pa_nil)) (pg_tup rfl (pgs_cons (pg_name (i := 6) scSh.nd rfl (.inl rfl)) (pgs_cons (pg_name (i := 7) scSh.nd rfl (.inl rfl)) pgs_nil))) (pss_cons (ps_set (i := 8) scSh.nd rfl (.inl rfl) (pe_call GMo hr1 (by rfl) gMo kMo bMo .nil pass0 (pa_cons (pv 7) (pa_cons (pv 4) pa_nil))))
      (pss_one (ps_if (PW.pt (pw_and (pt_cmpR op_ne (pe_ix ix_tup (pv 8) pe_int (fun _ _ => rfl)) pe_str (nomark _)) (pw_and1 (pt_cmpR (op_inN hr7.units) (pv 8) (pv 5) rfl)))) (pss_one (ps_asg (pe_dgetN hr7.units (pv 5) (pv 8) (fun _ _ => rfl)) (pg_sub (pv 4) (pv 6) (set_dict (Nat.lt_of_le_of_lt (Nat.add_le_add_left (by decide) _) hr7.units))))) (pss_cons (ps_asg (pe_callB call_len_seq (by rfl) T.len PySem.boot_len (pa_cons (pv 3) pa_nil)) (pg_sub (pv 4) (pv 6) (set_dict (Nat.lt_of_le_of_lt (Nat.add_le_add_left (by decide) _) hr7.units))))
      (pss_cons (ps_asg (pe_callB call_len_seq (by rfl) T.len PySem.boot_len (pa_cons (pv 3) pa_nil)) (pg_sub (pv 5) (pv 8) (set_dictN hr7.units)))
      (pss_one (ps_expr (pe_bm PySem.F.plainAttrs_list PySem.F.slot_list_append PySem.F.type_list_append mt_append (pv 3) (pa_cons (pv 8) pa_nil))))))))))
      (pss_one (ps_ret (pe_tup (pa_cons (pe_callTy call_tuple_of (by rfl) T.tuple (by decide +kernel) (pa_cons (pv 3) pa_nil)) (pa_cons (pe_callTy call_tuple_of (by rfl) T.tuple (by decide +kernel) (pa_cons (pe_lc (own := [("out", 9)]) (g := (gName 9)) (tt := tYes) (te := (tDGet (tVar 4) (tVar 9))) rfl scSh.nd (pi_tup (pv 2)) (blkOk_by (N := nSh) (sc := defScope sshare) (by decide +kernel)) (fun _ _ _ _ _ => (pg_name (i := 9) scSh.nd rfl (.inl rfl) (hf := Or.inr rfl))) (fun _ _ _ _ _ => pts_nil) (fun _ _ _ _ _ => (pe_dget (Nat.lt_of_le_of_lt (Nat.add_le_add_left (by decide) _) hr7.units) (pv 4) (pv 9) (fun _ _ => rfl)))) pa_nil)) pa_nil))))))))))), ?_⟩
    have hwl : ws.length = nds.length := hN.1
    have hb := wf_back hW
    have two_line : 2 ≤ sizeLine := by decide
    refine ⟨_, rfl, pg, pn, po, ws, nds, ds, os, rfl, hpg, hpn, hN, hW, hnl, htw, hpo, ho0, hol, hos, fun H1 p1 us1 s1 _ _ => ?_⟩
    refine ⟨_, rfl, pg, _, rfl, sqT_same hpg s1, rfl, _, _, rfl, _, _, rfl, rfl, ?_⟩
    refine ⟨Nat.zero_le _, fun R nR => fun G nG => fun D nD => ?_⟩
    have s5 := same_upd (o := .lst []) nR
    have s6 := same_upd (o := .dK []) nG
    have s7 := same_upd (o := .ext (rawD P w D [])) nD
    have s17 := ((s1.trans s5).trans s6).trans s7
    have hR0 := s7 _ _ (s6 _ _ (upd_same (H := H1) (a := R) (o := .lst [])))
    have hG0 := s7 _ _ (upd_same (H := upd H1 R (.lst [])) (a := G) (o := .dK []))
    have hD0 := upd_same (H := upd (upd H1 R (.lst [])) G (.dK [])) (a := D) (o := .ext (rawD P w D []))
    have hRn : ∀ b o, H b = some o → b ≠ R := fun b o e => ne_of_none (s1 _ _ e) nR
    have hGn : ∀ b o, H b = some o → b ≠ G := fun b o e => ne_of_none (s5 _ _ (s1 _ _ e)) nG
    have hDn : ∀ b o, H b = some o → b ≠ D := fun b o e => ne_of_none (s6 _ _ (s5 _ _ (s1 _ _ e))) nD
    have hGR : G ≠ R := fun e => by rw [e, upd_same] at nG; cases nG
    have hDG : D ≠ G := fun e => by rw [e, upd_same] at nD; cases nD
    have hDR : D ≠ R := fun e => by rw [e] at nD; rw [upd_ne (fun z => hGR z.symm), upd_same] at nD; cases nD
    refine ⟨_, rfl, pn, ws, rfl, sqT_same hpn s17, for_it (walk_enumT (K := K) (a := pn) (xs := ws)) (fun i σ H' => ∃ (v6 v7 v8 : Option V) (kvs : List (Key × V)) (rs : List V) (fk : List (PyData × Int)), σ = [some (.ref pg), some (.ref pn), some (.ref po), some (.ref R), some (.ref G), some (.ref D), v6, v7, v8, none] ∧ Same H H' ∧ H' R = some (.lst rs) ∧ H' G = some (.dK kvs) ∧ DN P w K H' D fk ∧ Nds K H' rs (shS nds i).1 ∧ kvs.length ≤ i ∧ fk.length ≤ i ∧ Firsts (shS nds i).1 fk ∧ ∀ j, j < i → valV kvs (.inl (j : Int)) = some (.int ((toF (shS nds i).2 j : Nat) : Int))) ?_ ?_ ?_ ?_⟩
    · exact ⟨none, none, none, [], [], [], rfl, s17, hR0, hG0, ⟨[], hD0, True.intro⟩, ⟨rfl, fun i v d h => by simp at h⟩, Nat.le_refl _, Nat.le_refl _, fun m _ => rfl, fun j h => absurd h (Nat.not_lt_zero _)⟩
    · rintro i σ H' _ ⟨_, _, _, _, _, _, _, sm, _⟩
      exact sqT_same hpn sm
    · clear hR0 hG0 hD0 s17 s5 s6 s7 nD nG nR
      rintro i x σ H5 H6 hi ⟨v6, v7, v8, kvs, rs, fk, rfl, sm, hR, hG, hD, hNr, hkl, hfl, hF, hv⟩ ⟨T', x1, x2, rfl, hT, rfl, e1, e2⟩
      cases e1
      have hi2 : i < nds.length := by omega
      have sT := same_upd (o := .tup [.int (i : Nat), x2]) hT
      have sm6 := sm.trans sT
      have hR6 := sT _ _ hR
      have hG6 := sT _ _ hG
      have hD6 := hD.kt (same_keep sT) (sT D)
      have hN6 := hNr.keep (Same.nl sT)
      have hT6 : SqT K (upd H5 T' (.tup [.int (i : Nat), x2])) T' [.int (i : Nat), x2] := SqT.of upd_same
      generalize (upd H5 T' (.tup [.int (i : Nat), x2])) = H6 at *
      clear hR hG hD hNr sT hT
      obtain ⟨nd, hnd⟩ : ∃ nd, nds[i]? = some nd := ⟨_, List.getElem?_eq_getElem hi2⟩
      have hx := (hN.2 i x2 nd e2 hnd).same sm6
      have hargs : argsAt nds i = nd.args := by unfold argsAt; rw [hnd]; rfl
      have hndA : ndAt nds i = nd := by unfold ndAt; rw [hnd]; rfl
      obtain ⟨l1, l2⟩ := sh_len nds i
      have hstep : shS nds (i + 1) = match place (shS nds i).1 (nd.re (toF (shS nds i).2)) with
        | some k => ((shS nds i).1, (shS nds i).2 ++ [k])
        | none => ((shS nds i).1 ++ [nd.re (toF (shS nds i).2)], (shS nds i).2 ++ [(shS nds i).1.length]) := by
        rw [← hndA]
        rfl
      rw [hstep]
      clear hstep
      have hrl : rs.length = (shS nds i).1.length := hN6.1
      generalize (shS nds i).1 = rem at *
      generalize (shS nds i).2 = to at *
      have hal : nd.args.length ≤ 900 := by
        have hil : i < ds.length := by rw [← hW.l]; exact hi2
        have := (hW.g i nd ds[i] hnd (List.getElem?_eq_getElem hil)).1.ar
        have := arN_le nd
        omega
      refine ⟨T', _, rfl, hT6, rfl, _, _, rfl, _, _, rfl, rfl, ?_⟩
      refine ⟨_, rfl, _, rfl, x2, G, nd, kvs, toF to, rfl, hx, hG6, fun a ha => ?_, hal, fun H7 u s7 hu => ?_⟩
      · rw [← hargs] at ha
        exact hv a (hb i a ha)
      have hto : ∀ k : Nat, ∀ j, j < i → toF (to ++ [k]) j = toF to j := fun k j hj => by
        unfold toF
        rw [List.getD_eq_getElem?_getD, List.getD_eq_getElem?_getD, List.getElem?_append_left (by omega)]
      have hti : ∀ k : Nat, toF (to ++ [k]) i = k := fun k => by
        unfold toF
        rw [List.getD_eq_getElem?_getD, ← l1, List.getElem?_append_right (Nat.le_refl _), Nat.sub_self]
        rfl
      generalize nd.re (toF to) = m at hu ⊢
      have hR7 := s7 _ _ hR6
      have hG7 := s7 _ _ hG6
      have hD7 := hD6.kt (same_keep s7) (s7 D)
      have hN7 := hN6.keep (Same.nl s7)
      have sm7 := sm6.trans s7
      clear hR6 hG6 hD6 hN6 sm6 sm hx s7
      obtain ⟨pu, pua, pui, rfl, u1, u2, u3⟩ := id hu
      have hdp : Dp K H7 (.ref pu) (datNd m) := dp_nd hu
      have hfm := hF m
      have hput : ∀ k : Nat, ∀ j, j < i + 1 → valV (putK kvs (.inl ((i : Nat) : Int)) (.int (k : Int))) (.inl (j : Int)) = some (.int ((toF (to ++ [k]) j : Nat) : Int)) := fun k j hj => by
        rw [valV_put]
        by_cases e : j = i
        · subst e
          rw [if_pos rfl, hti]
        · rw [if_neg (fun z => e (by have := Sum.inl.inj z; omega)), hto k j (by omega)]
          exact hv j (by omega)
      have hpl : ∀ k : Nat, (putK kvs (.inl ((i : Nat) : Int)) (.int (k : Int))).length ≤ i + 1 := fun k => by
        have := length_putK kvs (.inl ((i : Nat) : Int)) (.int (k : Int))
        omega
      have hkl2 : kvs.length < sizeLine := small1000 (by omega)
      dsimp only [gName, tIfS]
      refine tAnd_of (b1 := !isIn m) (b2 := (lookN fk (datNd m)).isSome) (fun Q' h => ?_) (fun _ Q' h => ?_) ?_
      · refine ⟨_, rfl, pu, _, (0 : Nat), _, rfl, rfl, u1, i0, rfl, _, rfl, ?_⟩
        have := isIn_nm m
        rw [this]
        exact h
      · exact ⟨_, rfl, _, rfl, pu, D, datNd m, fk, rfl, rfl, hdp, nd_plain m, nd_key8 m, hD7, _, rfl, h⟩
      have hps : (!isIn m && (lookN fk (datNd m)).isSome) = (place rem m).isSome := by
        unfold place
        cases hin : isIn m with
        | true => rfl
        | false =>
          rw [hfm hin, if_neg Bool.false_ne_true]
          cases idxK rem m <;> rfl
      rw [hps]
      cases hp : place rem m with
      | some k =>
        have hin : isIn m = false ∧ idxK rem m = some k := by
          unfold place at hp
          split at hp
          · cases hp
          · rename_i h
            exact ⟨Bool.eq_false_iff.mpr h, hp⟩
        have hlk : lookN fk (datNd m) = some (k : Int) := by rw [hfm hin.1, hin.2]; rfl
        refine iteT ⟨_, rfl, _, rfl, pu, D, datNd m, fk, (k : Int), rfl, rfl, hdp, nd_plain m, nd_key8 m, hD7, hlk, _, rfl, _, rfl, G, _, rfl, DPut.k (k := .inl ((i : Nat) : Int)) hG7 hkl2, ?_⟩
        have tk := tk_dict (o := .dK (putK kvs (.inl ((i : Nat) : Int)) (.int (k : Int)))) hG7
        exact ⟨_, _, _, _, rs, fk, rfl, fun b o e => by rw [upd_ne (hGn b o e)]; exact sm7 _ _ e, by rw [upd_ne (fun e => hGR e.symm)]; exact hR7, upd_same, hD7.kt (tk_keep tk) (fun o e => by rw [upd_ne hDG]; exact e), hN7.tk tk, hpl k, by omega, hF, hput k⟩
      | none =>
        refine iteF ⟨_, rfl, R, _, rfl, .inl (SqL.of hR7), _, rfl, _, rfl, G, _, rfl, DPut.k (k := .inl ((i : Nat) : Int)) hG7 hkl2, ?_⟩
        rw [hrl]
        have tk := tk_dict (o := .dK (putK kvs (.inl ((i : Nat) : Int)) (.int ((rem.length : Nat) : Int)))) hG7
        have hR8 : (upd H7 G (.dK (putK kvs (.inl ((i : Nat) : Int)) (.int ((rem.length : Nat) : Int))))) R = some (.lst rs) := by rw [upd_ne (fun e => hGR e.symm)]; exact hR7
        have hG8 : (upd H7 G (.dK (putK kvs (.inl ((i : Nat) : Int)) (.int ((rem.length : Nat) : Int))))) G = some (.dK (putK kvs (.inl ((i : Nat) : Int)) (.int ((rem.length : Nat) : Int)))) := upd_same
        have hD8 : DN P w K (upd H7 G (.dK (putK kvs (.inl ((i : Nat) : Int)) (.int ((rem.length : Nat) : Int))))) D fk := hD7.kt (tk_keep tk) (fun o e => by rw [upd_ne hDG]; exact e)
        have hN8 := hN7.tk tk
        have hu8 := hu.tk tk
        have sm8 : Same H (upd H7 G (.dK (putK kvs (.inl ((i : Nat) : Int)) (.int ((rem.length : Nat) : Int))))) := fun b o e => by rw [upd_ne (hGn b o e)]; exact sm7 _ _ e
        generalize (upd H7 G (.dK (putK kvs (.inl ((i : Nat) : Int)) (.int ((rem.length : Nat) : Int))))) = H8 at *
        refine ⟨_, rfl, R, _, rfl, .inl (SqL.of hR8), _, rfl, _, rfl, pu, D, datNd m, fk, ((rem.length : Nat) : Int), rfl, rfl, by rw [hrl], dp_nd hu8, nd_plain m, nd_key8 m, hD8, by omega, fun H9 b9 k9 dn9 => ?_⟩
        obtain ⟨fx, hfx, _⟩ := id hD8
        have tk9 := tk_ext hfx b9
        have hR9 : H9 R = some (.lst rs) := by rw [b9 R (fun e => hDR e.symm)]; exact hR8
        have hG9 : H9 G = some (.dK (putK kvs (.inl ((i : Nat) : Int)) (.int ((rem.length : Nat) : Int)))) := by rw [b9 G (fun e => hDG e.symm)]; exact hG8
        have nl : TK H9 (upd H9 R (.lst (rs ++ [.ref pu]))) := tk_list hR9
        have fkl := put_len fk (datNd m) ((rem.length : Nat) : Int)
        refine ⟨_, rfl, .inl ⟨rfl, _, SqL.of hR9⟩, _, rfl, R, _, _, rfl, rfl, hR9, small1000 (by omega), ?_⟩
        refine ⟨_, _, _, _, rs ++ [.ref pu], putN fk (datNd m) ((rem.length : Nat) : Int), rfl, fun b o e => by rw [upd_ne (hRn b o e), b9 b (hDn b o e)]; exact sm8 _ _ e, upd_same, by rw [upd_ne hGR]; exact hG9, dn9.kt (tk_keep nl) (fun o e => by rw [upd_ne hDR]; exact e), ((hN8.tk tk9).tk nl).snoc ((hu8.tk tk9).tk nl), hpl _, by omega, firsts_snoc hF hp, hput _⟩
    · rintro σ H5 ⟨v6, v7, v8, kvs, rs, fk, rfl, sm, hR, hG, hD, hNr, hkl, hfl, hF, hv⟩
      rw [hwl] at hNr hkl hv
      have hoL : ((asInts os).map V.int).length = os.length := by rw [List.length_map, asInts, List.length_map]
      refine ⟨_, rfl, R, _, rfl, .inl ⟨SqL.of hR, fun l nl => ?_⟩⟩
      have s7 := same_upd (o := .tup rs) nl
      have hl7 : SqT K (upd H5 l (.tup rs)) l rs := SqT.of upd_same
      have sm7 := sm.trans s7
      have hG7 := s7 _ _ hG
      have hN7 := hNr.keep (Same.nl s7)
      generalize (upd H5 l (.tup rs)) = H7 at *
      refine ⟨_, rfl, po, rfl, ⟨_, sqT_same hpo sm7⟩, fun M nM => lc_tup (K := K) (a := po) (xs := (asInts os).map V.int) (fun j H' => Same H7 H' ∧ H' M = some (.lst ((asInts ((os.take j).map (toF (shS nds nds.length).2))).map V.int))) ⟨same_upd nM, upd_same⟩ (fun i H' _ h => sqT_same hpo (sm7.trans h.1)) ?_ ?_⟩
      · rintro j x H' hx ⟨sm8, hM⟩
        obtain ⟨o, rfl, ho⟩ := map_int_at hx
        unfold asInts at ho
        rw [List.getElem?_map] at ho
        obtain ⟨k, hk, rfl⟩ := Option.map_eq_some_iff.mp ho
        have hko := List.mem_of_getElem? hk
        refine ⟨rfl, ?_⟩
        unfold tYes
        dsimp only
        rw [if_pos rfl]
        have hget := DGet.k (k := .inl (k : Int)) (sm8 _ _ hG7)
        rw [hv k (hos k hko)] at hget
        have hj : j < os.length := (List.getElem?_eq_some_iff.mp hk).1
        refine ⟨_, rfl, _, rfl, G, _, rfl, hget, _, hM, ?_, fun b o e => by rw [upd_ne (ne_of_none e nM)]; exact sm8 _ _ e, ?_⟩
        · rw [List.length_map, asInts, List.length_map, List.length_map, List.length_take]
          exact Nat.lt_of_lt_of_le (Nat.lt_of_le_of_lt (Nat.min_le_left _ _) (show j < 1000 by omega)) (Nat.le_of_lt (small1000 (Nat.le_refl _)))
        · rw [upd_same, take_snoc hk]
          simp [asInts]
      · rintro H8 ⟨sm8, hM⟩
        rw [hoL, List.take_length] at hM
        refine ⟨M, _, rfl, .inl ⟨SqL.of hM, fun l2 nl2 => ⟨two_line, fun p np => ?_⟩⟩⟩
        have s9 := same_upd (o := .tup ((asInts (os.map (toF (shS nds nds.length).2))).map V.int)) nl2
        have s10 := same_upd (o := .tup [.ref l, .ref l2]) np
        have s810 := (sm8.trans s9).trans s10
        exact q _ p l l2 rs (sm7.trans s810) (SqT.of upd_same) (sqT_same hl7 s810) (hN7.keep (Same.nl s810)) (sqT_same (SqT.of upd_same) s10)
end
theorem samesL_succ (rem : List Nd) (m : Nd) (n : Nat) : samesL rem m (n + 1) = samesL rem m n ++ if (decide (rem[n]? = some m) && !isIn m) = true then [n] else [] := by
  unfold samesL
  rw [List.range_succ, List.filter_append]
  congr 1
  by_cases h : (decide (rem[n]? = some m) && !isIn m) = true
  · rw [if_pos h]
    exact (List.filter_cons_of_pos (p := fun k => decide (rem[k]? = some m) && !isIn m) h).trans rfl
  · rw [if_neg h]
    exact (List.filter_cons_of_neg (p := fun k => decide (rem[k]? = some m) && !isIn m) h).trans rfl
theorem sames_head (rem : List Nd) (m : Nd) : (samesL rem m rem.length).head? = place rem m := by
  unfold samesL place
  rw [List.head?_filter]
  by_cases hin : isIn m = true
  · rw [if_pos hin, List.find?_eq_none]
    intro k _
    rw [hin]
    simp
  · rw [if_neg hin]
    have hin' : isIn m = false := Bool.eq_false_iff.mpr hin
    cases h : idxK rem m with
    | none =>
      rw [List.find?_eq_none]
      intro k _ hk
      rw [hin', Bool.not_false, Bool.and_true, decide_eq_true_iff] at hk
      exact idx_none.mp h (List.mem_of_getElem? hk)
    | some k =>
      obtain ⟨h1, h2⟩ := idx_some h
      have hl := (List.getElem?_eq_some_iff.mp h1).1
      rw [List.find?_range_eq_some]
      refine ⟨by rw [h1, hin']; simp, by simpa using hl, fun j hj => ?_⟩
      rw [decide_eq_false (h2 j hj)]
      rfl
/-- the copies of each node -/
def Rp (nds : List Nd) (ds : List Dom) (Ls : List (List Nat)) (B : Nat) : Prop := Ls.length = nds.length ∧ ∀ (k : Nat) l, Ls[k]? = some l → l ≠ [] ∧ l.length ≤ B ∧ ∀ c ∈ l, c < nds.length ∧ ds[c]? = ds[k]?
theorem Rp.step {nds : List Nd} {ds : List Dom} {Ls : List (List Nat)} {B n : Nat} {nd : Nd} {d : Dom} {l : List Nat} (r : Rp nds ds Ls B) (hl : nds.length = ds.length) (hd : ds[n]? = some d) (hn : Ls[n]? = some l) (hB : 1 ≤ B) : Rp (nds ++ [nd]) (ds ++ [d]) (Ls.set n (l ++ [nds.length]) ++ [[nds.length]]) (B + 1) := by
  obtain ⟨r1, r2⟩ := r
  have hnl := (List.getElem?_eq_some_iff.mp hn).1
  have hnd : ∀ c : Nat, c < nds.length → (ds ++ [d])[c]? = ds[c]? := fun c hc => List.getElem?_append_left (by omega)
  have hlast : (ds ++ [d])[nds.length]? = some d := by rw [hl, List.getElem?_append_right (Nat.le_refl _), Nat.sub_self]; rfl
  refine ⟨by rw [List.length_append, List.length_append, List.length_set, r1]; rfl, fun k l' hk => ?_⟩
  have hL : (nds ++ [nd]).length = nds.length + 1 := by rw [List.length_append]; rfl
  by_cases hkl : k < Ls.length
  · rw [List.getElem?_append_left (by rw [List.length_set]; exact hkl), List.getElem?_set] at hk
    by_cases e : n = k
    · subst e
      rw [if_pos rfl, if_pos hnl] at hk
      cases hk
      obtain ⟨a1, a2, a3⟩ := r2 n l hn
      refine ⟨by simp, by rw [List.length_append]; show l.length + 1 ≤ B + 1; omega, fun c hc => ?_⟩
      rcases List.mem_append.mp hc with hc | hc
      · obtain ⟨b1, b2⟩ := a3 c hc
        exact ⟨by omega, by rw [hnd c b1, hnd n (by omega)]; exact b2⟩
      · rw [List.mem_singleton.mp hc]
        exact ⟨by omega, by rw [hlast, hnd n (by omega), hd]⟩
    · rw [if_neg e] at hk
      obtain ⟨a1, a2, a3⟩ := r2 k l' hk
      refine ⟨a1, by omega, fun c hc => ?_⟩
      obtain ⟨b1, b2⟩ := a3 c hc
      exact ⟨by omega, by rw [hnd c b1, hnd k (by omega)]; exact b2⟩
  · have hlt := (List.getElem?_eq_some_iff.mp hk).1
    rw [List.length_append, List.length_set] at hlt
    have ek : k = Ls.length := by
      have : ([[nds.length]] : List (List Nat)).length = 1 := rfl
      omega
    subst ek
    rw [List.getElem?_append_right (by rw [List.length_set]; exact Nat.le_refl _), List.length_set, Nat.sub_self] at hk
    cases hk
    refine ⟨by simp, by show 1 ≤ B + 1; omega, fun c hc => ?_⟩
    rw [List.mem_singleton.mp hc, r1]
    exact ⟨by omega, rfl⟩
theorem wf_rep {nds : List Nd} {ds : List Dom} {Ls : List (List Nat)} {B n : Nat} {nd : Nd} {d : Dom} {mv : List Nat} (w : WfG nds ds) (r : Rp nds ds Ls B) (hn : nds[n]? = some nd) (hd : ds[n]? = some d) (hl : mv.length = nd.args.length) (hm : ∀ (t a c : Nat), nd.args[t]? = some a → mv[t]? = some c → ∃ l, Ls[a]? = some l ∧ c ∈ l) : WfG (nds ++ [nd.wa mv]) (ds ++ [d]) := by
  obtain ⟨w1, w2, gs, w3, w4, w5⟩ := w.g n nd d hn hd
  have hmv : ∀ (t c : Nat), mv[t]? = some c → ∃ a, nd.args[t]? = some a ∧ c < nds.length ∧ ds[c]? = ds[a]? := fun t c hc => by
    have htl := (List.getElem?_eq_some_iff.mp hc).1
    obtain ⟨a, ha⟩ : ∃ a, nd.args[t]? = some a := ⟨_, List.getElem?_eq_getElem (by omega)⟩
    obtain ⟨l, h1, h2⟩ := hm t a c ha hc
    obtain ⟨_, _, h3⟩ := r.2 a l h1
    obtain ⟨h4, h5⟩ := h3 c h2
    exact ⟨a, ha, h4, h5⟩
  refine w.snoc (wa_good w1 hl fun a ha => ?_) w2 (gs := gs) ⟨by rw [wa_args hl, hl]; exact w3.1, fun i c hc => ?_⟩ w4 (by rw [wa_lawD]; exact w5)
  · obtain ⟨j, hj, e⟩ := List.mem_iff_getElem.mp ha
    obtain ⟨_, _, h, _⟩ := hmv j a (by rw [List.getElem?_eq_getElem hj, e])
    rw [← w.l]
    exact h
  · rw [wa_args hl] at hc
    obtain ⟨a, ha, _, h⟩ := hmv i c hc
    obtain ⟨g, g1, g2⟩ := (given_take w3).2 i a ha
    exact ⟨g, by rw [h]; exact g1, g2⟩
theorem atI_asInts {l : List Nat} {i c : Nat} (h : l[i]? = some c) : atI ((asInts l).map V.int) (i : Int) = some (.int c) := atI_nat (by unfold asInts; rw [List.map_map, List.getElem?_map, h]; rfl)
theorem asInts_len (l : List Nat) : ((asInts l).map V.int).length = l.length := by rw [List.length_map, asInts, List.length_map]
theorem asInts_snoc (l : List Nat) (c : Nat) : (asInts (l ++ [c])).map V.int = (asInts l).map V.int ++ [V.int c] := by simp [asInts]
section
variable {K : PySem.W.Frag}
structure StL (K : PySem.W.Frag) (H : Hp) (d c pn C : Addr) (vs : List V) (nds : List Nd) (cs : List Addr) (Ls : List (List Nat)) : Prop where
  dr : DrAt H d c
  n : H pn = some (.lst vs)
  m : Nds K H vs nds
  hC : H C = some (.lst (cs.map V.ref))
  l : cs.length = Ls.length
  e : ∀ (k : Nat) a l, cs[k]? = some a → Ls[k]? = some l → H a = some (.lst ((asInts l).map V.int))
  nd : cs.Nodup
  av : ∀ a ∈ cs, a ≠ d ∧ a ≠ c ∧ a ≠ pn ∧ a ≠ C
  p1 : pn ≠ d
  p2 : pn ≠ c
  c1 : C ≠ d
  c2 : C ≠ c
  c3 : C ≠ pn
theorem StL.kb {H H' : Hp} {d c pn C : Addr} {vs : List V} {nds : List Nd} {cs : List Addr} {Ls : List (List Nat)} (s : StL K H d c pn C vs nds cs Ls) (k : Kb d H H') (dr : DrAt H' d c) : StL K H' d c pn C vs nds cs Ls :=
  ⟨dr, k _ _ s.p1 s.n, s.m.keep (k.nl s.dr), k _ _ s.c1 s.hC, s.l, fun i a l h1 h2 => k _ _ (s.av a (List.mem_of_getElem? h1)).1 (s.e i a l h1 h2), s.nd, s.av, s.p1, s.p2, s.c1, s.c2, s.c3⟩
theorem StL.same {H H' : Hp} {d c pn C : Addr} {vs : List V} {nds : List Nd} {cs : List Addr} {Ls : List (List Nat)} (s : StL K H d c pn C vs nds cs Ls) (k : Same H H') : StL K H' d c pn C vs nds cs Ls := s.kb (Same.kb k) (s.dr.same k)
/-- a list that is none of these may be changed -/
theorem StL.other {H : Hp} {d c pn C M : Addr} {vs ys zs : List V} {nds : List Nd} {cs : List Addr} {Ls : List (List Nat)} (s : StL K H d c pn C vs nds cs Ls) (hM : H M = some (.lst ys)) (m1 : M ≠ d) (m2 : M ≠ c) (m3 : M ≠ pn) (m4 : M ≠ C) (m5 : M ∉ cs) : StL K (upd H M (.lst zs)) d c pn C vs nds cs Ls :=
  ⟨s.dr.upd _ m1 m2, by rw [upd_ne m3.symm]; exact s.n, s.m.keep (nl_upd hM), by rw [upd_ne m4.symm]; exact s.hC, s.l, fun i a l h1 h2 => by rw [upd_ne (fun e => m5 (by rw [← e]; exact List.mem_of_getElem? h1))]; exact s.e i a l h1 h2, s.nd, s.av, s.p1, s.p2, s.c1, s.c2, s.c3⟩
/-- a node more -/
theorem StL.node {H : Hp} {d c pn C : Addr} {vs : List V} {nds : List Nd} {cs : List Addr} {Ls : List (List Nat)} {u : V} {nd : Nd} (s : StL K H d c pn C vs nds cs Ls) (hu : NdAt K H u nd) : StL K (upd H pn (.lst (vs ++ [u]))) d c pn C (vs ++ [u]) (nds ++ [nd]) cs Ls :=
  ⟨s.dr.upd _ s.p1 s.p2, upd_same, (s.m.keep (nl_upd s.n)).snoc (hu.keep (nl_upd s.n)), by rw [upd_ne s.c3]; exact s.hC, s.l, fun i a l h1 h2 => by rw [upd_ne (s.av a (List.mem_of_getElem? h1)).2.2.1]; exact s.e i a l h1 h2, s.nd, s.av, s.p1, s.p2, s.c1, s.c2, s.c3⟩
/-- a copy more -/
theorem StL.copy {H : Hp} {d c pn C x : Addr} {vs : List V} {nds : List Nd} {cs : List Addr} {Ls : List (List Nat)} {n k : Nat} {l : List Nat} (s : StL K H d c pn C vs nds cs Ls) (hx : cs[n]? = some x) (hl : Ls[n]? = some l) : StL K (upd H x (.lst ((asInts l).map V.int ++ [.int k]))) d c pn C vs nds cs (Ls.set n (l ++ [k])) := by
  obtain ⟨a1, a2, a3, a4⟩ := s.av x (List.mem_of_getElem? hx)
  have hxe := s.e n x l hx hl
  refine ⟨s.dr.upd _ a1 a2, by rw [upd_ne a3.symm]; exact s.n, s.m.keep (nl_upd hxe), by rw [upd_ne a4.symm]; exact s.hC, by rw [List.length_set]; exact s.l, fun i a l' h1 h2 => ?_, s.nd, s.av, s.p1, s.p2, s.c1, s.c2, s.c3⟩
  rw [List.getElem?_set] at h2
  have hnl := (List.getElem?_eq_some_iff.mp hl).1
  by_cases e : n = i
  · subst e
    rw [if_pos rfl, if_pos hnl] at h2
    cases h2
    rw [hx] at h1
    cases h1
    rw [upd_same, asInts_snoc]
  · rw [if_neg e] at h2
    have hax : a ≠ x := fun z => by
      subst z
      exact e ((List.getElem?_inj (List.getElem?_eq_some_iff.mp hx).1 s.nd).mp (hx.trans h1.symm))
    rw [upd_ne hax]
    exact s.e i a l' h1 h2
/-- a node's own list -/
theorem StL.own {H : Hp} {d c pn C y : Addr} {vs : List V} {nds : List Nd} {cs : List Addr} {Ls : List (List Nat)} {k : Nat} (s : StL K H d c pn C vs nds cs Ls) (ny : H y = none) : StL K (upd (upd H y (.lst [.int k])) C (.lst (cs.map V.ref ++ [.ref y]))) d c pn C vs nds (cs ++ [y]) (Ls ++ [[k]]) := by
  have sy := same_upd (o := .lst [.int k]) ny
  have s1 := s.same sy
  obtain ⟨y1, y2⟩ := new_ne s.dr ny
  have y3 : y ≠ pn := (ne_of_none s.n ny).symm
  have y4 : y ≠ C := (ne_of_none s.hC ny).symm
  have hycs : y ∉ cs := fun h => by
    obtain ⟨j, hj, e⟩ := List.mem_iff_getElem.mp h
    have h1 : cs[j]? = some y := by rw [List.getElem?_eq_getElem hj, e]
    obtain ⟨l, hl⟩ : ∃ l, Ls[j]? = some l := ⟨_, List.getElem?_eq_getElem (by rw [← s.l]; exact hj)⟩
    have := s.e j y l h1 hl
    rw [ny] at this
    cases this
  refine ⟨s1.dr.upd _ s.c1 s.c2, by rw [upd_ne s.c3.symm]; exact s1.n, s1.m.keep (nl_upd s1.hC), by rw [upd_same, List.map_append]; rfl, by rw [List.length_append, List.length_append, s.l]; rfl, fun i a l h1 h2 => ?_, ?_, fun a ha => ?_, s.p1, s.p2, s.c1, s.c2, s.c3⟩
  · by_cases hi : i < cs.length
    · rw [List.getElem?_append_left hi] at h1
      rw [List.getElem?_append_left (by rw [← s.l]; exact hi)] at h2
      rw [upd_ne (s.av a (List.mem_of_getElem? h1)).2.2.2]
      exact s1.e i a l h1 h2
    · have hlt := (List.getElem?_eq_some_iff.mp h1).1
      rw [List.length_append] at hlt
      have ei : i = cs.length := by
        have : ([y] : List Addr).length = 1 := rfl
        omega
      subst ei
      rw [List.getElem?_append_right (Nat.le_refl _), Nat.sub_self] at h1
      rw [s.l, List.getElem?_append_right (Nat.le_refl _), Nat.sub_self] at h2
      cases h1
      cases h2
      rw [upd_ne y4, upd_same]
      rfl
  · rw [List.nodup_append]
    refine ⟨s.nd, List.nodup_cons.mpr ⟨List.not_mem_nil, List.nodup_nil⟩, fun a ha b hb => ?_⟩
    rw [List.mem_singleton.mp hb]
    exact fun z => hycs (z ▸ ha)
  · rcases List.mem_append.mp ha with ha | ha
    · exact s.av a ha
    · rw [List.mem_singleton.mp ha]
      exact ⟨y1, y2, y3, y4⟩
end
theorem nd_shaped {nd : Nd} (h : GoodD nd) : SeqAt.shaped (datNd nd) = true := by
  have h2 := nd_depth nd
  show (PyData.canLay0 (datNd nd) && decide (PyData.depth (datNd nd) ≤ 64)) = true
  rw [Bool.and_eq_true]
  exact ⟨nd_lay h, decide_eq_true (by omega)⟩
theorem tyL25 {K : PySem.W.Frag} {H : Hp} {D : Addr} {xs : List V} (h : H D = some (.lst xs)) : tyV K "list" (.ref D) H := .inl ⟨rfl, _, SqL.of h⟩
theorem passNw {P : Program} {w : World} {X : Cx} : Passes (L2.CX P w) X E0 := fun _ _ _ _ _ _ _ h => by
  obtain ⟨_, _, _, _, _, _, _, _, _, _, _, _, z⟩ := h
  exact z.elim
section
variable {P : Program} {w : World} {K : PySem.W.Frag} {mg : Str → Option Value} {base : Heap}
theorem GrAt.kb {H H' : Hp} {pn pd d c : Addr} {vs us : List V} {nds : List Nd} {ds : List Dom} (g : GrAt K H pn pd vs us nds ds) (k : Kb d H H') (n1 : pn ≠ d) (n2 : pd ≠ d) (dr : DrAt H d c) : GrAt K H' pn pd vs us nds ds := ⟨k _ _ n1 g.n, g.m.keep (k.nl dr), g.d.kb k n2 dr, g.w⟩
def spLaw (K : PySem.W.Frag) : Sp := fun vs H Q _ => ∃ (a : Addr) (ns : List Int), vs = [.ref a] ∧ SqL K H a (ns.map V.int) ∧ ns.length ≤ 63 ∧ ∀ H', Q (.bl true) H'
structure TxtL (mg : Str → Option Value) extends TxtC mg where
  range : mg "range" = none
abbrev nLw : List Str := ["script", "d", "nodes", "doms", "k", "copies", "n", "kind", "args", "info", "moved", "arg", "outs", "to", "due", "node", "same"]
theorem scLw : FnScope nLw ["script"] (defScope slaw) := ⟨rfl, rfl, rfl, by decide +kernel, rfl, by decide +kernel, by decide +kernel⟩
theorem ok_law {f : Addr} {fd : FuncData} (F : Fun K "law" "law" slaw f fd) (T : TxtL mg) (cB : Calls P w K mg base CX0 1 "_law_begin" ["script"] (spBegin K)) (cT : Calls P w K mg base CX0 1 "_law_take" ["d", "many"] spTake) (cKi : Calls P w K mg base CX0 2 "_law_kinds" ["d"] (spKinds K)) (cGr : Calls P w K mg base CX0 5 "_law_graph" ["d", "many", "kinds", "reach", "cap", "bits"] (spGraph K)) (cSh : Calls P w K mg base (L2.CX P w) 8 "share" ["graph"] (spShare P w K)) : FnOk P w K mg base CX0 9 f fd ["script"] (spLaw K) := by
  obtain ⟨fB, dB, GB, kB, bB, gB⟩ := cB.ex
  obtain ⟨fT, dT, GT, kT, bT, gT⟩ := cT.ex
  obtain ⟨fKi, dKi, GKi, kKi, bKi, gKi⟩ := cKi.ex
  obtain ⟨fGr, dGr, GGr, kGr, bGr, gGr⟩ := cGr.ex
  obtain ⟨fSh, dSh, GSh, kSh, bSh, gSh⟩ := cSh.ex
  refine F.ok scLw (fun vs H Q E h => ?_) (fun cdv A outer s H vs Q E hr8 h => ?_)
  · obtain ⟨a, ns, rfl, _⟩ := h
    rfl
  · obtain ⟨a, ns, rfl, hS, hlen, q⟩ := h
    have hr1 : Room 1 _ := hr8.mono (by decide)
    have hr2 : Room 2 _ := hr8.mono (by decide)
    have hr5 : Room 5 _ := hr8.mono (by decide)
    refine ⟨_, (pss_cons (ps_set (i := 1) scLw.nd rfl (.inl rfl) (pe_call GB hr1 (by rfl) gB kB bB .nil pass0 (pa_cons (pv 0) pa_nil)))
      (pss_cons (ps_asg (pe_call GGr hr5 (by rfl) gGr kGr bGr .nil pass0 (pa_cons (pv 1) (pa_cons pe_int (pa_cons (pe_call GKi hr2 (by rfl) gKi kKi bKi .nil pass0 (pa_cons (pv 1) pa_nil)) (pa_cons pe_int (pa_cons pe_int (pa_cons pe_int pa_nil))))))) (pg_tup rfl (pgs_cons (pg_name (i := 2) scLw.nd rfl (.inl rfl)) (pgs_cons (pg_name (i := 3) scLw.nd rfl (.inl rfl)) pgs_nil))))
      (pss_cons (ps_setLc (i := 5) (own := [("k", 4)]) (g := (gName 4)) (tt := tYes) (te := (tLst (tCons (tVar 4) tNil))) (by rfl) scLw.nd rfl rfl (sw_true rfl rfl rfl (by decide +kernel)) (pi_range1 rfl T.range (pa_cons (pe_callB call_len_seq (by rfl) T.len PySem.boot_len (pa_cons (pv 2) pa_nil)) pa_nil)) (blkOk_by (N := nLw) (sc := defScope slaw) (by decide +kernel)) (fun _ _ _ _ _ => (pg_name (i := 4) scLw.nd rfl (.inl rfl))) (fun _ _ _ _ _ => pts_nil) (fun _ _ _ _ _ => (pe_lst (pa_cons (pv 4) pa_nil))))
      (pss_cons (ps_for PassesOwn.never rfl (pi_range1 rfl T.range (pa_cons (pe_call GT hr1 (by rfl) gT kT bT .nil pass0 (pa_cons (pv 1) (pa_cons pe_int pa_nil))) pa_nil)) (pg_name (i := 4) scLw.nd rfl (.inl rfl)) (pss_cons (ps_set (i := 6) scLw.nd rfl (.inl rfl) (pe_call GT hr1 (by rfl) gT kT bT .nil pass0 (pa_cons (pv 1) (pa_cons (pe_callB call_len_seq (by rfl) T.len PySem.boot_len (pa_cons (pv 2) pa_nil)) pa_nil))))
      (pss_cons (ps_asg (pe_ix ix_list (pv 2) (pv 6) (fun _ _ => rfl)) (pg_tup rfl (pgs_cons (pg_name (i := 7) scLw.nd rfl (.inr rfl)) (pgs_cons (pg_name (i := 8) scLw.nd rfl (.inl rfl)) (pgs_cons (pg_name (i := 9) scLw.nd rfl (.inl rfl)) pgs_nil)))))
      (pss_cons (ps_set (i := 10) scLw.nd rfl (.inl rfl) (pe_lst pa_nil))
      (pss_cons (ps_for PassesOwn.never rfl (pi_tup (pv 8)) (pg_name (i := 11) scLw.nd rfl (.inl rfl)) (pss_one (ps_expr (pe_bm PySem.F.plainAttrs_list PySem.F.slot_list_append PySem.F.type_list_append mt_append (pv 10) (pa_cons (pe_ix ix_list (pe_ix ix_list (pv 5) (pv 11) (fun _ _ => rfl)) (pe_call GT hr1 (by rfl) gT kT bT .nil pass0 (pa_cons (pv 1) (pa_cons (pe_callB call_len_seq (by rfl) T.len PySem.boot_len (pa_cons (pe_ix ix_list (pv 5) (pv 11) (fun _ _ => rfl)) pa_nil)) pa_nil))) (fun _ _ => rfl)) pa_nil)))))
      (pss_cons (ps_expr (pe_bm PySem.F.plainAttrs_list PySem.F.slot_list_append PySem.F.type_list_append mt_append (pv 2) (pa_cons (pe_tup (pa_cons (pv 7) (pa_cons (pe_callTy call_tuple_of (by rfl) T.tuple (by decide +kernel) (pa_cons (pv 10) pa_nil)) (pa_cons (pv 9) pa_nil)))) pa_nil)))
      (pss_cons (ps_expr (pe_bm PySem.F.plainAttrs_list PySem.F.slot_list_append PySem.F.type_list_append mt_append (pe_ix ix_list (pv 5) (pv 6) (fun _ _ => rfl)) (pa_cons (pe_op op_sub (pe_callB call_len_seq (by rfl) T.len PySem.boot_len (pa_cons (pv 2) pa_nil)) pe_int) pa_nil)))
      (pss_one (ps_expr (pe_bm PySem.F.plainAttrs_list PySem.F.slot_list_append PySem.F.type_list_append mt_append (pv 5) (pa_cons (pe_lst (pa_cons (pe_op op_sub (pe_callB call_len_seq (by rfl) T.len PySem.boot_len (pa_cons (pv 2) pa_nil)) pe_int) pa_nil)) pa_nil)))))))))))
      (pss_cons (ps_set (i := 12) scLw.nd rfl (.inl rfl) (pe_callTy call_tuple_of (by rfl) T.tuple (by decide +kernel) (pa_cons (pe_lst (pa_cons (pe_call GT hr1 (by rfl) gT kT bT .nil pass0 (pa_cons (pv 1) (pa_cons (pe_callB call_len_seq (by rfl) T.len PySem.boot_len (pa_cons (pv 2) pa_nil)) pa_nil))) (pa_cons (pe_op op_sub (pe_callB call_len_seq (by rfl) T.len PySem.boot_len (pa_cons (pv 2) pa_nil)) pe_int) pa_nil))) pa_nil)))
      (pss_cons (ps_set (i := 13) scLw.nd rfl (.inr rfl) (pe_lst pa_nil))
      (pss_cons (ps_set (i := 14) scLw.nd rfl (.inr rfl) (pe_lst pa_nil))
      (pss_cons (ps_for PassesOwn.never rfl (pi_list (pv 2)) (pg_tup rfl (pgs_cons (pg_name (i := 7) scLw.nd rfl (.inr rfl)) (pgs_cons (pg_name (i := 8) scLw.nd rfl (.inl rfl)) (pgs_cons (pg_name (i := 9) scLw.nd rfl (.inl rfl)) pgs_nil)))) (pss_cons (ps_set (i := 15) scLw.nd rfl (.inr rfl) (pe_tup (pa_cons (pv 7) (pa_cons (pe_callTy call_tuple_of (by rfl) T.tuple (by decide +kernel) (pa_cons (pe_lc (own := [("k", 4)]) (g := (gName 4)) (tt := tYes) (te := (tOp (rIxL K) (tVar 13) (tVar 4))) rfl scLw.nd (pi_tup (pv 8)) (blkOk_by (N := nLw) (sc := defScope slaw) (by decide +kernel)) (fun _ _ _ _ _ => (pg_name (i := 4) scLw.nd rfl (.inl rfl))) (fun _ _ _ _ _ => pts_nil) (fun _ _ _ _ _ => (pe_ix ix_list (pv 13) (pv 4) (fun _ _ => rfl)))) pa_nil)) (pa_cons (pv 9) pa_nil)))))
      (pss_cons (ps_setLc (i := 16) (own := [("k", 4)]) (g := (gName 4)) (tt := (tAnd (tTest (tOp (rEqD K) (tOp (rIxL K) (tVar 14) (tVar 4)) (tVar 15))) (tTest (tOp rNe (tVar 7) (tC (.str "input")))))) (te := (tVar 4)) (by rfl) scLw.nd rfl rfl (sw_true rfl rfl rfl (by decide +kernel)) (pi_range1 rfl T.range (pa_cons (pe_callB call_len_seq (by rfl) T.len PySem.boot_len (pa_cons (pv 14) pa_nil)) pa_nil)) (blkOk_by (N := nLw) (sc := defScope slaw) (by decide +kernel)) (fun _ _ _ _ _ => (pg_name (i := 4) scLw.nd rfl (.inl rfl))) (fun _ _ _ _ _ => pts_one (PW.pt (pw_and (pt_cmpR (op_eqD hr8.units) (pe_ix ix_list (pv 14) (pv 4) (fun _ _ => rfl)) (pv 15) (nomark _)) (pw_and1 (pt_cmpR op_ne (pv 7) pe_str (nomark _)))))) (fun _ _ _ _ _ => (pv 4)))
      (pss_cons (ps_expr (pe_bm PySem.F.plainAttrs_list PySem.F.slot_list_append PySem.F.type_list_append mt_append (pv 13) (pa_cons (pe_ifExp (pt_cmpR op_gt (pe_callB call_len_seq (by rfl) T.len PySem.boot_len (pa_cons (pv 16) pa_nil)) pe_int (nomark _)) (pe_ix ix_list (pv 16) pe_int (fun _ _ => rfl)) (pe_callB call_len_seq (by rfl) T.len PySem.boot_len (pa_cons (pv 14) pa_nil))) pa_nil)))
      (pss_one (ps_if (pt_cmpR op_eq (pe_callB call_len_seq (by rfl) T.len PySem.boot_len (pa_cons (pv 16) pa_nil)) pe_int (nomark _)) (pss_one (ps_expr (pe_bm PySem.F.plainAttrs_list PySem.F.slot_list_append PySem.F.type_list_append mt_append (pv 14) (pa_cons (pv 15) pa_nil)))) pss_nil))))))
      (pss_cons (ps_set (i := 14) scLw.nd rfl (.inr rfl) (pe_tup (pa_cons (pe_callTy call_tuple_of (by rfl) T.tuple (by decide +kernel) (pa_cons (pv 14) pa_nil)) (pa_cons (pe_callTy call_tuple_of (by rfl) T.tuple (by decide +kernel) (pa_cons (pe_lc (own := [("k", 4)]) (g := (gName 4)) (tt := tYes) (te := (tOp (rIxL K) (tVar 13) (tVar 4))) rfl scLw.nd (pi_tup (pv 12)) (blkOk_by (N := nLw) (sc := defScope slaw) (by decide +kernel)) (fun _ _ _ _ _ => (pg_name (i := 4) scLw.nd rfl (.inl rfl))) (fun _ _ _ _ _ => pts_nil) (fun _ _ _ _ _ => (pe_ix ix_list (pv 13) (pv 4) (fun _ _ => rfl)))) pa_nil)) pa_nil))))
      (pss_one (ps_ret (pe_and (pe_cmpR (op_eqD hr8.units) (pe_call GSh hr8 (by rfl) gSh kSh bSh .nil passNw (pa_cons (pe_tup (pa_cons (pe_callTy call_tuple_of (by rfl) T.tuple (by decide +kernel) (pa_cons (pv 2) pa_nil)) (pa_cons (pv 12) pa_nil))) pa_nil)) (pv 14) (nomark _)) (pe_one (pe_cmpR (op_eqD hr8.units) (pe_call GSh hr8 (by rfl) gSh kSh bSh .nil passNw (pa_cons (pv 14) pa_nil)) (pv 14) (nomark _))))))))))))))), ?_⟩
    have two_line : 2 ≤ sizeLine := by decide
    have one_line : 1 ≤ sizeLine := by decide
    have three_line : 3 ≤ sizeLine := by decide
    refine ⟨_, rfl, a, ns, rfl, hS, hlen, fun H1 d c s1 nd nc dr1 => ?_⟩
    refine ⟨_, rfl, _, rfl, d, c, rfl, dr1, fun H2 pk zs k2 dr2 hpk hpkd hz0 hzl hzm => ?_⟩
    refine ⟨d, c, pk, 5, 9, 24, 120, zs, rfl, by decide, by decide, by decide, by decide, dr2, hpk, hpkd, hz0, hzl, hzm, by decide, by decide, fun H3 p pn pd vs us nds ds k3 dr3 hp gr hpnd hpdd hcap hdl hpn0 => ?_⟩
    have hpnc : pn ≠ c := fun e => by
      obtain ⟨xs, hx⟩ := dr2.lstc
      rw [← e] at hx
      exact hpn0 _ hx
    clear k2 k3 hpk dr1
    refine ⟨p, _, rfl, hp, rfl, _, _, rfl, _, _, rfl, rfl, ?_⟩
    have hvl : vs.length = ds.length := by rw [gr.m.1, gr.w.l]
    have hnl : nds.length = ds.length := gr.w.l
    have hl0 := gr.d.p
    have hcapN : CapN nds ds := fun i nd dm h1 h2 hc => by
      cases i with
      | zero =>
        obtain ⟨g1, _⟩ := gr.w.g 0 nd dm h1 h2
        rcases g1 with g | ⟨g1, g2, g3, g4⟩
        · exfalso
          cases nd <;> first | exact g.elim | exact hc.elim
        · exfalso
          have har : 0 < arN nd := by
            cases nd with
            | input _ _ _ => exact hc.elim
            | const _ _ => exact hc.elim
            | dot _ _ => exact Nat.succ_pos _
            | bc k _ => cases k <;> exact Nat.succ_pos _
            | mv k _ => cases k <;> exact Nat.succ_pos _
          obtain ⟨x, hx⟩ : ∃ x, x ∈ nd.args := by
            cases e : nd.args with
            | nil => rw [e] at g3; exact absurd g3 (by show ¬ 0 = arN nd; omega)
            | cons x xs => exact ⟨x, List.mem_cons_self⟩
          exact absurd (g4 x hx) (Nat.not_lt_zero _)
      | succ i => exact hcap (i + 1) dm (Nat.succ_pos _) h2
    -- the copies
    have hgn := gr.n
    refine ⟨_, rfl, pn, vs, rfl, .inl (SqL.of gr.n), vs.length, rfl, by omega, by omega, fun C nC => lc_range (lo := 0) (n := ((vs.length : Nat) : Int).toNat) (fun i H' => ∃ cs : List Addr, Same H3 H' ∧ StL K H' d c pn C vs nds cs ((List.range i).map fun k => [k])) ?_ ?_ ?_⟩
    · have sC := same_upd (o := .lst []) nC
      obtain ⟨c1, c2⟩ := new_ne dr3 nC
      exact ⟨[], sC, dr3.same sC, sC _ _ gr.n, gr.m.keep (Same.nl sC), upd_same, rfl, fun k a l h => by simp at h, List.nodup_nil, fun a h => absurd h List.not_mem_nil, hpnd, hpnc, c1, c2, (ne_of_none gr.n nC).symm⟩
    · rintro i H4 hi ⟨cs, s4, st⟩
      refine ⟨rfl, ?_⟩
      unfold tYes
      dsimp only
      rw [if_pos rfl]
      refine ⟨_, rfl, one_line, fun y ny => ⟨_, same_upd ny _ _ st.hC, ?_, cs ++ [y], ?_, ?_⟩⟩
      · rw [List.length_map, st.l, List.length_map, List.length_range]
        exact small1000 (by omega)
      · intro b o hb
        rw [upd_ne (ne_of_none hb nC)]
        exact same_upd ny _ _ (s4 _ _ hb)
      · have := st.own (k := i) ny
        rw [List.range_succ, List.map_append]
        rw [show ((0 : Int) + (i : Int)) = (i : Int) from Int.zero_add _]
        exact this
    rintro H4 ⟨cs, s4, st⟩
    rw [Int.toNat_natCast] at st
    have hrp : Rp nds ds ((List.range vs.length).map fun k => [k]) 1 := by
      refine ⟨by rw [List.length_map, List.length_range, hvl, hnl], fun k l hk => ?_⟩
      rw [List.getElem?_map] at hk
      obtain ⟨k', hk', rfl⟩ := Option.map_eq_some_iff.mp hk
      have hkl := (List.getElem?_eq_some_iff.mp hk').1
      rw [List.length_range] at hkl
      rw [List.getElem?_range hkl] at hk'
      cases hk'
      exact ⟨List.cons_ne_nil _ _, Nat.le_refl _, fun c hc => by rw [List.mem_singleton.mp hc]; exact ⟨by omega, rfl⟩⟩
    have hW := gr.w
    have hdl6 : ds.length ≤ 6 := by omega
    clear gr s4 nC hcap hdl hpn0 hp
    generalize (List.range vs.length).map (fun k => [k]) = Ls at st hrp
    -- repeated nodes
    refine ⟨_, rfl, d, c, 9, rfl, st.dr, by decide, bnd_le (by decide), fun H5 m k5 dr5 m0 m1 => ⟨m, rfl, by omega, by omega, for_range (lo := 0) (n := m.toNat) (fun i σ H' => ∃ (v4 v6 v7 v8 v9 v10 v11 : Option V) (vs : List V) (nds : List Nd) (ds : List Dom) (cs : List Addr) (Ls : List (List Nat)), σ = [some (.ref a), some (.ref d), some (.ref pn), some (.ref pd), v4, some (.ref C), v6, v7, v8, v9, v10, v11, none, none, none, none, none] ∧ StL K H' d c pn C vs nds cs Ls ∧ WfG nds ds ∧ CapN nds ds ∧ Rp nds ds Ls (1 + i) ∧ ds.length ≤ 6 + i ∧ 0 < ds.length)
      ⟨none, none, none, none, none, none, none, vs, nds, ds, cs, Ls, rfl, st.kb k5.kb dr5, hW, hcapN, hrp, hdl6, hl0⟩ ?_ ?_⟩⟩
    · clear st hrp hW hcapN hdl6 hl0 hnl hvl hgn k5 dr5 vs nds ds cs Ls dr3
      rintro i σ H6 hi ⟨v4, v6, v7, v8, v9, v10, v11, vs, nds, ds, cs, Ls, rfl, st, hW, hcN, hrp, hdl, hd0⟩
      have hvl : vs.length = ds.length := by rw [st.m.1, hW.l]
      have hnl : nds.length = ds.length := hW.l
      refine ⟨_, rfl, _, rfl, pn, vs, rfl, .inl (SqL.of st.n), d, c, _, rfl, st.dr, by omega, bnd_le (by omega), fun H7 nv k7 dr7 n0 n1 => ?_⟩
      replace st := st.kb k7.kb dr7
      clear k7 dr7
      obtain ⟨n, rfl⟩ : ∃ n : Nat, nv = (n : Int) := ⟨nv.toNat, by omega⟩
      obtain ⟨v, hv⟩ : ∃ v, vs[n]? = some v := ⟨_, List.getElem?_eq_getElem (by omega)⟩
      obtain ⟨nd, hnd⟩ : ∃ nd, nds[n]? = some nd := ⟨_, List.getElem?_eq_getElem (by omega)⟩
      obtain ⟨dm, hdm⟩ : ∃ dm, ds[n]? = some dm := ⟨_, List.getElem?_eq_getElem (by omega)⟩
      obtain ⟨x, hx⟩ : ∃ x, cs[n]? = some x := ⟨_, List.getElem?_eq_getElem (by rw [st.l, hrp.1]; omega)⟩
      obtain ⟨ln, hln⟩ : ∃ l, Ls[n]? = some l := ⟨_, List.getElem?_eq_getElem (by rw [hrp.1]; omega)⟩
      have hNd := st.m.2 n v nd hv hnd
      obtain ⟨q1, q2, q3, rfl, e1, e2, e3⟩ := id hNd
      have hal : nd.args.length ≤ 3 := by
        have := (hW.g n nd dm hnd hdm).1.ar
        rw [this]
        exact arN_le nd
      have hback : ∀ (t b : Nat), nd.args[t]? = some b → b < nds.length := fun t b hb => by
        have := wf_back hW n b (by unfold argsAt; rw [hnd]; exact List.mem_of_getElem? hb)
        omega
      refine ⟨_, rfl, _, rfl, pn, _, _, _, rfl, rfl, SqL.of st.n, atI_nat hv, q1, _, rfl, e1, rfl, _, _, rfl, _, _, rfl, _, _, rfl, rfl, ?_⟩
      refine ⟨Nat.zero_le _, fun M nM => ?_⟩
      obtain ⟨m1', m2'⟩ := new_ne st.dr nM
      have m3' : M ≠ pn := (ne_of_none st.n nM).symm
      have m4' : M ≠ C := (ne_of_none st.hC nM).symm
      have m5' : M ∉ cs := fun h => by
        obtain ⟨j, hj, e⟩ := List.mem_iff_getElem.mp h
        have h1 : cs[j]? = some M := by rw [List.getElem?_eq_getElem hj, e]
        obtain ⟨l, hl⟩ : ∃ l, Ls[j]? = some l := ⟨_, List.getElem?_eq_getElem (by rw [← st.l]; exact hj)⟩
        have := st.e j M l h1 hl
        rw [nM] at this
        cases this
      have sM := same_upd (o := .lst []) nM
      have hND7 := hNd.same sM
      refine ⟨_, rfl, q2, rfl, ⟨_, sqT_same e2 sM⟩, for_tup (K := K) (a := q2) (xs := (asInts nd.args).map V.int) (fun j σ H' => ∃ (v11 : Option V) (mv : List Nat), σ = [some (.ref a), some (.ref d), some (.ref pn), some (.ref pd), some (.int ((0 : Int) + i)), some (.ref C), some (.int n), some (.str nd.nm), some (.ref q2), some (.ref q3), some (.ref M), v11, none, none, none, none, none] ∧ StL K H' d c pn C vs nds cs Ls ∧ NdAt K H' (.ref q1) nd ∧ SqT K H' q2 ((asInts nd.args).map V.int) ∧ InfoAt K H' q3 nd ∧ H' M = some (.lst ((asInts mv).map V.int)) ∧ mv.length = j ∧ ∀ (t b c : Nat), nd.args[t]? = some b → mv[t]? = some c → ∃ l, Ls[b]? = some l ∧ c ∈ l)
        ⟨_, [], rfl, st.same sM, hND7, sqT_same e2 sM, e3.keep (Same.nl sM), upd_same, rfl, fun t b c _ h => by simp at h⟩ (fun j σ H' _ ⟨_, _, _, _, _, h, _⟩ => h) ?_ ?_⟩
      · clear st hNd e1 e2 e3 hND7 sM nM
        rintro j z σ H8 hz ⟨v11, mv, rfl, st, hNd, e2, e3, hM, hml, hmm⟩
        obtain ⟨b0, rfl, hb0⟩ := map_int_at hz
        unfold asInts at hb0
        rw [List.getElem?_map] at hb0
        obtain ⟨b, hb, rfl⟩ := Option.map_eq_some_iff.mp hb0
        have hbl := hback j b hb
        obtain ⟨xb, hxb⟩ : ∃ x, cs[b]? = some x := ⟨_, List.getElem?_eq_getElem (by rw [st.l, hrp.1]; omega)⟩
        obtain ⟨lb, hlb⟩ : ∃ l, Ls[b]? = some l := ⟨_, List.getElem?_eq_getElem (by rw [hrp.1]; omega)⟩
        obtain ⟨r1, r2, r3⟩ := hrp.2 b lb hlb
        have hlp : 0 < lb.length := List.length_pos_iff.mpr r1
        have hcx : atI (cs.map V.ref) (b : Int) = some (.ref xb) := atI_nat (by rw [List.getElem?_map, hxb]; rfl)
        have hjl := (List.getElem?_eq_some_iff.mp hb).1
        refine ⟨_, rfl, tyL25 hM, _, rfl, _, rfl, C, _, _, _, rfl, rfl, SqL.of st.hC, hcx, _, rfl, _, rfl, _, rfl, C, _, _, _, rfl, rfl, SqL.of st.hC, hcx, xb, _, rfl, .inl (SqL.of (st.e b xb lb hxb hlb)), d, c, _, rfl, st.dr, by rw [asInts_len]; omega, bnd_le (by rw [asInts_len]; omega), fun H9 u k9 dr9 u0 u1 => ?_⟩
        rw [asInts_len] at u1
        obtain ⟨un, rfl⟩ : ∃ un : Nat, u = (un : Int) := ⟨u.toNat, by omega⟩
        obtain ⟨cc, hcc⟩ : ∃ cc, lb[un]? = some cc := ⟨_, List.getElem?_eq_getElem (by omega)⟩
        have st9 := st.kb k9.kb dr9
        have hM9 := k9.kb _ _ m1' hM
        have nl9 : NL H8 H9 := k9.kb.nl st.dr
        refine ⟨xb, _, _, _, rfl, rfl, SqL.of (st9.e b xb lb hxb hlb), atI_asInts hcc, ?_⟩
        have nl10 : NL H9 (upd H9 M (.lst ((asInts mv).map V.int ++ [.int cc]))) := nl_upd hM9
        refine ⟨M, _, _, rfl, rfl, hM9, by rw [asInts_len, hml]; exact small1000 (by omega), ?_⟩
        refine ⟨_, mv ++ [cc], rfl, st9.other hM9 m1' m2' m3' m4' m5', (hNd.keep nl9).keep nl10, sqT_nl (sqT_nl e2 nl9) nl10, (e3.keep nl9).keep nl10, by rw [upd_same, asInts_snoc], by rw [List.length_append, hml]; rfl, fun t b' c' h1 h2 => ?_⟩
        by_cases ht : t < mv.length
        · rw [List.getElem?_append_left ht] at h2
          exact hmm t b' c' h1 h2
        · have hlt := (List.getElem?_eq_some_iff.mp h2).1
          rw [List.length_append] at hlt
          have et : t = mv.length := by
            have : ([cc] : List Nat).length = 1 := rfl
            omega
          subst et
          rw [List.getElem?_append_right (Nat.le_refl _), Nat.sub_self] at h2
          cases h2
          rw [hml, hb] at h1
          cases h1
          exact ⟨lb, hlb, List.mem_of_getElem? hcc⟩
      · clear st hNd e1 e2 e3 hND7 sM nM
        rintro σ H8 ⟨v11, mv, rfl, st, hNd, e2, e3, hM, hml, hmm⟩
        rw [asInts_len] at hml
        have hwaa := wa_args (nd := nd) hml
        refine ⟨_, rfl, tyL25 st.n, _, rfl, _, rfl, M, _, rfl, .inl ⟨SqL.of hM, fun t nt => ?_⟩⟩
        have sT := same_upd (o := .tup ((asInts mv).map V.int)) nt
        have hT := upd_same (H := H8) (a := t) (o := .tup ((asInts mv).map V.int))
        refine ⟨_, rfl, three_line, fun u nu => ?_⟩
        have sU := same_upd (o := .tup [.str nd.nm, .ref t, .ref q3]) nu
        have sTU := sT.trans sU
        have st9 := st.same sTU
        have hU : NdAt K (upd (upd H8 t (.tup ((asInts mv).map V.int))) u (.tup [.str nd.nm, .ref t, .ref q3])) (.ref u) (nd.wa mv) := ⟨u, t, q3, rfl, by rw [wa_nm]; exact SqT.of upd_same, by rw [hwaa]; exact SqT.of (sU _ _ hT), (wa_info mv nd).mpr (e3.keep (Same.nl sTU))⟩
        generalize (upd (upd H8 t (.tup ((asInts mv).map V.int))) u (.tup [.str nd.nm, .ref t, .ref q3])) = H9 at *
        refine ⟨pn, _, _, rfl, rfl, st9.n, small1000 (by omega), ?_⟩
        have st10 := st9.node hU
        have hdl1 : (vs ++ [V.ref u]).length = nds.length + 1 := by rw [List.length_append, hvl, ← hnl]; rfl
        have hlen1 : ((vs ++ [V.ref u]).length : Int) - 1 = ((nds.length : Nat) : Int) := by rw [hdl1]; omega
        have hcx : atI (cs.map V.ref) (n : Int) = some (.ref x) := atI_nat (by rw [List.getElem?_map, hx]; rfl)
        obtain ⟨r1, r2, r3⟩ := hrp.2 n ln hln
        refine ⟨_, rfl, _, rfl, C, _, _, _, rfl, rfl, SqL.of st10.hC, hcx, tyL25 (st10.e n x ln hx hln), _, rfl, pn, _, rfl, .inl (SqL.of st10.n), _, _, rfl, rfl, x, _, V.int (nds.length : Nat), rfl, (show [V.int (((vs ++ [V.ref u]).length : Int) - 1)] = _ from by rw [hlen1]), st10.e n x ln hx hln, by rw [asInts_len]; exact small1000 (by omega), ?_⟩
        have st11 := st10.copy (k := nds.length) hx hln
        generalize upd (upd H9 pn (.lst (vs ++ [.ref u]))) x (.lst ((asInts ln).map V.int ++ [.int (nds.length : Nat)])) = H11 at *
        refine ⟨_, rfl, tyL25 st11.hC, _, rfl, pn, _, rfl, .inl (SqL.of st11.n), _, _, rfl, rfl, one_line, fun y ny => ?_⟩
        dsimp only
        rw [hlen1]
        refine ⟨C, _, _, rfl, rfl, same_upd ny _ _ st11.hC, by rw [List.length_map, st.l, hrp.1]; exact small1000 (by omega), ?_⟩
        have st12 := st11.own (k := nds.length) ny
        exact ⟨_, _, _, _, _, _, _, vs ++ [.ref u], nds ++ [nd.wa mv], ds ++ [dm], cs ++ [y], _, rfl, st12, wf_rep hW hrp hnd hdm hml hmm, hcN.snoc hnl (fun hc => hcN n nd dm hnd hdm (compu_wa.mp hc)), by rw [← Nat.add_assoc]; exact hrp.step hnl hdm hln (by omega), by rw [List.length_append]; show ds.length + 1 ≤ 6 + (i + 1); omega, by rw [List.length_append]; omega⟩
    clear st hrp hW hcapN hdl6 hl0 hnl hvl hgn k5 dr5 vs nds ds cs Ls dr3
    rintro σ H6 ⟨v4, v6, v7, v8, v9, v10, v11, vs, nds, ds, cs, Ls, rfl, st, hW, hcN, hrp, hdl, hd0⟩
    have hvl : vs.length = ds.length := by rw [st.m.1, hW.l]
    have hnl : nds.length = ds.length := hW.l
    have hdl15 : ds.length ≤ 15 := by omega
    refine ⟨_, rfl, _, rfl, pn, vs, rfl, .inl (SqL.of st.n), d, c, _, rfl, st.dr, by omega, bnd_le (by omega), fun H7 o k7 dr7 o0 o1 => ?_⟩
    replace st := st.kb k7.kb dr7
    obtain ⟨on, rfl⟩ : ∃ on : Nat, o = (on : Int) := ⟨o.toNat, by omega⟩
    refine ⟨_, rfl, pn, vs, rfl, .inl (SqL.of st.n), _, _, rfl, rfl, two_line, fun L nL => ⟨L, _, rfl, .inl ⟨SqL.of upd_same, fun po npo => ?_⟩⟩⟩
    obtain ⟨os, hose, hos0, hosl, hos⟩ : ∃ os : List Nat, [V.int (on : Int), V.int ((vs.length : Int) - 1)] = (asInts os).map V.int ∧ os ≠ [] ∧ os.length ≤ 2 ∧ ∀ o ∈ os, o < nds.length := by
      refine ⟨[on, vs.length - 1], ?_, by simp, by simp, fun o ho => ?_⟩
      · show _ = [V.int (on : Int), V.int ((vs.length - 1 : Nat) : Int)]
        rw [show ((vs.length - 1 : Nat) : Int) = (vs.length : Int) - 1 by omega]
      · rcases List.mem_cons.mp ho with rfl | ho
        · omega
        · rw [List.mem_singleton.mp ho]
          omega
    have s8 := (same_upd (o := .lst [.int (on : Int), .int ((vs.length : Int) - 1)]) nL).trans (same_upd (o := .tup [.int (on : Int), .int ((vs.length : Int) - 1)]) npo)
    have hpo8 : (upd (upd H7 L (.lst [.int (on : Int), .int ((vs.length : Int) - 1)])) po (.tup [.int (on : Int), .int ((vs.length : Int) - 1)])) po = some (.tup ((asInts os).map V.int)) := by rw [upd_same, ← hose]
    have hpn8 := s8 _ _ st.n
    have hN8 := st.m.keep (Same.nl s8)
    dsimp only
    generalize (upd (upd H7 L (.lst [.int (on : Int), .int ((vs.length : Int) - 1)])) po (.tup [.int (on : Int), .int ((vs.length : Int) - 1)])) = H8 at *
    clear s8 npo nL st k7 dr7 hose
    have hb := wf_back hW
    refine ⟨Nat.zero_le _, fun Tl nT => ⟨Nat.zero_le _, fun D nD => ?_⟩⟩
    have sT := same_upd (o := .lst []) nT
    have sD := same_upd (o := .lst []) nD
    have hTn : ∀ b o, H8 b = some o → b ≠ Tl := fun b o e => ne_of_none e nT
    have hDn : ∀ b o, H8 b = some o → b ≠ D := fun b o e => ne_of_none (sT _ _ e) nD
    have hDT : D ≠ Tl := fun e => by rw [e, upd_same] at nD; cases nD
    have hT0 := sD _ _ (upd_same (H := H8) (a := Tl) (o := .lst []))
    have hD0 := upd_same (H := upd H8 Tl (.lst [])) (a := D) (o := .lst [])
    have s10 := sT.trans sD
    generalize upd (upd H8 Tl (.lst [])) D (.lst []) = H10 at *
    clear sT sD nT nD
    refine ⟨_, rfl, pn, rfl, ⟨_, SqL.of (s10 _ _ hpn8)⟩, for_list (K := K) (a := pn) (xs := vs) (fun i σ H' => ∃ (v4 v7 v8 v9 v15 v16 : Option V) (rs : List V), σ = [some (.ref a), some (.ref d), some (.ref pn), some (.ref pd), v4, some (.ref C), v6, v7, v8, v9, v10, v11, some (.ref po), some (.ref Tl), some (.ref D), v15, v16] ∧ Same H8 H' ∧ H' Tl = some (.lst ((asInts (shS nds i).2).map V.int)) ∧ H' D = some (.lst rs) ∧ Nds K H' rs (shS nds i).1)
      ⟨_, _, _, _, none, none, [], rfl, s10, hT0, hD0, ⟨rfl, fun i v d h => by simp at h⟩⟩ (fun i σ H' _ ⟨_, _, _, _, _, _, _, _, sm, _⟩ => SqL.of (sm _ _ hpn8)) ?_ ?_⟩
    · clear hT0 hD0 s10 H10
      rintro i x σ H5 hx ⟨v4, v7, v8, v9, v15, v16, rs, rfl, sm, hT, hD, hNr⟩
      have hi : i < vs.length := (List.getElem?_eq_some_iff.mp hx).1
      obtain ⟨nd, hnd⟩ : ∃ nd, nds[i]? = some nd := ⟨_, List.getElem?_eq_getElem (by omega)⟩
      have hNd := (hN8.2 i x nd hx hnd).same sm
      obtain ⟨q1, q2, q3, rfl, e1, e2, e3⟩ := id hNd
      have hndA : ndAt nds i = nd := by unfold ndAt; rw [hnd]; rfl
      have hargs : argsAt nds i = nd.args := by unfold argsAt; rw [hnd]; rfl
      obtain ⟨l1, l2⟩ := sh_len nds i
      obtain ⟨dr, hwr, hdist, hcpr, hto⟩ := sh_ok hW hcN i (by omega)
      obtain ⟨dmi, hdmi⟩ : ∃ dmi, ds[i]? = some dmi := ⟨_, List.getElem?_eq_getElem (by omega)⟩
      have hgn := (hW.g i nd dmi hnd hdmi).1
      have hal : nd.args.length ≤ 3 := by
        rw [hgn.ar]
        exact arN_le nd
      have hstep : shS nds (i + 1) = match place (shS nds i).1 (nd.re (toF (shS nds i).2)) with
        | some k => ((shS nds i).1, (shS nds i).2 ++ [k])
        | none => ((shS nds i).1 ++ [nd.re (toF (shS nds i).2)], (shS nds i).2 ++ [(shS nds i).1.length]) := by
        rw [← hndA]
        rfl
      rw [hstep]
      clear hstep
      generalize (shS nds i).1 = rem at *
      generalize (shS nds i).2 = to at *
      have hrl : rs.length = rem.length := hNr.1
      refine ⟨q1, _, rfl, e1, rfl, _, _, rfl, _, _, rfl, _, _, rfl, rfl, ?_⟩
      refine ⟨_, rfl, _, rfl, q2, rfl, ⟨_, e2⟩, fun M nM => lc_tup (K := K) (a := q2) (xs := (asInts nd.args).map V.int) (fun j H' => Same H5 H' ∧ H' M = some (.lst ((asInts ((nd.args.take j).map (toF to))).map V.int))) ⟨same_upd nM, upd_same⟩ (fun i H' _ h => sqT_same e2 h.1) ?_ ?_⟩
      · rintro j z H' hz ⟨sm', hM⟩
        obtain ⟨b0, rfl, hb0⟩ := map_int_at hz
        unfold asInts at hb0
        rw [List.getElem?_map] at hb0
        obtain ⟨b, hbb, rfl⟩ := Option.map_eq_some_iff.mp hb0
        have hbi : b < i := hb i b (by rw [hargs]; exact List.mem_of_getElem? hbb)
        have hj : j < nd.args.length := (List.getElem?_eq_some_iff.mp hbb).1
        obtain ⟨t, t1, _, _⟩ := hto b hbi
        have htF : toF to b = t := by unfold toF; rw [List.getD_eq_getElem?_getD, t1]; rfl
        refine ⟨rfl, ?_⟩
        unfold tYes
        dsimp only
        rw [if_pos rfl]
        refine ⟨_, rfl, _, rfl, Tl, _, _, _, rfl, rfl, SqL.of (sm' _ _ hT), atI_asInts t1, _, hM, by rw [asInts_len, List.length_map, List.length_take]; exact small1000 (by omega), fun b o e => by rw [upd_ne (ne_of_none e nM)]; exact sm' _ _ e, ?_⟩
        rw [upd_same, take_snoc hbb, List.map_append]
        rw [show List.map (toF to) [b] = [t] by rw [List.map_cons, htF]; rfl, asInts_snoc]
      rintro H6 ⟨s6, hM⟩
      rw [asInts_len, List.take_length] at hM
      refine ⟨M, _, rfl, .inl ⟨SqL.of hM, fun l nl => ?_⟩⟩
      have s7 := same_upd (o := .tup ((asInts (nd.args.map (toF to))).map V.int)) nl
      have hl7 := upd_same (H := H6) (a := l) (o := .tup ((asInts (nd.args.map (toF to))).map V.int))
      refine ⟨_, rfl, three_line, fun u nu => ?_⟩
      have s8 := same_upd (o := .tup [.str nd.nm, .ref l, .ref q3]) nu
      have s58 := (s6.trans s7).trans s8
      have hU : NdAt K (upd (upd H6 l (.tup ((asInts (nd.args.map (toF to))).map V.int))) u (.tup [.str nd.nm, .ref l, .ref q3])) (.ref u) (nd.re (toF to)) := ⟨u, l, q3, rfl, by rw [re_nm]; exact SqT.of upd_same, by rw [re_args]; exact SqT.of (s8 _ _ hl7), (re_info _ nd).mpr (e3.keep (Same.nl s58))⟩
      have sm8 := sm.trans s58
      have hT8 := s58 _ _ hT
      have hD8 := s58 _ _ hD
      have hN9 := hNr.keep (Same.nl s58)
      generalize upd (upd H6 l (.tup ((asInts (nd.args.map (toF to))).map V.int))) u (.tup [.str nd.nm, .ref l, .ref q3]) = H9 at *
      clear s58 s8 nu s7 nl s6 hM nM hl7 hT hD hNr sm hNd e1 e2 e3
      have hmg : GoodD (nd.re (toF to)) := (re_good (m' := rem.length) hgn fun b hbm => by
        have hbi : b < i := hb i b (by rw [hargs]; exact hbm)
        obtain ⟨t, t1, t2, _⟩ := hto b hbi
        have htF : toF to b = t := by unfold toF; rw [List.getD_eq_getElem?_getD, t1]; rfl
        rw [htF]
        exact t2).d
      have hkn : nd.nm = (nd.re (toF to)).nm := (re_nm _ nd).symm
      generalize nd.re (toF to) = m at *
      have hshm := nd_shaped hmg
      -- the equal ones
      refine ⟨_, rfl, D, rs, rfl, .inl (SqL.of hD8), rs.length, rfl, by omega, by omega, fun S nS => lc_range (lo := 0) (n := ((rs.length : Nat) : Int).toNat) (fun j H' => Same H9 H' ∧ H' S = some (.lst ((asInts (samesL rem m j)).map V.int))) ⟨same_upd nS, upd_same⟩ ?_ ?_⟩
      · rintro j H' hj ⟨sm', hS'⟩
        have hjr : j < rem.length := by omega
        obtain ⟨r, hr⟩ : ∃ r, rem[j]? = some r := ⟨_, List.getElem?_eq_getElem hjr⟩
        obtain ⟨rv, hrv⟩ : ∃ rv, rs[j]? = some rv := ⟨_, List.getElem?_eq_getElem (by omega)⟩
        have hrN := (hN9.2 j rv r hrv hr).same sm'
        obtain ⟨drj, hdrj⟩ : ∃ drj, dr[j]? = some drj := ⟨_, List.getElem?_eq_getElem (by rw [← hwr.l]; exact hjr)⟩
        have hrg := (hwr.g j r drj hr hdrj).1.d
        have hss := samesL_succ rem m j
        have hsl : (samesL rem m j).length ≤ j := by
          unfold samesL
          exact Nat.le_trans (List.length_filter_le _ _) (by rw [List.length_range]; exact Nat.le_refl _)
        have heq : PyData.eqv (datNd r) (datNd m) = decide (rem[j]? = some m) := by
          rw [eqv_nd, hr, decide_eq_decide, kN_iff]
          exact ⟨fun e => by rw [e], fun e => Option.some.inj e⟩
        rw [Int.zero_add]
        refine ⟨rfl, tAnd_of (b1 := decide (rem[j]? = some m)) (b2 := !isIn m) (fun Q' h => ?_) (fun _ Q' h => ?_) ?_⟩
        · refine ⟨_, rfl, _, rfl, D, _, _, _, rfl, rfl, SqL.of (sm' _ _ hD8), atI_nat hrv, _, rfl, datNd r, datNd m, dp_nd hrN, dp_nd (hU.same sm'), nd_shaped hrg, hshm, _, rfl, ?_⟩
          rw [heq]
          exact h
        · refine ⟨_, rfl, rfl, _, rfl, ?_⟩
          rw [hkn, isIn_nm]
          exact h
        · by_cases hc : (decide (rem[j]? = some m) && !isIn m) = true
          · rw [if_pos hc]
            rw [if_pos hc] at hss
            exact ⟨_, rfl, _, hS', by rw [asInts_len]; exact small1000 (by omega), fun b o e => by rw [upd_ne (ne_of_none e nS)]; exact sm' _ _ e, by rw [upd_same, hss, asInts_snoc]⟩
          · rw [if_neg hc]
            rw [if_neg hc, List.append_nil] at hss
            exact ⟨sm', by rw [hss]; exact hS'⟩
      rintro H11 ⟨s11, hS11⟩
      rw [Int.toNat_natCast, hrl] at hS11
      have hhead := sames_head rem m
      have hT11 := s11 _ _ hT8
      have hD11 := s11 _ _ hD8
      have hN11 := hN9.keep (Same.nl s11)
      have hU11 := hU.same s11
      have sm11 := sm8.trans s11
      have hST : Tl ≠ S := ne_of_none hT8 nS
      have hSD : D ≠ S := ne_of_none hD8 nS
      generalize samesL rem m rem.length = ss at *
      clear hT8 hD8 hN9 hU s11 nS sm8
      cases ss with
      | cons s0 sr =>
        have hp : place rem m = some s0 := hhead.symm
        rw [hp]
        refine ⟨_, rfl, tyL25 hT11, _, rfl, S, _, rfl, .inl (SqL.of hS11), _, _, rfl, rfl, _, rfl, ?_⟩
        rw [decide_eq_true (show (0 : Int) < ((((asInts (s0 :: sr)).map V.int).length : Nat) : Int) by rw [asInts_len, List.length_cons]; omega)]
        refine iteT ⟨_, rfl, S, _, _, _, rfl, rfl, SqL.of hS11, atI_zero, Tl, _, _, rfl, rfl, hT11, by rw [asInts_len, l1]; exact small1000 (by omega), ?_⟩
        have nl := nl_upd (o := .lst ((asInts to).map V.int ++ [.int (s0 : Nat)])) hT11
        have hS12 : (upd H11 Tl (.lst ((asInts to).map V.int ++ [.int (s0 : Nat)]))) S = some (.lst ((asInts (s0 :: sr)).map V.int)) := by
          rw [upd_ne hST.symm]
          exact hS11
        refine ⟨_, rfl, S, _, rfl, .inl (SqL.of hS12), rfl, _, rfl, ite2 (fun e => ?_) (fun e => ?_)⟩
        · exfalso
          have := V.int.inj (of_decide_eq_true e)
          rw [asInts_len, List.length_cons] at this
          omega
        · exact ⟨_, _, _, _, _, _, rs, rfl, fun b o e => by rw [upd_ne (hTn b o e)]; exact sm11 _ _ e, by rw [upd_same, asInts_snoc], by rw [upd_ne hDT]; exact hD11, hN11.keep nl⟩
      | nil =>
        have hp : place rem m = none := hhead.symm
        rw [hp]
        refine ⟨_, rfl, tyL25 hT11, _, rfl, S, _, rfl, .inl (SqL.of hS11), _, _, rfl, rfl, _, rfl, ?_⟩
        rw [decide_eq_false (show ¬ (0 : Int) < ((((asInts []).map V.int).length : Nat) : Int) by rw [asInts_len, List.length_nil]; omega)]
        refine iteF ⟨_, rfl, D, rs, rfl, .inl (SqL.of hD11), Tl, _, _, rfl, rfl, hT11, by rw [asInts_len, l1]; exact small1000 (by omega), ?_⟩
        rw [hrl]
        have nl := nl_upd (o := .lst ((asInts to).map V.int ++ [.int (rem.length : Nat)])) hT11
        have hS12 : (upd H11 Tl (.lst ((asInts to).map V.int ++ [.int (rem.length : Nat)]))) S = some (.lst ((asInts []).map V.int)) := by
          rw [upd_ne hST.symm]
          exact hS11
        have hD12 : (upd H11 Tl (.lst ((asInts to).map V.int ++ [.int (rem.length : Nat)]))) D = some (.lst rs) := by
          rw [upd_ne hDT]
          exact hD11
        refine ⟨_, rfl, S, _, rfl, .inl (SqL.of hS12), rfl, _, rfl, ite2 (fun e => ?_) (fun e => ?_)⟩
        · have nl2 := nl_upd (o := .lst (rs ++ [.ref u])) hD12
          refine ⟨_, rfl, tyL25 hD12, _, rfl, D, _, _, rfl, rfl, hD12, small1000 (by omega), ?_⟩
          refine ⟨_, _, _, _, _, _, rs ++ [.ref u], rfl, fun b o e => by rw [upd_ne (hDn b o e), upd_ne (hTn b o e)]; exact sm11 _ _ e, by rw [upd_ne hDT.symm, upd_same, asInts_snoc], upd_same, ((hN11.keep nl).keep nl2).snoc ((hU11.keep nl).keep nl2)⟩
        · exfalso
          apply e
          rw [asInts_len]
          exact decide_eq_true rfl
    · rintro σ H9 ⟨v4, v7, v8, v9, v15, v16, rs, rfl, sm, hT, hD, hNr⟩
      rw [hvl, ← hnl] at hT hNr
      obtain ⟨l1, l2⟩ := sh_len nds nds.length
      obtain ⟨dr, hwr, hdist, hcpr, hto⟩ := sh_ok hW hcN nds.length (Nat.le_refl _)
      have hidem := sh_idem hwr hdist _ (Nat.le_refl _)
      have htb : ∀ o ∈ os, toF (shS nds nds.length).2 o < (shS nds nds.length).1.length ∧ (shS nds nds.length).2[o]? = some (toF (shS nds nds.length).2 o) := fun o ho => by
        obtain ⟨t, t1, t2, _⟩ := hto o (hos o ho)
        have htF : toF (shS nds nds.length).2 o = t := by unfold toF; rw [List.getD_eq_getElem?_getD, t1]; rfl
        rw [htF]
        exact ⟨t2, t1⟩
      have hgd : ∀ nd ∈ (shS nds nds.length).1, GoodD nd := fun nd hnd => by
        obtain ⟨i, hi, e⟩ := List.mem_iff_getElem.mp hnd
        exact (hwr.g i nd (dr[i]'(by rw [← hwr.l]; exact hi)) (by rw [List.getElem?_eq_getElem hi, e]) (List.getElem?_eq_getElem _)).1.d
      refine ⟨_, rfl, D, _, rfl, .inl ⟨SqL.of hD, fun l nl => ?_⟩⟩
      have s10 := same_upd (o := .tup rs) nl
      have hl10 := upd_same (H := H9) (a := l) (o := .tup rs)
      have hT10 := s10 _ _ hT
      have sm10 := sm.trans s10
      have hN10 := hNr.keep (Same.nl s10)
      generalize upd H9 l (.tup rs) = H10 at *
      refine ⟨_, rfl, po, rfl, ⟨_, SqT.of (sm10 _ _ hpo8)⟩, fun M nM => lc_tup (K := K) (a := po) (xs := (asInts os).map V.int) (fun j H' => Same H10 H' ∧ H' M = some (.lst ((asInts ((os.take j).map (toF (shS nds nds.length).2))).map V.int))) ⟨same_upd nM, upd_same⟩ (fun i H' _ h => SqT.of (h.1 _ _ (sm10 _ _ hpo8))) ?_ ?_⟩
      · rintro j z H' hz ⟨sm', hM⟩
        obtain ⟨b0, rfl, hb0⟩ := map_int_at hz
        unfold asInts at hb0
        rw [List.getElem?_map] at hb0
        obtain ⟨b, hbb, rfl⟩ := Option.map_eq_some_iff.mp hb0
        have hj : j < os.length := (List.getElem?_eq_some_iff.mp hbb).1
        have t1 := (htb b (List.mem_of_getElem? hbb)).2
        refine ⟨rfl, ?_⟩
        unfold tYes
        dsimp only
        rw [if_pos rfl]
        refine ⟨_, rfl, _, rfl, Tl, _, _, _, rfl, rfl, SqL.of (sm' _ _ hT10), atI_asInts t1, _, hM, by rw [asInts_len, List.length_map, List.length_take]; exact small1000 (by omega), fun b o e => by rw [upd_ne (ne_of_none e nM)]; exact sm' _ _ e, ?_⟩
        rw [upd_same, take_snoc hbb, List.map_append]
        rw [show List.map (toF (shS nds nds.length).2) [b] = [toF (shS nds nds.length).2 b] from rfl, asInts_snoc]
      rintro H11 ⟨s11, hM⟩
      rw [asInts_len, List.take_length] at hM
      refine ⟨M, _, rfl, .inl ⟨SqL.of hM, fun l2 nl2 => ⟨two_line, fun pdu npdu => ?_⟩⟩⟩
      have s12 := same_upd (o := .tup ((asInts (os.map (toF (shS nds nds.length).2))).map V.int)) nl2
      have s13 := same_upd (o := .tup [.ref l, .ref l2]) npdu
      have hl2 : SqT K (upd (upd H11 l2 (.tup ((asInts (os.map (toF (shS nds nds.length).2))).map V.int))) pdu (.tup [.ref l, .ref l2])) l2 ((asInts (os.map (toF (shS nds nds.length).2))).map V.int) := sqT_same (SqT.of upd_same) s13
      have hdu : SqT K (upd (upd H11 l2 (.tup ((asInts (os.map (toF (shS nds nds.length).2))).map V.int))) pdu (.tup [.ref l, .ref l2])) pdu [.ref l, .ref l2] := SqT.of upd_same
      have s1013 := (s11.trans s12).trans s13
      have hl13 : SqT K (upd (upd H11 l2 (.tup ((asInts (os.map (toF (shS nds nds.length).2))).map V.int))) pdu (.tup [.ref l, .ref l2])) l rs := SqT.of (s1013 _ _ hl10)
      have hN13 := hN10.keep (Same.nl s1013)
      have sm13 := sm10.trans s1013
      generalize (upd (upd H11 l2 (.tup ((asInts (os.map (toF (shS nds nds.length).2))).map V.int))) pdu (.tup [.ref l, .ref l2])) = H13 at *
      clear hT hD hNr hT10 hN10 hl10 s10 s11 s12 s13 s1013 hM nM nl2 npdu nl sm10 sm
      have hsh := gr_shaped (os.map (toF (shS nds nds.length).2)) hgd
      have tw1 := totW_le24 hW hcN
      have tw2 := totW_le24 hwr hcpr
      refine ⟨_, rfl, pn, _, rfl, .inl ⟨SqL.of (sm13 _ _ hpn8), fun l3 nl3 => ?_⟩⟩
      have s14 := same_upd (o := .tup vs) nl3
      refine ⟨_, rfl, two_line, fun pg npg => ?_⟩
      have s15 := same_upd (o := .tup [.ref l3, .ref po]) npg
      have sm15 := (sm13.trans s14).trans s15
      refine ⟨pg, l3, po, vs, nds, ds, os, rfl, SqT.of upd_same, sqT_same (SqT.of upd_same) s15, hN8.keep (Same.nl sm15), hW, by omega, by omega, SqT.of (sm15 _ _ hpo8), hos0, by omega, hos, fun H17 pr qr rr wr s17 hpr hqr hNr' hrr => ?_⟩
      have s1317 := (s14.trans s15).trans s17
      have hdu17 := sqT_same hdu s1317
      have hl17 := sqT_same hl13 s1317
      have hN17 := hN13.keep (Same.nl s1317)
      have hl217 := sqT_same hl2 s1317
      refine ⟨_, rfl, _, _, dp_gr hpr hqr hNr' hrr, dp_gr hdu17 hl17 hN17 hl217, hsh, hsh, ?_⟩
      rw [eqv_self hsh]
      refine ⟨_, rfl, iteT ?_⟩
      refine ⟨_, rfl, pdu, l, l2, rs, (shS nds nds.length).1, dr, os.map (toF (shS nds nds.length).2), rfl, hdu17, hl17, hN17, hwr, by omega, by omega, hl217, by simpa using hos0, by rw [List.length_map]; omega, fun o ho => (by
        obtain ⟨b, hb', rfl⟩ := List.mem_map.mp ho
        exact (htb b hb').1), fun H18 pr2 qr2 rr2 wr2 s18 hpr2 hqr2 hNr2 hrr2 => ?_⟩
      rw [hidem, List.take_length] at hNr2
      have out2 : (os.map (toF (shS nds nds.length).2)).map (toF (shS (shS nds nds.length).1 (shS nds nds.length).1.length).2) = os.map (toF (shS nds nds.length).2) := by
        rw [hidem, List.map_map]
        refine List.map_congr_left fun o ho => ?_
        have hx := (htb o ho).1
        show toF (List.range _) (toF (shS nds nds.length).2 o) = toF (shS nds nds.length).2 o
        generalize toF (shS nds nds.length).2 o = x at hx ⊢
        unfold toF
        rw [List.getD_eq_getElem?_getD, List.getElem?_range hx]
        rfl
      rw [out2] at hrr2
      refine ⟨_, rfl, _, _, dp_gr hpr2 hqr2 hNr2 hrr2, dp_gr (sqT_same hdu17 s18) (sqT_same hl17 s18) (hN17.keep (Same.nl s18)) (sqT_same hl217 s18), hsh, hsh, ?_⟩
      rw [eqv_self hsh]
      exact q _
end

def RowsAll : List Row := [("shape", none), ("low", none), ("high", none), ("data", none), ("axis", none), ("letters", none), ("new", none), ("second", none), ("n", some (1, 30)), ("size", some (1, 16)), ("count", some (1, 16)), ("width", some (1, 16)), ("stride", some (1, 16)), ("start", some (0, 16)), ("before", some (0, 16)), ("after", some (0, 16))]
theorem rows_all : ∀ r ∈ KT, ∀ p ∈ r.2.2, p ∈ RowsAll ∧ p.1.length ≤ 100 := by decide +kernel
def CC7 (z1 z2 z3 z4 z5 z6 z7 : Addr) : Nat → Addr
  | 1 => z1
  | 2 => z2
  | 3 => z3
  | 4 => z4
  | 5 => z5
  | 6 => z6
  | 7 => z7
  | _ => z1
/-! ### what the top has written, the head -/
theorem all_mk {l : PySem.W.OpenLaw} {w : World} {K : PySem.W.Frag} {h : Heap} {mg : Str → Option Value} {fa f1 f2 f3 f4 f5 f6 f7 f8 f9 f10 f11 f12 f13 f14 f15 f16 f17 f18 f19 f20 f21 f22 f23 f24 f25 f26 f27 f28 f29 f30 f31 f32 f33 f34 f35 f36 f37 f38 f39 f40 f41 f42 f43 f44 f45 f46 f47 f48 f49 f50 f51 f52 f53 f54 f55 f56 f57 f58 f59 f60 f61 f62 f63 f64 f65 f66 f67 f68 f69 f70 f71 f72 f73 f74 f75 f76 f77 z1 z2 z3 z4 z5 z6 z7 cM cS cI cA cF cR u1 u2 u3 u4 u5 u6 u7 u8 u9 u10 u11 u12 u13 u14 u15 u16 u17 u18 u19 u20 u21 u22 u23 u24 u25 v9 v10 v11 v12 v13 v14 v15 v16 : Addr} (X : K.In h) (G : h.Ns mainGlobals mg) (hfa : mg "law" = some (.ref fa))
    {od1 an1 od2 an2 od3 an3 od4 an4 od5 an5 od6 an6 od7 an7 od8 an8 od9 an9 od10 an10 od11 an11 od12 an12 od13 an13 od14 an14 od15 an15 od16 an16 od17 an17 od18 an18 od19 an19 od20 an20 od21 an21 od22 an22 od23 an23 od24 an24 od25 an25 od26 an26 od27 an27 od28 an28 od29 an29 od30 an30 od31 an31 od32 an32 od33 an33 od34 an34 od35 an35 od36 an36 od37 an37 od38 an38 od39 an39 od40 an40 od41 an41 od42 an42 od43 an43 od44 an44 od45 an45 od46 an46 od47 an47 od48 an48 od49 an49 od50 an50 od51 an51 od52 an52 od53 an53 od54 an54 od55 an55 od56 an56 od57 an57 od58 an58 od59 an59 od60 an60 od61 an61 od62 an62 od63 an63 od64 an64 od65 an65 od66 an66 od67 an67 od68 an68 od69 an69 od70 an70 od71 an71 od72 an72 od73 an73 od74 an74 od75 an75 od76 an76 od77 an77 : Option Addr} {sl1 sl2 sl3 sl4 sl5 sl6 sl7 sl8 sl9 sl10 sl11 sl12 sl13 sl14 sl15 sl16 sl17 sl18 sl19 sl20 sl21 sl22 sl23 sl24 sl25 sl26 sl27 sl28 sl29 sl30 sl31 sl32 sl33 sl34 sl35 sl36 sl37 sl38 sl39 sl40 sl41 sl42 sl43 sl44 sl45 sl46 sl47 sl48 sl49 sl50 sl51 sl52 sl53 sl54 sl55 sl56 sl57 sl58 sl59 sl60 sl61 sl62 sl63 sl64 sl65 sl66 sl67 sl68 sl69 sl70 sl71 sl72 sl73 sl74 sl75 sl76 sl77 : Array (Option Value)} {oc1 kV1 dc1 pm1 cd1 ct1 oc2 kV2 dc2 pm2 cd2 ct2 oc3 kV3 dc3 pm3 cd3 ct3 oc4 kV4 dc4 pm4 cd4 ct4 oc5 kV5 dc5 pm5 cd5 ct5 oc6 kV6 dc6 pm6 cd6 ct6 oc7 kV7 dc7 pm7 cd7 ct7 oc8 kV8 dc8 pm8 cd8 ct8 oc9 kV9 dc9 pm9 cd9 ct9 oc10 kV10 dc10 pm10 cd10 ct10 oc11 kV11 dc11 pm11 cd11 ct11 oc12 kV12 dc12 pm12 cd12 ct12 oc13 kV13 dc13 pm13 cd13 ct13 oc14 kV14 dc14 pm14 cd14 ct14 oc15 kV15 dc15 pm15 cd15 ct15 oc16 kV16 dc16 pm16 cd16 ct16 oc17 kV17 dc17 pm17 cd17 ct17 oc18 kV18 dc18 pm18 cd18 ct18 oc19 kV19 dc19 pm19 cd19 ct19 oc20 kV20 dc20 pm20 cd20 ct20 oc21 kV21 dc21 pm21 cd21 ct21 oc22 kV22 dc22 pm22 cd22 ct22 oc23 kV23 dc23 pm23 cd23 ct23 oc24 kV24 dc24 pm24 cd24 ct24 oc25 kV25 dc25 pm25 cd25 ct25 oc26 kV26 dc26 pm26 cd26 ct26 oc27 kV27 dc27 pm27 cd27 ct27 oc28 kV28 dc28 pm28 cd28 ct28 oc29 kV29 dc29 pm29 cd29 ct29 oc30 kV30 dc30 pm30 cd30 ct30 oc31 kV31 dc31 pm31 cd31 ct31 oc32 kV32 dc32 pm32 cd32 ct32 oc33 kV33 dc33 pm33 cd33 ct33 oc34 kV34 dc34 pm34 cd34 ct34 oc35 kV35 dc35 pm35 cd35 ct35 oc36 kV36 dc36 pm36 cd36 ct36 oc37 kV37 dc37 pm37 cd37 ct37 oc38 kV38 dc38 pm38 cd38 ct38 oc39 kV39 dc39 pm39 cd39 ct39 oc40 kV40 dc40 pm40 cd40 ct40 oc41 kV41 dc41 pm41 cd41 ct41 oc42 kV42 dc42 pm42 cd42 ct42 oc43 kV43 dc43 pm43 cd43 ct43 oc44 kV44 dc44 pm44 cd44 ct44 oc45 kV45 dc45 pm45 cd45 ct45 oc46 kV46 dc46 pm46 cd46 ct46 oc47 kV47 dc47 pm47 cd47 ct47 oc48 kV48 dc48 pm48 cd48 ct48 oc49 kV49 dc49 pm49 cd49 ct49 oc50 kV50 dc50 pm50 cd50 ct50 oc51 kV51 dc51 pm51 cd51 ct51 oc52 kV52 dc52 pm52 cd52 ct52 oc53 kV53 dc53 pm53 cd53 ct53 oc54 kV54 dc54 pm54 cd54 ct54 oc55 kV55 dc55 pm55 cd55 ct55 oc56 kV56 dc56 pm56 cd56 ct56 oc57 kV57 dc57 pm57 cd57 ct57 oc58 kV58 dc58 pm58 cd58 ct58 oc59 kV59 dc59 pm59 cd59 ct59 oc60 kV60 dc60 pm60 cd60 ct60 oc61 kV61 dc61 pm61 cd61 ct61 oc62 kV62 dc62 pm62 cd62 ct62 oc63 kV63 dc63 pm63 cd63 ct63 oc64 kV64 dc64 pm64 cd64 ct64 oc65 kV65 dc65 pm65 cd65 ct65 oc66 kV66 dc66 pm66 cd66 ct66 oc67 kV67 dc67 pm67 cd67 ct67 oc68 kV68 dc68 pm68 cd68 ct68 oc69 kV69 dc69 pm69 cd69 ct69 oc70 kV70 dc70 pm70 cd70 ct70 oc71 kV71 dc71 pm71 cd71 ct71 oc72 kV72 dc72 pm72 cd72 ct72 oc73 kV73 dc73 pm73 cd73 ct73 oc74 kV74 dc74 pm74 cd74 ct74 oc75 kV75 dc75 pm75 cd75 ct75 oc76 kV76 dc76 pm76 cd76 ct76 oc77 kV77 dc77 pm77 cd77 ct77 : Value}
    {escM : Array DictEntry} {ncM : Nat} {escS : Array DictEntry} {ncS : Nat} {escI : Array DictEntry} {ncI : Nat} {escA : Array DictEntry} {ncA : Nat} {escF : Array DictEntry} {ncF : Nat} {escR : Array DictEntry} {ncR : Nat} {tkW tkR tkS tkC tkN tkK : Tok} {odu1 : Option Addr} {itu1 : Array Value} {nbu1 : Nat} {slu1 : Array (Option Value)} {tku1 : Tok} {odu2 : Option Addr} {itu2 : Array Value} {nbu2 : Nat} {slu2 : Array (Option Value)} {tku2 : Tok} {odu3 : Option Addr} {itu3 : Array Value} {nbu3 : Nat} {slu3 : Array (Option Value)} {tku3 : Tok} {odu4 : Option Addr} {itu4 : Array Value} {nbu4 : Nat} {slu4 : Array (Option Value)} {tku4 : Tok} {odu5 : Option Addr} {itu5 : Array Value} {nbu5 : Nat} {slu5 : Array (Option Value)} {tku5 : Tok} {odu6 : Option Addr} {itu6 : Array Value} {nbu6 : Nat} {slu6 : Array (Option Value)} {tku6 : Tok} {odu7 : Option Addr} {itu7 : Array Value} {nbu7 : Nat} {slu7 : Array (Option Value)} {tku7 : Tok} {odu8 : Option Addr} {itu8 : Array Value} {nbu8 : Nat} {slu8 : Array (Option Value)} {tku8 : Tok} {odu9 : Option Addr} {itu9 : Array Value} {nbu9 : Nat} {slu9 : Array (Option Value)} {tku9 : Tok} {odu10 : Option Addr} {itu10 : Array Value} {nbu10 : Nat} {slu10 : Array (Option Value)} {tku10 : Tok} {odu11 : Option Addr} {itu11 : Array Value} {nbu11 : Nat} {slu11 : Array (Option Value)} {tku11 : Tok} {odu12 : Option Addr} {itu12 : Array Value} {nbu12 : Nat} {slu12 : Array (Option Value)} {tku12 : Tok} {odu13 : Option Addr} {itu13 : Array Value} {nbu13 : Nat} {slu13 : Array (Option Value)} {tku13 : Tok} {odu14 : Option Addr} {itu14 : Array Value} {nbu14 : Nat} {slu14 : Array (Option Value)} {tku14 : Tok} {odu15 : Option Addr} {itu15 : Array Value} {nbu15 : Nat} {slu15 : Array (Option Value)} {tku15 : Tok} {odu16 : Option Addr} {itu16 : Array Value} {nbu16 : Nat} {slu16 : Array (Option Value)} {tku16 : Tok} {odu17 : Option Addr} {itu17 : Array Value} {nbu17 : Nat} {slu17 : Array (Option Value)} {tku17 : Tok} {odu18 : Option Addr} {itu18 : Array Value} {nbu18 : Nat} {slu18 : Array (Option Value)} {tku18 : Tok} {odu19 : Option Addr} {itu19 : Array Value} {nbu19 : Nat} {slu19 : Array (Option Value)} {tku19 : Tok} {odu20 : Option Addr} {itu20 : Array Value} {nbu20 : Nat} {slu20 : Array (Option Value)} {tku20 : Tok} {odu21 : Option Addr} {itu21 : Array Value} {nbu21 : Nat} {slu21 : Array (Option Value)} {tku21 : Tok} {odu22 : Option Addr} {itu22 : Array Value} {nbu22 : Nat} {slu22 : Array (Option Value)} {tku22 : Tok} {odu23 : Option Addr} {itu23 : Array Value} {nbu23 : Nat} {slu23 : Array (Option Value)} {tku23 : Tok} {odu24 : Option Addr} {itu24 : Array Value} {nbu24 : Nat} {slu24 : Array (Option Value)} {tku24 : Tok} {odu25 : Option Addr} {itu25 : Array Value} {nbu25 : Nat} {slu25 : Array (Option Value)} {tku25 : Tok} {odv9 : Option Addr} {itv9 : Array Value} {nbv9 : Nat} {slv9 : Array (Option Value)} {odv10 : Option Addr} {itv10 : Array Value} {nbv10 : Nat} {slv10 : Array (Option Value)} {odv11 : Option Addr} {itv11 : Array Value} {nbv11 : Nat} {slv11 : Array (Option Value)} {odv12 : Option Addr} {itv12 : Array Value} {nbv12 : Nat} {slv12 : Array (Option Value)} {odv13 : Option Addr} {itv13 : Array Value} {nbv13 : Nat} {slv13 : Array (Option Value)} {odv14 : Option Addr} {itv14 : Array Value} {nbv14 : Nat} {slv14 : Array (Option Value)} {odv15 : Option Addr} {itv15 : Array Value} {nbv15 : Nat} {slv15 : Array (Option Value)} {odv16 : Option Addr} {itv16 : Array Value} {nbv16 : Nat} {slv16 : Array (Option Value)}
    (a1 : PySem.W.nsIn K mainGlobals "limit" = some (some (.ref f1))) (l1 : K.lookup f1 = some ⟨oc1, od1, .func (PySem.W.fnOf "limit" "limit" (defArgs sLimit) (defBody sLimit) (defScope sLimit) .none kV1 dc1 pm1 an1 cd1 ct1), sl1⟩) (c1 : PySem.W.codeIn K cd1 "limit" = true) (k1 : PySem.W.keepIn K (.ref f1) = true)
    (a2 : PySem.W.nsIn K mainGlobals "_add" = some (some (.ref f2))) (l2 : K.lookup f2 = some ⟨oc2, od2, .func (PySem.W.fnOf "_add" "_add" (defArgs sAdd) (defBody sAdd) (defScope sAdd) .none kV2 dc2 pm2 an2 cd2 ct2), sl2⟩) (c2 : PySem.W.codeIn K cd2 "_add" = true) (k2 : PySem.W.keepIn K (.ref f2) = true)
    (a3 : PySem.W.nsIn K mainGlobals "_max" = some (some (.ref f3))) (l3 : K.lookup f3 = some ⟨oc3, od3, .func (PySem.W.fnOf "_max" "_max" (defArgs sMax) (defBody sMax) (defScope sMax) .none kV3 dc3 pm3 an3 cd3 ct3), sl3⟩) (c3 : PySem.W.codeIn K cd3 "_max" = true) (k3 : PySem.W.keepIn K (.ref f3) = true)
    (a4 : PySem.W.nsIn K mainGlobals "_min" = some (some (.ref f4))) (l4 : K.lookup f4 = some ⟨oc4, od4, .func (PySem.W.fnOf "_min" "_min" (defArgs sMin) (defBody sMin) (defScope sMin) .none kV4 dc4 pm4 an4 cd4 ct4), sl4⟩) (c4 : PySem.W.codeIn K cd4 "_min" = true) (k4 : PySem.W.keepIn K (.ref f4) = true)
    (a5 : PySem.W.nsIn K mainGlobals "_clamp" = some (some (.ref f5))) (l5 : K.lookup f5 = some ⟨oc5, od5, .func (PySem.W.fnOf "_clamp" "_clamp" (defArgs sClamp) (defBody sClamp) (defScope sClamp) .none kV5 dc5 pm5 an5 cd5 ct5), sl5⟩) (c5 : PySem.W.codeIn K cd5 "_clamp" = true) (k5 : PySem.W.keepIn K (.ref f5) = true)
    (a6 : PySem.W.nsIn K mainGlobals "_shift" = some (some (.ref f6))) (l6 : K.lookup f6 = some ⟨oc6, od6, .func (PySem.W.fnOf "_shift" "_shift" (defArgs sShift) (defBody sShift) (defScope sShift) .none kV6 dc6 pm6 an6 cd6 ct6), sl6⟩) (c6 : PySem.W.codeIn K cd6 "_shift" = true) (k6 : PySem.W.keepIn K (.ref f6) = true)
    (a7 : PySem.W.nsIn K mainGlobals "pointwise" = some (some (.ref f7))) (l7 : K.lookup f7 = some ⟨oc7, od7, .func (PySem.W.fnOf "pointwise" "pointwise" (defArgs sPw) (defBody sPw) (defScope sPw) .none kV7 dc7 pm7 an7 cd7 ct7), sl7⟩) (c7 : PySem.W.codeIn K cd7 "pointwise" = true) (k7 : PySem.W.keepIn K (.ref f7) = true)
    (a8 : PySem.W.nsIn K mainGlobals "check_shape" = some (some (.ref f8))) (l8 : K.lookup f8 = some ⟨oc8, od8, .func (PySem.W.fnOf "check_shape" "check_shape" (defArgs sCheck) (defBody sCheck) (defScope sCheck) .none kV8 dc8 pm8 an8 cd8 ct8), sl8⟩) (c8 : PySem.W.codeIn K cd8 "check_shape" = true) (k8 : PySem.W.keepIn K (.ref f8) = true)
    (a9 : PySem.W.nsIn K mainGlobals "count_of" = some (some (.ref f9))) (l9 : K.lookup f9 = some ⟨oc9, od9, .func (PySem.W.fnOf "count_of" "count_of" (defArgs sCountOf) (defBody sCountOf) (defScope sCountOf) .none kV9 dc9 pm9 an9 cd9 ct9), sl9⟩) (c9 : PySem.W.codeIn K cd9 "count_of" = true) (k9 : PySem.W.keepIn K (.ref f9) = true)
    (a10 : PySem.W.nsIn K mainGlobals "letters_of" = some (some (.ref f10))) (l10 : K.lookup f10 = some ⟨oc10, od10, .func (PySem.W.fnOf "letters_of" "letters_of" (defArgs sLettersOf) (defBody sLettersOf) (defScope sLettersOf) .none kV10 dc10 pm10 an10 cd10 ct10), sl10⟩) (c10 : PySem.W.codeIn K cd10 "letters_of" = true) (k10 : PySem.W.keepIn K (.ref f10) = true)
    (a11 : PySem.W.nsIn K mainGlobals "merged" = some (some (.ref f11))) (l11 : K.lookup f11 = some ⟨oc11, od11, .func (PySem.W.fnOf "merged" "merged" (defArgs sMerged) (defBody sMerged) (defScope sMerged) .none kV11 dc11 pm11 an11 cd11 ct11), sl11⟩) (c11 : PySem.W.codeIn K cd11 "merged" = true) (k11 : PySem.W.keepIn K (.ref f11) = true)
    (a12 : PySem.W.nsIn K mainGlobals "broadcast" = some (some (.ref f12))) (l12 : K.lookup f12 = some ⟨oc12, od12, .func (PySem.W.fnOf "broadcast" "broadcast" (defArgs sBroad) (defBody sBroad) (defScope sBroad) .none kV12 dc12 pm12 an12 cd12 ct12), sl12⟩) (c12 : PySem.W.codeIn K cd12 "broadcast" = true) (k12 : PySem.W.keepIn K (.ref f12) = true)
    (a13 : PySem.W.nsIn K mainGlobals "replaced" = some (some (.ref f13))) (l13 : K.lookup f13 = some ⟨oc13, od13, .func (PySem.W.fnOf "replaced" "replaced" (defArgs sreplaced) (defBody sreplaced) (defScope sreplaced) .none kV13 dc13 pm13 an13 cd13 ct13), sl13⟩) (c13 : PySem.W.codeIn K cd13 "replaced" = true) (k13 : PySem.W.keepIn K (.ref f13) = true)
    (a14 : PySem.W.nsIn K mainGlobals "corners" = some (some (.ref f14))) (l14 : K.lookup f14 = some ⟨oc14, od14, .func (PySem.W.fnOf "corners" "corners" (defArgs scorners) (defBody scorners) (defScope scorners) .none kV14 dc14 pm14 an14 cd14 ct14), sl14⟩) (c14 : PySem.W.codeIn K cd14 "corners" = true) (k14 : PySem.W.keepIn K (.ref f14) = true)
    (a15 : PySem.W.nsIn K mainGlobals "interval_of" = some (some (.ref f15))) (l15 : K.lookup f15 = some ⟨oc15, od15, .func (PySem.W.fnOf "interval_of" "interval_of" (defArgs sinterval_of) (defBody sinterval_of) (defScope sinterval_of) .none kV15 dc15 pm15 an15 cd15 ct15), sl15⟩) (c15 : PySem.W.codeIn K cd15 "interval_of" = true) (k15 : PySem.W.keepIn K (.ref f15) = true)
    (a16 : PySem.W.nsIn K mainGlobals "_ends" = some (some (.ref f16))) (l16 : K.lookup f16 = some ⟨oc16, od16, .func (PySem.W.fnOf "_ends" "_ends" (defArgs s_ends) (defBody s_ends) (defScope s_ends) .none kV16 dc16 pm16 an16 cd16 ct16), sl16⟩) (c16 : PySem.W.codeIn K cd16 "_ends" = true) (k16 : PySem.W.keepIn K (.ref f16) = true)
    (a17 : PySem.W.nsIn K mainGlobals "_size" = some (some (.ref f17))) (l17 : K.lookup f17 = some ⟨oc17, od17, .func (PySem.W.fnOf "_size" "_size" (defArgs s_size) (defBody s_size) (defScope s_size) .none kV17 dc17 pm17 an17 cd17 ct17), sl17⟩) (c17 : PySem.W.codeIn K cd17 "_size" = true) (k17 : PySem.W.keepIn K (.ref f17) = true)
    (a18 : PySem.W.nsIn K mainGlobals "_input_interval" = some (some (.ref f18))) (l18 : K.lookup f18 = some ⟨oc18, od18, .func (PySem.W.fnOf "_input_interval" "_input_interval" (defArgs s_input_interval) (defBody s_input_interval) (defScope s_input_interval) .none kV18 dc18 pm18 an18 cd18 ct18), sl18⟩) (c18 : PySem.W.codeIn K cd18 "_input_interval" = true) (k18 : PySem.W.keepIn K (.ref f18) = true)
    (a19 : PySem.W.nsIn K mainGlobals "_const_interval" = some (some (.ref f19))) (l19 : K.lookup f19 = some ⟨oc19, od19, .func (PySem.W.fnOf "_const_interval" "_const_interval" (defArgs s_const_interval) (defBody s_const_interval) (defScope s_const_interval) .none kV19 dc19 pm19 an19 cd19 ct19), sl19⟩) (c19 : PySem.W.codeIn K cd19 "_const_interval" = true) (k19 : PySem.W.keepIn K (.ref f19) = true)
    (a20 : PySem.W.nsIn K mainGlobals "_rising_interval" = some (some (.ref f20))) (l20 : K.lookup f20 = some ⟨oc20, od20, .func (PySem.W.fnOf "_rising_interval" "_rising_interval" (defArgs s_rising_interval) (defBody s_rising_interval) (defScope s_rising_interval) .none kV20 dc20 pm20 an20 cd20 ct20), sl20⟩) (c20 : PySem.W.codeIn K cd20 "_rising_interval" = true) (k20 : PySem.W.keepIn K (.ref f20) = true)
    (a21 : PySem.W.nsIn K mainGlobals "_sub_interval" = some (some (.ref f21))) (l21 : K.lookup f21 = some ⟨oc21, od21, .func (PySem.W.fnOf "_sub_interval" "_sub_interval" (defArgs s_sub_interval) (defBody s_sub_interval) (defScope s_sub_interval) .none kV21 dc21 pm21 an21 cd21 ct21), sl21⟩) (c21 : PySem.W.codeIn K cd21 "_sub_interval" = true) (k21 : PySem.W.keepIn K (.ref f21) = true)
    (a22 : PySem.W.nsIn K mainGlobals "_mul_interval" = some (some (.ref f22))) (l22 : K.lookup f22 = some ⟨oc22, od22, .func (PySem.W.fnOf "_mul_interval" "_mul_interval" (defArgs s_mul_interval) (defBody s_mul_interval) (defScope s_mul_interval) .none kV22 dc22 pm22 an22 cd22 ct22), sl22⟩) (c22 : PySem.W.codeIn K cd22 "_mul_interval" = true) (k22 : PySem.W.keepIn K (.ref f22) = true)
    (a23 : PySem.W.nsIn K mainGlobals "_truth_interval" = some (some (.ref f23))) (l23 : K.lookup f23 = some ⟨oc23, od23, .func (PySem.W.fnOf "_truth_interval" "_truth_interval" (defArgs s_truth_interval) (defBody s_truth_interval) (defScope s_truth_interval) .none kV23 dc23 pm23 an23 cd23 ct23), sl23⟩) (c23 : PySem.W.codeIn K cd23 "_truth_interval" = true) (k23 : PySem.W.keepIn K (.ref f23) = true)
    (a24 : PySem.W.nsIn K mainGlobals "_neg_interval" = some (some (.ref f24))) (l24 : K.lookup f24 = some ⟨oc24, od24, .func (PySem.W.fnOf "_neg_interval" "_neg_interval" (defArgs s_neg_interval) (defBody s_neg_interval) (defScope s_neg_interval) .none kV24 dc24 pm24 an24 cd24 ct24), sl24⟩) (c24 : PySem.W.codeIn K cd24 "_neg_interval" = true) (k24 : PySem.W.keepIn K (.ref f24) = true)
    (a25 : PySem.W.nsIn K mainGlobals "_where_interval" = some (some (.ref f25))) (l25 : K.lookup f25 = some ⟨oc25, od25, .func (PySem.W.fnOf "_where_interval" "_where_interval" (defArgs s_where_interval) (defBody s_where_interval) (defScope s_where_interval) .none kV25 dc25 pm25 an25 cd25 ct25), sl25⟩) (c25 : PySem.W.codeIn K cd25 "_where_interval" = true) (k25 : PySem.W.keepIn K (.ref f25) = true)
    (a26 : PySem.W.nsIn K mainGlobals "_sum_interval" = some (some (.ref f26))) (l26 : K.lookup f26 = some ⟨oc26, od26, .func (PySem.W.fnOf "_sum_interval" "_sum_interval" (defArgs s_sum_interval) (defBody s_sum_interval) (defScope s_sum_interval) .none kV26 dc26 pm26 an26 cd26 ct26), sl26⟩) (c26 : PySem.W.codeIn K cd26 "_sum_interval" = true) (k26 : PySem.W.keepIn K (.ref f26) = true)
    (a27 : PySem.W.nsIn K mainGlobals "_dot_interval" = some (some (.ref f27))) (l27 : K.lookup f27 = some ⟨oc27, od27, .func (PySem.W.fnOf "_dot_interval" "_dot_interval" (defArgs s_dot_interval) (defBody s_dot_interval) (defScope s_dot_interval) .none kV27 dc27 pm27 an27 cd27 ct27), sl27⟩) (c27 : PySem.W.codeIn K cd27 "_dot_interval" = true) (k27 : PySem.W.keepIn K (.ref f27) = true)
    (a28 : PySem.W.nsIn K mainGlobals "_same_interval" = some (some (.ref f28))) (l28 : K.lookup f28 = some ⟨oc28, od28, .func (PySem.W.fnOf "_same_interval" "_same_interval" (defArgs s_same_interval) (defBody s_same_interval) (defScope s_same_interval) .none kV28 dc28 pm28 an28 cd28 ct28), sl28⟩) (c28 : PySem.W.codeIn K cd28 "_same_interval" = true) (k28 : PySem.W.keepIn K (.ref f28) = true)
    (a29 : PySem.W.nsIn K mainGlobals "_pad_interval" = some (some (.ref f29))) (l29 : K.lookup f29 = some ⟨oc29, od29, .func (PySem.W.fnOf "_pad_interval" "_pad_interval" (defArgs s_pad_interval) (defBody s_pad_interval) (defScope s_pad_interval) .none kV29 dc29 pm29 an29 cd29 ct29), sl29⟩) (c29 : PySem.W.codeIn K cd29 "_pad_interval" = true) (k29 : PySem.W.keepIn K (.ref f29) = true)
    (a30 : PySem.W.nsIn K mainGlobals "_join_interval" = some (some (.ref f30))) (l30 : K.lookup f30 = some ⟨oc30, od30, .func (PySem.W.fnOf "_join_interval" "_join_interval" (defArgs s_join_interval) (defBody s_join_interval) (defScope s_join_interval) .none kV30 dc30 pm30 an30 cd30 ct30), sl30⟩) (c30 : PySem.W.codeIn K cd30 "_join_interval" = true) (k30 : PySem.W.keepIn K (.ref f30) = true)
    (a31 : PySem.W.nsIn K mainGlobals "_fold_interval" = some (some (.ref f31))) (l31 : K.lookup f31 = some ⟨oc31, od31, .func (PySem.W.fnOf "_fold_interval" "_fold_interval" (defArgs s_fold_interval) (defBody s_fold_interval) (defScope s_fold_interval) .none kV31 dc31 pm31 an31 cd31 ct31), sl31⟩) (c31 : PySem.W.codeIn K cd31 "_fold_interval" = true) (k31 : PySem.W.keepIn K (.ref f31) = true)
    (a32 : PySem.W.nsIn K mainGlobals "shape_of_result" = some (some (.ref f32))) (l32 : K.lookup f32 = some ⟨oc32, od32, .func (PySem.W.fnOf "shape_of_result" "shape_of_result" (defArgs sshape_of_result) (defBody sshape_of_result) (defScope sshape_of_result) .none kV32 dc32 pm32 an32 cd32 ct32), sl32⟩) (c32 : PySem.W.codeIn K cd32 "shape_of_result" = true) (k32 : PySem.W.keepIn K (.ref f32) = true)
    (a33 : PySem.W.nsIn K mainGlobals "size_along" = some (some (.ref f33))) (l33 : K.lookup f33 = some ⟨oc33, od33, .func (PySem.W.fnOf "size_along" "size_along" (defArgs ssize_along) (defBody ssize_along) (defScope ssize_along) .none kV33 dc33 pm33 an33 cd33 ct33), sl33⟩) (c33 : PySem.W.codeIn K cd33 "size_along" = true) (k33 : PySem.W.keepIn K (.ref f33) = true)
    (a34 : PySem.W.nsIn K mainGlobals "_check_free" = some (some (.ref f34))) (l34 : K.lookup f34 = some ⟨oc34, od34, .func (PySem.W.fnOf "_check_free" "_check_free" (defArgs s_check_free) (defBody s_check_free) (defScope s_check_free) .none kV34 dc34 pm34 an34 cd34 ct34), sl34⟩) (c34 : PySem.W.codeIn K cd34 "_check_free" = true) (k34 : PySem.W.keepIn K (.ref f34) = true)
    (a35 : PySem.W.nsIn K mainGlobals "_broadcast_shape" = some (some (.ref f35))) (l35 : K.lookup f35 = some ⟨oc35, od35, .func (PySem.W.fnOf "_broadcast_shape" "_broadcast_shape" (defArgs s_broadcast_shape) (defBody s_broadcast_shape) (defScope s_broadcast_shape) .none kV35 dc35 pm35 an35 cd35 ct35), sl35⟩) (c35 : PySem.W.codeIn K cd35 "_broadcast_shape" = true) (k35 : PySem.W.keepIn K (.ref f35) = true)
    (a36 : PySem.W.nsIn K mainGlobals "_own_shape" = some (some (.ref f36))) (l36 : K.lookup f36 = some ⟨oc36, od36, .func (PySem.W.fnOf "_own_shape" "_own_shape" (defArgs s_own_shape) (defBody s_own_shape) (defScope s_own_shape) .none kV36 dc36 pm36 an36 cd36 ct36), sl36⟩) (c36 : PySem.W.codeIn K cd36 "_own_shape" = true) (k36 : PySem.W.keepIn K (.ref f36) = true)
    (a37 : PySem.W.nsIn K mainGlobals "_reduced_shape" = some (some (.ref f37))) (l37 : K.lookup f37 = some ⟨oc37, od37, .func (PySem.W.fnOf "_reduced_shape" "_reduced_shape" (defArgs s_reduced_shape) (defBody s_reduced_shape) (defScope s_reduced_shape) .none kV37 dc37 pm37 an37 cd37 ct37), sl37⟩) (c37 : PySem.W.codeIn K cd37 "_reduced_shape" = true) (k37 : PySem.W.keepIn K (.ref f37) = true)
    (a38 : PySem.W.nsIn K mainGlobals "_dot_shape" = some (some (.ref f38))) (l38 : K.lookup f38 = some ⟨oc38, od38, .func (PySem.W.fnOf "_dot_shape" "_dot_shape" (defArgs s_dot_shape) (defBody s_dot_shape) (defScope s_dot_shape) .none kV38 dc38 pm38 an38 cd38 ct38), sl38⟩) (c38 : PySem.W.codeIn K cd38 "_dot_shape" = true) (k38 : PySem.W.keepIn K (.ref f38) = true)
    (a39 : PySem.W.nsIn K mainGlobals "_order_shape" = some (some (.ref f39))) (l39 : K.lookup f39 = some ⟨oc39, od39, .func (PySem.W.fnOf "_order_shape" "_order_shape" (defArgs s_order_shape) (defBody s_order_shape) (defScope s_order_shape) .none kV39 dc39 pm39 an39 cd39 ct39), sl39⟩) (c39 : PySem.W.codeIn K cd39 "_order_shape" = true) (k39 : PySem.W.keepIn K (.ref f39) = true)
    (a40 : PySem.W.nsIn K mainGlobals "_rename_shape" = some (some (.ref f40))) (l40 : K.lookup f40 = some ⟨oc40, od40, .func (PySem.W.fnOf "_rename_shape" "_rename_shape" (defArgs s_rename_shape) (defBody s_rename_shape) (defScope s_rename_shape) .none kV40 dc40 pm40 an40 cd40 ct40), sl40⟩) (c40 : PySem.W.codeIn K cd40 "_rename_shape" = true) (k40 : PySem.W.keepIn K (.ref f40) = true)
    (a41 : PySem.W.nsIn K mainGlobals "_spread_shape" = some (some (.ref f41))) (l41 : K.lookup f41 = some ⟨oc41, od41, .func (PySem.W.fnOf "_spread_shape" "_spread_shape" (defArgs s_spread_shape) (defBody s_spread_shape) (defScope s_spread_shape) .none kV41 dc41 pm41 an41 cd41 ct41), sl41⟩) (c41 : PySem.W.codeIn K cd41 "_spread_shape" = true) (k41 : PySem.W.keepIn K (.ref f41) = true)
    (a42 : PySem.W.nsIn K mainGlobals "_cut_shape" = some (some (.ref f42))) (l42 : K.lookup f42 = some ⟨oc42, od42, .func (PySem.W.fnOf "_cut_shape" "_cut_shape" (defArgs s_cut_shape) (defBody s_cut_shape) (defScope s_cut_shape) .none kV42 dc42 pm42 an42 cd42 ct42), sl42⟩) (c42 : PySem.W.codeIn K cd42 "_cut_shape" = true) (k42 : PySem.W.keepIn K (.ref f42) = true)
    (a43 : PySem.W.nsIn K mainGlobals "_pad_shape" = some (some (.ref f43))) (l43 : K.lookup f43 = some ⟨oc43, od43, .func (PySem.W.fnOf "_pad_shape" "_pad_shape" (defArgs s_pad_shape) (defBody s_pad_shape) (defScope s_pad_shape) .none kV43 dc43 pm43 an43 cd43 ct43), sl43⟩) (c43 : PySem.W.codeIn K cd43 "_pad_shape" = true) (k43 : PySem.W.keepIn K (.ref f43) = true)
    (a44 : PySem.W.nsIn K mainGlobals "_join_shape" = some (some (.ref f44))) (l44 : K.lookup f44 = some ⟨oc44, od44, .func (PySem.W.fnOf "_join_shape" "_join_shape" (defArgs s_join_shape) (defBody s_join_shape) (defScope s_join_shape) .none kV44 dc44 pm44 an44 cd44 ct44), sl44⟩) (c44 : PySem.W.codeIn K cd44 "_join_shape" = true) (k44 : PySem.W.keepIn K (.ref f44) = true)
    (a45 : PySem.W.nsIn K mainGlobals "_window_shape" = some (some (.ref f45))) (l45 : K.lookup f45 = some ⟨oc45, od45, .func (PySem.W.fnOf "_window_shape" "_window_shape" (defArgs s_window_shape) (defBody s_window_shape) (defScope s_window_shape) .none kV45 dc45 pm45 an45 cd45 ct45), sl45⟩) (c45 : PySem.W.codeIn K cd45 "_window_shape" = true) (k45 : PySem.W.keepIn K (.ref f45) = true)
    (a46 : PySem.W.nsIn K mainGlobals "_fold_shape" = some (some (.ref f46))) (l46 : K.lookup f46 = some ⟨oc46, od46, .func (PySem.W.fnOf "_fold_shape" "_fold_shape" (defArgs s_fold_shape) (defBody s_fold_shape) (defScope s_fold_shape) .none kV46 dc46 pm46 an46 cd46 ct46), sl46⟩) (c46 : PySem.W.codeIn K cd46 "_fold_shape" = true) (k46 : PySem.W.keepIn K (.ref f46) = true)
    (a47 : PySem.W.nsIn K mainGlobals "_gather_shape" = some (some (.ref f47))) (l47 : K.lookup f47 = some ⟨oc47, od47, .func (PySem.W.fnOf "_gather_shape" "_gather_shape" (defArgs s_gather_shape) (defBody s_gather_shape) (defScope s_gather_shape) .none kV47 dc47 pm47 an47 cd47 ct47), sl47⟩) (c47 : PySem.W.codeIn K cd47 "_gather_shape" = true) (k47 : PySem.W.keepIn K (.ref f47) = true)
    (a48 : PySem.W.nsIn K mainGlobals "domain_of" = some (some (.ref f48))) (l48 : K.lookup f48 = some ⟨oc48, od48, .func (PySem.W.fnOf "domain_of" "domain_of" (defArgs sdomain_of) (defBody sdomain_of) (defScope sdomain_of) .none kV48 dc48 pm48 an48 cd48 ct48), sl48⟩) (c48 : PySem.W.codeIn K cd48 "domain_of" = true) (k48 : PySem.W.keepIn K (.ref f48) = true)
    (a49 : PySem.W.nsIn K mainGlobals "_check_form" = some (some (.ref f49))) (l49 : K.lookup f49 = some ⟨oc49, od49, .func (PySem.W.fnOf "_check_form" "_check_form" (defArgs s_check_form) (defBody s_check_form) (defScope s_check_form) .none kV49 dc49 pm49 an49 cd49 ct49), sl49⟩) (c49 : PySem.W.codeIn K cd49 "_check_form" = true) (k49 : PySem.W.keepIn K (.ref f49) = true)
    (a50 : PySem.W.nsIn K mainGlobals "check_fields" = some (some (.ref f50))) (l50 : K.lookup f50 = some ⟨oc50, od50, .func (PySem.W.fnOf "check_fields" "check_fields" (defArgs s_check_fields) (defBody s_check_fields) (defScope s_check_fields) .none kV50 dc50 pm50 an50 cd50 ct50), sl50⟩) (c50 : PySem.W.codeIn K cd50 "check_fields" = true) (k50 : PySem.W.keepIn K (.ref f50) = true)
    (a51 : PySem.W.nsIn K mainGlobals "_check_clamp" = some (some (.ref f51))) (l51 : K.lookup f51 = some ⟨oc51, od51, .func (PySem.W.fnOf "_check_clamp" "_check_clamp" (defArgs s_check_clamp) (defBody s_check_clamp) (defScope s_check_clamp) .none kV51 dc51 pm51 an51 cd51 ct51), sl51⟩) (c51 : PySem.W.codeIn K cd51 "_check_clamp" = true) (k51 : PySem.W.keepIn K (.ref f51) = true)
    (a52 : PySem.W.nsIn K mainGlobals "check_graph" = some (some (.ref f52))) (l52 : K.lookup f52 = some ⟨oc52, od52, .func (PySem.W.fnOf "check_graph" "check_graph" (defArgs scheck_graph) (defBody scheck_graph) (defScope scheck_graph) .none kV52 dc52 pm52 an52 cd52 ct52), sl52⟩) (c52 : PySem.W.codeIn K cd52 "check_graph" = true) (k52 : PySem.W.keepIn K (.ref f52) = true)
    (a53 : PySem.W.nsIn K mainGlobals "total_work" = some (some (.ref f53))) (l53 : K.lookup f53 = some ⟨oc53, od53, .func (PySem.W.fnOf "total_work" "total_work" (defArgs stotal_work) (defBody stotal_work) (defScope stotal_work) .none kV53 dc53 pm53 an53 cd53 ct53), sl53⟩) (c53 : PySem.W.codeIn K cd53 "total_work" = true) (k53 : PySem.W.keepIn K (.ref f53) = true)
    (a54 : PySem.W.nsIn K mainGlobals "work_of_node" = some (some (.ref f54))) (l54 : K.lookup f54 = some ⟨oc54, od54, .func (PySem.W.fnOf "work_of_node" "work_of_node" (defArgs swork_of_node) (defBody swork_of_node) (defScope swork_of_node) .none kV54 dc54 pm54 an54 cd54 ct54), sl54⟩) (c54 : PySem.W.codeIn K cd54 "work_of_node" = true) (k54 : PySem.W.keepIn K (.ref f54) = true)
    (a55 : PySem.W.nsIn K mainGlobals "share" = some (some (.ref f55))) (l55 : K.lookup f55 = some ⟨oc55, od55, .func (PySem.W.fnOf "share" "share" (defArgs sshare) (defBody sshare) (defScope sshare) .none kV55 dc55 pm55 an55 cd55 ct55), sl55⟩) (c55 : PySem.W.codeIn K cd55 "share" = true) (k55 : PySem.W.keepIn K (.ref f55) = true)
    (a56 : PySem.W.nsIn K mainGlobals "_moved" = some (some (.ref f56))) (l56 : K.lookup f56 = some ⟨oc56, od56, .func (PySem.W.fnOf "_moved" "_moved" (defArgs s_moved) (defBody s_moved) (defScope s_moved) .none kV56 dc56 pm56 an56 cd56 ct56), sl56⟩) (c56 : PySem.W.codeIn K cd56 "_moved" = true) (k56 : PySem.W.keepIn K (.ref f56) = true)
    (a57 : PySem.W.nsIn K mainGlobals "_law_begin" = some (some (.ref f57))) (l57 : K.lookup f57 = some ⟨oc57, od57, .func (PySem.W.fnOf "_law_begin" "_law_begin" (defArgs sBegin) (defBody sBegin) (defScope sBegin) .none kV57 dc57 pm57 an57 cd57 ct57), sl57⟩) (c57 : PySem.W.codeIn K cd57 "_law_begin" = true) (k57 : PySem.W.keepIn K (.ref f57) = true)
    (a58 : PySem.W.nsIn K mainGlobals "_law_take" = some (some (.ref f58))) (l58 : K.lookup f58 = some ⟨oc58, od58, .func (PySem.W.fnOf "_law_take" "_law_take" (defArgs sTake) (defBody sTake) (defScope sTake) .none kV58 dc58 pm58 an58 cd58 ct58), sl58⟩) (c58 : PySem.W.codeIn K cd58 "_law_take" = true) (k58 : PySem.W.keepIn K (.ref f58) = true)
    (a59 : PySem.W.nsIn K mainGlobals "_law_signed" = some (some (.ref f59))) (l59 : K.lookup f59 = some ⟨oc59, od59, .func (PySem.W.fnOf "_law_signed" "_law_signed" (defArgs sSigned) (defBody sSigned) (defScope sSigned) .none kV59 dc59 pm59 an59 cd59 ct59), sl59⟩) (c59 : PySem.W.codeIn K cd59 "_law_signed" = true) (k59 : PySem.W.keepIn K (.ref f59) = true)
    (a60 : PySem.W.nsIn K mainGlobals "_law_count" = some (some (.ref f60))) (l60 : K.lookup f60 = some ⟨oc60, od60, .func (PySem.W.fnOf "_law_count" "_law_count" (defArgs sCount) (defBody sCount) (defScope sCount) .none kV60 dc60 pm60 an60 cd60 ct60), sl60⟩) (c60 : PySem.W.codeIn K cd60 "_law_count" = true) (k60 : PySem.W.keepIn K (.ref f60) = true)
    (a61 : PySem.W.nsIn K mainGlobals "_law_size" = some (some (.ref f61))) (l61 : K.lookup f61 = some ⟨oc61, od61, .func (PySem.W.fnOf "_law_size" "_law_size" (defArgs sSize) (defBody sSize) (defScope sSize) .none kV61 dc61 pm61 an61 cd61 ct61), sl61⟩) (c61 : PySem.W.codeIn K cd61 "_law_size" = true) (k61 : PySem.W.keepIn K (.ref f61) = true)
    (a62 : PySem.W.nsIn K mainGlobals "_law_names" = some (some (.ref f62))) (l62 : K.lookup f62 = some ⟨oc62, od62, .func (PySem.W.fnOf "_law_names" "_law_names" (defArgs sNames) (defBody sNames) (defScope sNames) .none kV62 dc62 pm62 an62 cd62 ct62), sl62⟩) (c62 : PySem.W.codeIn K cd62 "_law_names" = true) (k62 : PySem.W.keepIn K (.ref f62) = true)
    (a63 : PySem.W.nsIn K mainGlobals "_law_cast" = some (some (.ref f63))) (l63 : K.lookup f63 = some ⟨oc63, od63, .func (PySem.W.fnOf "_law_cast" "_law_cast" (defArgs sCast) (defBody sCast) (defScope sCast) .none kV63 dc63 pm63 an63 cd63 ct63), sl63⟩) (c63 : PySem.W.codeIn K cd63 "_law_cast" = true) (k63 : PySem.W.keepIn K (.ref f63) = true)
    (a64 : PySem.W.nsIn K mainGlobals "_law_limit" = some (some (.ref f64))) (l64 : K.lookup f64 = some ⟨oc64, od64, .func (PySem.W.fnOf "_law_limit" "_law_limit" (defArgs s_law_limit) (defBody s_law_limit) (defScope s_law_limit) .none kV64 dc64 pm64 an64 cd64 ct64), sl64⟩) (c64 : PySem.W.codeIn K cd64 "_law_limit" = true) (k64 : PySem.W.keepIn K (.ref f64) = true)
    (a65 : PySem.W.nsIn K mainGlobals "_law_point" = some (some (.ref f65))) (l65 : K.lookup f65 = some ⟨oc65, od65, .func (PySem.W.fnOf "_law_point" "_law_point" (defArgs s_law_point) (defBody s_law_point) (defScope s_law_point) .none kV65 dc65 pm65 an65 cd65 ct65), sl65⟩) (c65 : PySem.W.codeIn K cd65 "_law_point" = true) (k65 : PySem.W.keepIn K (.ref f65) = true)
    (a66 : PySem.W.nsIn K mainGlobals "_law_new_axes" = some (some (.ref f66))) (l66 : K.lookup f66 = some ⟨oc66, od66, .func (PySem.W.fnOf "_law_new_axes" "_law_new_axes" (defArgs s_law_new_axes) (defBody s_law_new_axes) (defScope s_law_new_axes) .none kV66 dc66 pm66 an66 cd66 ct66), sl66⟩) (c66 : PySem.W.codeIn K cd66 "_law_new_axes" = true) (k66 : PySem.W.keepIn K (.ref f66) = true)
    (a67 : PySem.W.nsIn K mainGlobals "_law_moved_shape" = some (some (.ref f67))) (l67 : K.lookup f67 = some ⟨oc67, od67, .func (PySem.W.fnOf "_law_moved_shape" "_law_moved_shape" (defArgs s_law_moved_shape) (defBody s_law_moved_shape) (defScope s_law_moved_shape) .none kV67 dc67 pm67 an67 cd67 ct67), sl67⟩) (c67 : PySem.W.codeIn K cd67 "_law_moved_shape" = true) (k67 : PySem.W.keepIn K (.ref f67) = true)
    (a68 : PySem.W.nsIn K mainGlobals "_law_corners" = some (some (.ref f68))) (l68 : K.lookup f68 = some ⟨oc68, od68, .func (PySem.W.fnOf "_law_corners" "_law_corners" (defArgs s_law_corners) (defBody s_law_corners) (defScope s_law_corners) .none kV68 dc68 pm68 an68 cd68 ct68), sl68⟩) (c68 : PySem.W.codeIn K cd68 "_law_corners" = true) (k68 : PySem.W.keepIn K (.ref f68) = true)
    (a69 : PySem.W.nsIn K mainGlobals "_law_span" = some (some (.ref f69))) (l69 : K.lookup f69 = some ⟨oc69, od69, .func (PySem.W.fnOf "_law_span" "_law_span" (defArgs s_law_span) (defBody s_law_span) (defScope s_law_span) .none kV69 dc69 pm69 an69 cd69 ct69), sl69⟩) (c69 : PySem.W.codeIn K cd69 "_law_span" = true) (k69 : PySem.W.keepIn K (.ref f69) = true)
    (a70 : PySem.W.nsIn K mainGlobals "_law_domain" = some (some (.ref f70))) (l70 : K.lookup f70 = some ⟨oc70, od70, .func (PySem.W.fnOf "_law_domain" "_law_domain" (defArgs s_law_domain) (defBody s_law_domain) (defScope s_law_domain) .none kV70 dc70 pm70 an70 cd70 ct70), sl70⟩) (c70 : PySem.W.codeIn K cd70 "_law_domain" = true) (k70 : PySem.W.keepIn K (.ref f70) = true)
    (a71 : PySem.W.nsIn K mainGlobals "_law_kinds" = some (some (.ref f71))) (l71 : K.lookup f71 = some ⟨oc71, od71, .func (PySem.W.fnOf "_law_kinds" "_law_kinds" (defArgs s_law_kinds) (defBody s_law_kinds) (defScope s_law_kinds) .none kV71 dc71 pm71 an71 cd71 ct71), sl71⟩) (c71 : PySem.W.codeIn K cd71 "_law_kinds" = true) (k71 : PySem.W.keepIn K (.ref f71) = true)
    (a72 : PySem.W.nsIn K mainGlobals "_law_letters" = some (some (.ref f72))) (l72 : K.lookup f72 = some ⟨oc72, od72, .func (PySem.W.fnOf "_law_letters" "_law_letters" (defArgs s_law_letters) (defBody s_law_letters) (defScope s_law_letters) .none kV72 dc72 pm72 an72 cd72 ct72), sl72⟩) (c72 : PySem.W.codeIn K cd72 "_law_letters" = true) (k72 : PySem.W.keepIn K (.ref f72) = true)
    (a73 : PySem.W.nsIn K mainGlobals "_law_info" = some (some (.ref f73))) (l73 : K.lookup f73 = some ⟨oc73, od73, .func (PySem.W.fnOf "_law_info" "_law_info" (defArgs s_law_info) (defBody s_law_info) (defScope s_law_info) .none kV73 dc73 pm73 an73 cd73 ct73), sl73⟩) (c73 : PySem.W.codeIn K cd73 "_law_info" = true) (k73 : PySem.W.keepIn K (.ref f73) = true)
    (a74 : PySem.W.nsIn K mainGlobals "_law_given" = some (some (.ref f74))) (l74 : K.lookup f74 = some ⟨oc74, od74, .func (PySem.W.fnOf "_law_given" "_law_given" (defArgs s_law_given) (defBody s_law_given) (defScope s_law_given) .none kV74 dc74 pm74 an74 cd74 ct74), sl74⟩) (c74 : PySem.W.codeIn K cd74 "_law_given" = true) (k74 : PySem.W.keepIn K (.ref f74) = true)
    (a75 : PySem.W.nsIn K mainGlobals "_law_node" = some (some (.ref f75))) (l75 : K.lookup f75 = some ⟨oc75, od75, .func (PySem.W.fnOf "_law_node" "_law_node" (defArgs s_law_node) (defBody s_law_node) (defScope s_law_node) .none kV75 dc75 pm75 an75 cd75 ct75), sl75⟩) (c75 : PySem.W.codeIn K cd75 "_law_node" = true) (k75 : PySem.W.keepIn K (.ref f75) = true)
    (a76 : PySem.W.nsIn K mainGlobals "_law_graph" = some (some (.ref f76))) (l76 : K.lookup f76 = some ⟨oc76, od76, .func (PySem.W.fnOf "_law_graph" "_law_graph" (defArgs s_law_graph) (defBody s_law_graph) (defScope s_law_graph) .none kV76 dc76 pm76 an76 cd76 ct76), sl76⟩) (c76 : PySem.W.codeIn K cd76 "_law_graph" = true) (k76 : PySem.W.keepIn K (.ref f76) = true)
    (a77 : PySem.W.nsIn K mainGlobals "law" = some (some (.ref f77))) (l77 : K.lookup f77 = some ⟨oc77, od77, .func (PySem.W.fnOf "law" "law" (defArgs slaw) (defBody slaw) (defScope slaw) .none kV77 dc77 pm77 an77 cd77 ct77), sl77⟩) (c77 : PySem.W.codeIn K cd77 "law" = true) (k77 : PySem.W.keepIn K (.ref f77) = true)
    (aEz1 : PySem.W.nsIn K mainGlobals "RankError" = some (some (.ref z1)))
    (kEz1 : PySem.W.keepIn K (.ref z1) = true)
    (bEz1 : PySem.W.subIn K (.ref z1) (.type "BaseException") = some true)
    (tEz1 : PySem.W.typeIn K (.ref z1) = some (.type "type"))
    (xz1 : PySem.W.excIn K z1 valErr "ValueError.__new__" = true)
    (aEz2 : PySem.W.nsIn K mainGlobals "AxisError" = some (some (.ref z2)))
    (kEz2 : PySem.W.keepIn K (.ref z2) = true)
    (bEz2 : PySem.W.subIn K (.ref z2) (.type "BaseException") = some true)
    (tEz2 : PySem.W.typeIn K (.ref z2) = some (.type "type"))
    (xz2 : PySem.W.excIn K z2 valErr "ValueError.__new__" = true)
    (aEz3 : PySem.W.nsIn K mainGlobals "RangeError" = some (some (.ref z3)))
    (kEz3 : PySem.W.keepIn K (.ref z3) = true)
    (bEz3 : PySem.W.subIn K (.ref z3) (.type "BaseException") = some true)
    (tEz3 : PySem.W.typeIn K (.ref z3) = some (.type "type"))
    (xz3 : PySem.W.excIn K z3 valErr "ValueError.__new__" = true)
    (aEz4 : PySem.W.nsIn K mainGlobals "TooLarge" = some (some (.ref z4)))
    (kEz4 : PySem.W.keepIn K (.ref z4) = true)
    (bEz4 : PySem.W.subIn K (.ref z4) (.type "BaseException") = some true)
    (tEz4 : PySem.W.typeIn K (.ref z4) = some (.type "type"))
    (xz4 : PySem.W.excIn K z4 valErr "ValueError.__new__" = true)
    (aEz5 : PySem.W.nsIn K mainGlobals "KindError" = some (some (.ref z5)))
    (kEz5 : PySem.W.keepIn K (.ref z5) = true)
    (bEz5 : PySem.W.subIn K (.ref z5) (.type "BaseException") = some true)
    (tEz5 : PySem.W.typeIn K (.ref z5) = some (.type "type"))
    (xz5 : PySem.W.excIn K z5 valErr "ValueError.__new__" = true)
    (aEz6 : PySem.W.nsIn K mainGlobals "FormError" = some (some (.ref z6)))
    (kEz6 : PySem.W.keepIn K (.ref z6) = true)
    (bEz6 : PySem.W.subIn K (.ref z6) (.type "BaseException") = some true)
    (tEz6 : PySem.W.typeIn K (.ref z6) = some (.type "type"))
    (xz6 : PySem.W.excIn K z6 valErr "ValueError.__new__" = true)
    (aEz7 : PySem.W.nsIn K mainGlobals "TooWide" = some (some (.ref z7)))
    (kEz7 : PySem.W.keepIn K (.ref z7) = true)
    (bEz7 : PySem.W.subIn K (.ref z7) (.type "BaseException") = some true)
    (tEz7 : PySem.W.typeIn K (.ref z7) = some (.type "type"))
    (xz7 : PySem.W.excIn K z7 valErr "ValueError.__new__" = true)
    (acM : PySem.W.nsIn K mainGlobals "_MAKERS" = some (some (.ref cM)))
    (lcM : K.lookup cM = some ⟨.type "dict", none, .dict escM ncM, #[]⟩)
    (qcM : PySem.W.KeysLit w.params escM.toList)
    (acS : PySem.W.nsIn K mainGlobals "_SHAPES" = some (some (.ref cS)))
    (lcS : K.lookup cS = some ⟨.type "dict", none, .dict escS ncS, #[]⟩)
    (qcS : PySem.W.KeysLit w.params escS.toList)
    (acI : PySem.W.nsIn K mainGlobals "_INTERVALS" = some (some (.ref cI)))
    (lcI : K.lookup cI = some ⟨.type "dict", none, .dict escI ncI, #[]⟩)
    (qcI : PySem.W.KeysLit w.params escI.toList)
    (acA : PySem.W.nsIn K mainGlobals "ARG_COUNTS" = some (some (.ref cA)))
    (lcA : K.lookup cA = some ⟨.type "dict", none, .dict escA ncA, #[]⟩)
    (qcA : PySem.W.KeysLit w.params escA.toList)
    (acF : PySem.W.nsIn K mainGlobals "FIELDS" = some (some (.ref cF)))
    (lcF : K.lookup cF = some ⟨.type "dict", none, .dict escF ncF, #[]⟩)
    (qcF : PySem.W.KeysLit w.params escF.toList)
    (acR : PySem.W.nsIn K mainGlobals "_FIELD_RANGES" = some (some (.ref cR)))
    (lcR : K.lookup cR = some ⟨.type "dict", none, .dict escR ncR, #[]⟩)
    (qcR : PySem.W.KeysLit w.params escR.toList)
    (ycF : (cF == sysModules) = false)
    (ycR : (cR == sysModules) = false)
    (eWL : PySem.W.nsIn K mainGlobals "WIDTH_LIMIT" = some (some (.int 200 tkW)))
    (eRL : PySem.W.nsIn K mainGlobals "RANK_LIMIT" = some (some (.int 4 tkR)))
    (eSL : PySem.W.nsIn K mainGlobals "SIZE_LIMIT" = some (some (.int 16 tkS)))
    (eCL : PySem.W.nsIn K mainGlobals "COUNT_LIMIT" = some (some (.int 256 tkC)))
    (eNL : PySem.W.nsIn K mainGlobals "NODE_LIMIT" = some (some (.int 400 tkN)))
    (eKL : PySem.W.nsIn K mainGlobals "WORK_LIMIT" = some (some (.int 50000 tkK)))
    (qFu1 : PySem.W.nsIn K cF "input" = some (some (.ref u1)))
    (ltu1 : K.lookup u1 = some ⟨.type "tuple", odu1, .seq itu1 nbu1, slu1⟩)
    (vtu1 : Vals [.str "shape", .str "low", .str "high"] itu1.toList)
    (ztu1 : itu1.size ≤ sizeLine)
    (qAu1 : PySem.W.nsIn K cA "input" = some (some (.int 0 tku1)))
    (qFu2 : PySem.W.nsIn K cF "const" = some (some (.ref u2)))
    (ltu2 : K.lookup u2 = some ⟨.type "tuple", odu2, .seq itu2 nbu2, slu2⟩)
    (vtu2 : Vals [.str "shape", .str "data"] itu2.toList)
    (ztu2 : itu2.size ≤ sizeLine)
    (qAu2 : PySem.W.nsIn K cA "const" = some (some (.int 0 tku2)))
    (qFu3 : PySem.W.nsIn K cF "add" = some (some (.ref u3)))
    (ltu3 : K.lookup u3 = some ⟨.type "tuple", odu3, .seq itu3 nbu3, slu3⟩)
    (vtu3 : Vals [] itu3.toList)
    (ztu3 : itu3.size ≤ sizeLine)
    (qAu3 : PySem.W.nsIn K cA "add" = some (some (.int 2 tku3)))
    (qFu4 : PySem.W.nsIn K cF "sub" = some (some (.ref u4)))
    (ltu4 : K.lookup u4 = some ⟨.type "tuple", odu4, .seq itu4 nbu4, slu4⟩)
    (vtu4 : Vals [] itu4.toList)
    (ztu4 : itu4.size ≤ sizeLine)
    (qAu4 : PySem.W.nsIn K cA "sub" = some (some (.int 2 tku4)))
    (qFu5 : PySem.W.nsIn K cF "mul" = some (some (.ref u5)))
    (ltu5 : K.lookup u5 = some ⟨.type "tuple", odu5, .seq itu5 nbu5, slu5⟩)
    (vtu5 : Vals [] itu5.toList)
    (ztu5 : itu5.size ≤ sizeLine)
    (qAu5 : PySem.W.nsIn K cA "mul" = some (some (.int 2 tku5)))
    (qFu6 : PySem.W.nsIn K cF "max" = some (some (.ref u6)))
    (ltu6 : K.lookup u6 = some ⟨.type "tuple", odu6, .seq itu6 nbu6, slu6⟩)
    (vtu6 : Vals [] itu6.toList)
    (ztu6 : itu6.size ≤ sizeLine)
    (qAu6 : PySem.W.nsIn K cA "max" = some (some (.int 2 tku6)))
    (qFu7 : PySem.W.nsIn K cF "min" = some (some (.ref u7)))
    (ltu7 : K.lookup u7 = some ⟨.type "tuple", odu7, .seq itu7 nbu7, slu7⟩)
    (vtu7 : Vals [] itu7.toList)
    (ztu7 : itu7.size ≤ sizeLine)
    (qAu7 : PySem.W.nsIn K cA "min" = some (some (.int 2 tku7)))
    (qFu8 : PySem.W.nsIn K cF "less" = some (some (.ref u8)))
    (ltu8 : K.lookup u8 = some ⟨.type "tuple", odu8, .seq itu8 nbu8, slu8⟩)
    (vtu8 : Vals [] itu8.toList)
    (ztu8 : itu8.size ≤ sizeLine)
    (qAu8 : PySem.W.nsIn K cA "less" = some (some (.int 2 tku8)))
    (qFu9 : PySem.W.nsIn K cF "equal" = some (some (.ref u9)))
    (ltu9 : K.lookup u9 = some ⟨.type "tuple", odu9, .seq itu9 nbu9, slu9⟩)
    (vtu9 : Vals [] itu9.toList)
    (ztu9 : itu9.size ≤ sizeLine)
    (qAu9 : PySem.W.nsIn K cA "equal" = some (some (.int 2 tku9)))
    (qFu10 : PySem.W.nsIn K cF "neg" = some (some (.ref u10)))
    (ltu10 : K.lookup u10 = some ⟨.type "tuple", odu10, .seq itu10 nbu10, slu10⟩)
    (vtu10 : Vals [] itu10.toList)
    (ztu10 : itu10.size ≤ sizeLine)
    (qAu10 : PySem.W.nsIn K cA "neg" = some (some (.int 1 tku10)))
    (qFu11 : PySem.W.nsIn K cF "clamp" = some (some (.ref u11)))
    (ltu11 : K.lookup u11 = some ⟨.type "tuple", odu11, .seq itu11 nbu11, slu11⟩)
    (vtu11 : Vals [.str "low", .str "high"] itu11.toList)
    (ztu11 : itu11.size ≤ sizeLine)
    (qAu11 : PySem.W.nsIn K cA "clamp" = some (some (.int 1 tku11)))
    (qFu12 : PySem.W.nsIn K cF "shift" = some (some (.ref u12)))
    (ltu12 : K.lookup u12 = some ⟨.type "tuple", odu12, .seq itu12 nbu12, slu12⟩)
    (vtu12 : Vals [.str "n"] itu12.toList)
    (ztu12 : itu12.size ≤ sizeLine)
    (qAu12 : PySem.W.nsIn K cA "shift" = some (some (.int 1 tku12)))
    (qFu13 : PySem.W.nsIn K cF "where" = some (some (.ref u13)))
    (ltu13 : K.lookup u13 = some ⟨.type "tuple", odu13, .seq itu13 nbu13, slu13⟩)
    (vtu13 : Vals [] itu13.toList)
    (ztu13 : itu13.size ≤ sizeLine)
    (qAu13 : PySem.W.nsIn K cA "where" = some (some (.int 3 tku13)))
    (qFu14 : PySem.W.nsIn K cF "sum" = some (some (.ref u14)))
    (ltu14 : K.lookup u14 = some ⟨.type "tuple", odu14, .seq itu14 nbu14, slu14⟩)
    (vtu14 : Vals [.str "axis"] itu14.toList)
    (ztu14 : itu14.size ≤ sizeLine)
    (qAu14 : PySem.W.nsIn K cA "sum" = some (some (.int 1 tku14)))
    (qFu15 : PySem.W.nsIn K cF "peak" = some (some (.ref u15)))
    (ltu15 : K.lookup u15 = some ⟨.type "tuple", odu15, .seq itu15 nbu15, slu15⟩)
    (vtu15 : Vals [.str "axis"] itu15.toList)
    (ztu15 : itu15.size ≤ sizeLine)
    (qAu15 : PySem.W.nsIn K cA "peak" = some (some (.int 1 tku15)))
    (qFu16 : PySem.W.nsIn K cF "dot" = some (some (.ref u16)))
    (ltu16 : K.lookup u16 = some ⟨.type "tuple", odu16, .seq itu16 nbu16, slu16⟩)
    (vtu16 : Vals [.str "axis"] itu16.toList)
    (ztu16 : itu16.size ≤ sizeLine)
    (qAu16 : PySem.W.nsIn K cA "dot" = some (some (.int 2 tku16)))
    (qFu17 : PySem.W.nsIn K cF "order" = some (some (.ref u17)))
    (ltu17 : K.lookup u17 = some ⟨.type "tuple", odu17, .seq itu17 nbu17, slu17⟩)
    (vtu17 : Vals [.str "letters"] itu17.toList)
    (ztu17 : itu17.size ≤ sizeLine)
    (qAu17 : PySem.W.nsIn K cA "order" = some (some (.int 1 tku17)))
    (qFu18 : PySem.W.nsIn K cF "rename" = some (some (.ref u18)))
    (ltu18 : K.lookup u18 = some ⟨.type "tuple", odu18, .seq itu18 nbu18, slu18⟩)
    (vtu18 : Vals [.str "axis", .str "new"] itu18.toList)
    (ztu18 : itu18.size ≤ sizeLine)
    (qAu18 : PySem.W.nsIn K cA "rename" = some (some (.int 1 tku18)))
    (qFu19 : PySem.W.nsIn K cF "spread" = some (some (.ref u19)))
    (ltu19 : K.lookup u19 = some ⟨.type "tuple", odu19, .seq itu19 nbu19, slu19⟩)
    (vtu19 : Vals [.str "axis", .str "size"] itu19.toList)
    (ztu19 : itu19.size ≤ sizeLine)
    (qAu19 : PySem.W.nsIn K cA "spread" = some (some (.int 1 tku19)))
    (qFu20 : PySem.W.nsIn K cF "cut" = some (some (.ref u20)))
    (ltu20 : K.lookup u20 = some ⟨.type "tuple", odu20, .seq itu20 nbu20, slu20⟩)
    (vtu20 : Vals [.str "axis", .str "start", .str "count"] itu20.toList)
    (ztu20 : itu20.size ≤ sizeLine)
    (qAu20 : PySem.W.nsIn K cA "cut" = some (some (.int 1 tku20)))
    (qFu21 : PySem.W.nsIn K cF "pad" = some (some (.ref u21)))
    (ltu21 : K.lookup u21 = some ⟨.type "tuple", odu21, .seq itu21 nbu21, slu21⟩)
    (vtu21 : Vals [.str "axis", .str "before", .str "after"] itu21.toList)
    (ztu21 : itu21.size ≤ sizeLine)
    (qAu21 : PySem.W.nsIn K cA "pad" = some (some (.int 1 tku21)))
    (qFu22 : PySem.W.nsIn K cF "join" = some (some (.ref u22)))
    (ltu22 : K.lookup u22 = some ⟨.type "tuple", odu22, .seq itu22 nbu22, slu22⟩)
    (vtu22 : Vals [.str "axis"] itu22.toList)
    (ztu22 : itu22.size ≤ sizeLine)
    (qAu22 : PySem.W.nsIn K cA "join" = some (some (.int 2 tku22)))
    (qFu23 : PySem.W.nsIn K cF "window" = some (some (.ref u23)))
    (ltu23 : K.lookup u23 = some ⟨.type "tuple", odu23, .seq itu23 nbu23, slu23⟩)
    (vtu23 : Vals [.str "axis", .str "new", .str "width", .str "stride"] itu23.toList)
    (ztu23 : itu23.size ≤ sizeLine)
    (qAu23 : PySem.W.nsIn K cA "window" = some (some (.int 1 tku23)))
    (qFu24 : PySem.W.nsIn K cF "fold" = some (some (.ref u24)))
    (ltu24 : K.lookup u24 = some ⟨.type "tuple", odu24, .seq itu24 nbu24, slu24⟩)
    (vtu24 : Vals [.str "axis", .str "second", .str "stride", .str "size"] itu24.toList)
    (ztu24 : itu24.size ≤ sizeLine)
    (qAu24 : PySem.W.nsIn K cA "fold" = some (some (.int 1 tku24)))
    (qFu25 : PySem.W.nsIn K cF "gather" = some (some (.ref u25)))
    (ltu25 : K.lookup u25 = some ⟨.type "tuple", odu25, .seq itu25 nbu25, slu25⟩)
    (vtu25 : Vals [.str "axis"] itu25.toList)
    (ztu25 : itu25.size ≤ sizeLine)
    (qAu25 : PySem.W.nsIn K cA "gather" = some (some (.int 2 tku25)))
    (rN_shape : PySem.W.nsIn K cR "shape" = some none)
    (rN_low : PySem.W.nsIn K cR "low" = some none)
    (rN_high : PySem.W.nsIn K cR "high" = some none)
    (rN_data : PySem.W.nsIn K cR "data" = some none)
    (rN_axis : PySem.W.nsIn K cR "axis" = some none)
    (rN_letters : PySem.W.nsIn K cR "letters" = some none)
    (rN_new : PySem.W.nsIn K cR "new" = some none)
    (rN_second : PySem.W.nsIn K cR "second" = some none)
    (rQ_n : PySem.W.nsIn K cR "n" = some (some (.ref v9)))
    (ltv9 : K.lookup v9 = some ⟨.type "tuple", odv9, .seq itv9 nbv9, slv9⟩)
    (vtv9 : Vals [.int 1, .int 30] itv9.toList)
    (ztv9 : itv9.size ≤ sizeLine)
    (rQ_size : PySem.W.nsIn K cR "size" = some (some (.ref v10)))
    (ltv10 : K.lookup v10 = some ⟨.type "tuple", odv10, .seq itv10 nbv10, slv10⟩)
    (vtv10 : Vals [.int 1, .int 16] itv10.toList)
    (ztv10 : itv10.size ≤ sizeLine)
    (rQ_count : PySem.W.nsIn K cR "count" = some (some (.ref v11)))
    (ltv11 : K.lookup v11 = some ⟨.type "tuple", odv11, .seq itv11 nbv11, slv11⟩)
    (vtv11 : Vals [.int 1, .int 16] itv11.toList)
    (ztv11 : itv11.size ≤ sizeLine)
    (rQ_width : PySem.W.nsIn K cR "width" = some (some (.ref v12)))
    (ltv12 : K.lookup v12 = some ⟨.type "tuple", odv12, .seq itv12 nbv12, slv12⟩)
    (vtv12 : Vals [.int 1, .int 16] itv12.toList)
    (ztv12 : itv12.size ≤ sizeLine)
    (rQ_stride : PySem.W.nsIn K cR "stride" = some (some (.ref v13)))
    (ltv13 : K.lookup v13 = some ⟨.type "tuple", odv13, .seq itv13 nbv13, slv13⟩)
    (vtv13 : Vals [.int 1, .int 16] itv13.toList)
    (ztv13 : itv13.size ≤ sizeLine)
    (rQ_start : PySem.W.nsIn K cR "start" = some (some (.ref v14)))
    (ltv14 : K.lookup v14 = some ⟨.type "tuple", odv14, .seq itv14 nbv14, slv14⟩)
    (vtv14 : Vals [.int 0, .int 16] itv14.toList)
    (ztv14 : itv14.size ≤ sizeLine)
    (rQ_before : PySem.W.nsIn K cR "before" = some (some (.ref v15)))
    (ltv15 : K.lookup v15 = some ⟨.type "tuple", odv15, .seq itv15 nbv15, slv15⟩)
    (vtv15 : Vals [.int 0, .int 16] itv15.toList)
    (ztv15 : itv15.size ≤ sizeLine)
    (rQ_after : PySem.W.nsIn K cR "after" = some (some (.ref v16)))
    (ltv16 : K.lookup v16 = some ⟨.type "tuple", odv16, .seq itv16 nbv16, slv16⟩)
    (vtv16 : Vals [.int 0, .int 16] itv16.toList)
    (ztv16 : itv16.size ≤ sizeLine)
    (QcS_input : PySem.W.nsIn K cS "input" = some (some (.ref f36)))
    (QcS_const : PySem.W.nsIn K cS "const" = some (some (.ref f36)))
    (QcS_add : PySem.W.nsIn K cS "add" = some (some (.ref f35)))
    (QcS_sub : PySem.W.nsIn K cS "sub" = some (some (.ref f35)))
    (QcS_mul : PySem.W.nsIn K cS "mul" = some (some (.ref f35)))
    (QcS_max : PySem.W.nsIn K cS "max" = some (some (.ref f35)))
    (QcS_min : PySem.W.nsIn K cS "min" = some (some (.ref f35)))
    (QcS_less : PySem.W.nsIn K cS "less" = some (some (.ref f35)))
    (QcS_equal : PySem.W.nsIn K cS "equal" = some (some (.ref f35)))
    (QcS_neg : PySem.W.nsIn K cS "neg" = some (some (.ref f35)))
    (QcS_clamp : PySem.W.nsIn K cS "clamp" = some (some (.ref f35)))
    (QcS_shift : PySem.W.nsIn K cS "shift" = some (some (.ref f35)))
    (QcS_where : PySem.W.nsIn K cS "where" = some (some (.ref f35)))
    (QcS_sum : PySem.W.nsIn K cS "sum" = some (some (.ref f37)))
    (QcS_peak : PySem.W.nsIn K cS "peak" = some (some (.ref f37)))
    (QcS_dot : PySem.W.nsIn K cS "dot" = some (some (.ref f38)))
    (QcS_order : PySem.W.nsIn K cS "order" = some (some (.ref f39)))
    (QcS_rename : PySem.W.nsIn K cS "rename" = some (some (.ref f40)))
    (QcS_spread : PySem.W.nsIn K cS "spread" = some (some (.ref f41)))
    (QcS_cut : PySem.W.nsIn K cS "cut" = some (some (.ref f42)))
    (QcS_pad : PySem.W.nsIn K cS "pad" = some (some (.ref f43)))
    (QcS_join : PySem.W.nsIn K cS "join" = some (some (.ref f44)))
    (QcS_window : PySem.W.nsIn K cS "window" = some (some (.ref f45)))
    (QcS_fold : PySem.W.nsIn K cS "fold" = some (some (.ref f46)))
    (QcS_gather : PySem.W.nsIn K cS "gather" = some (some (.ref f47)))
    (QcI_input : PySem.W.nsIn K cI "input" = some (some (.ref f18)))
    (QcI_const : PySem.W.nsIn K cI "const" = some (some (.ref f19)))
    (QcI_add : PySem.W.nsIn K cI "add" = some (some (.ref f20)))
    (QcI_sub : PySem.W.nsIn K cI "sub" = some (some (.ref f21)))
    (QcI_mul : PySem.W.nsIn K cI "mul" = some (some (.ref f22)))
    (QcI_max : PySem.W.nsIn K cI "max" = some (some (.ref f20)))
    (QcI_min : PySem.W.nsIn K cI "min" = some (some (.ref f20)))
    (QcI_less : PySem.W.nsIn K cI "less" = some (some (.ref f23)))
    (QcI_equal : PySem.W.nsIn K cI "equal" = some (some (.ref f23)))
    (QcI_neg : PySem.W.nsIn K cI "neg" = some (some (.ref f24)))
    (QcI_clamp : PySem.W.nsIn K cI "clamp" = some (some (.ref f20)))
    (QcI_shift : PySem.W.nsIn K cI "shift" = some (some (.ref f20)))
    (QcI_where : PySem.W.nsIn K cI "where" = some (some (.ref f25)))
    (QcI_sum : PySem.W.nsIn K cI "sum" = some (some (.ref f26)))
    (QcI_peak : PySem.W.nsIn K cI "peak" = some (some (.ref f28)))
    (QcI_dot : PySem.W.nsIn K cI "dot" = some (some (.ref f27)))
    (QcI_order : PySem.W.nsIn K cI "order" = some (some (.ref f28)))
    (QcI_rename : PySem.W.nsIn K cI "rename" = some (some (.ref f28)))
    (QcI_spread : PySem.W.nsIn K cI "spread" = some (some (.ref f28)))
    (QcI_cut : PySem.W.nsIn K cI "cut" = some (some (.ref f28)))
    (QcI_pad : PySem.W.nsIn K cI "pad" = some (some (.ref f29)))
    (QcI_join : PySem.W.nsIn K cI "join" = some (some (.ref f30)))
    (QcI_window : PySem.W.nsIn K cI "window" = some (some (.ref f28)))
    (QcI_fold : PySem.W.nsIn K cI "fold" = some (some (.ref f31)))
    (QcI_gather : PySem.W.nsIn K cI "gather" = some (some (.ref f28)))
    (QcM_add : PySem.W.nsIn K cM "add" = some (some (.ref f2)))
    (QcM_max : PySem.W.nsIn K cM "max" = some (some (.ref f3)))
    (QcM_min : PySem.W.nsIn K cM "min" = some (some (.ref f4)))
    (QcM_clamp : PySem.W.nsIn K cM "clamp" = some (some (.ref f5)))
    (QcM_shift : PySem.W.nsIn K cM "shift" = some (some (.ref f6)))
    (z_abs : PySem.W.nsIn K mainGlobals "abs" = some none)
    (z_all : PySem.W.nsIn K mainGlobals "all" = some none)
    (z_bool : PySem.W.nsIn K mainGlobals "bool" = some none)
    (z_dict : PySem.W.nsIn K mainGlobals "dict" = some none)
    (z_enumerate : PySem.W.nsIn K mainGlobals "enumerate" = some none)
    (z_int : PySem.W.nsIn K mainGlobals "int" = some none)
    (z_isinstance : PySem.W.nsIn K mainGlobals "isinstance" = some none)
    (z_len : PySem.W.nsIn K mainGlobals "len" = some none)
    (z_list : PySem.W.nsIn K mainGlobals "list" = some none)
    (z_max : PySem.W.nsIn K mainGlobals "max" = some none)
    (z_min : PySem.W.nsIn K mainGlobals "min" = some none)
    (z_range : PySem.W.nsIn K mainGlobals "range" = some none)
    (z_reversed : PySem.W.nsIn K mainGlobals "reversed" = some none)
    (z_set : PySem.W.nsIn K mainGlobals "set" = some none)
    (z_sorted : PySem.W.nsIn K mainGlobals "sorted" = some none)
    (z_tuple : PySem.W.nsIn K mainGlobals "tuple" = some none)
    (z_zip : PySem.W.nsIn K mainGlobals "zip" = some none)
    : ∃ fd : FuncData, (∀ (s : Shared) (v : Value), BindsTo s fd ⟨[v], []⟩ [("script", v)]) ∧ ∀ base : Heap, K.In base → base.Ns mainGlobals mg → FnOk l.prog w K mg base CX0 9 fa fd ["script"] (spLaw K) := by
  have e := hfa.symm.trans (PySem.W.mg_of X G a77)
  cases e
  have F1 := fun_mk (st := sLimit) l1 c1 k1
  have m1 := PySem.W.mg_of X G a1
  have b1 := F1.binds (ps := ["n", "low", "high"]) fun _ _ _ _ _ _ us hl => match us, hl with | [_, _, _], _ => rfl
  have F2 := fun_mk (st := sAdd) l2 c2 k2
  have m2 := PySem.W.mg_of X G a2
  have b2 := F2.binds (ps := ["values", "info"]) fun _ _ _ _ _ _ us hl => match us, hl with | [_, _], _ => rfl
  have F3 := fun_mk (st := sMax) l3 c3 k3
  have m3 := PySem.W.mg_of X G a3
  have b3 := F3.binds (ps := ["values", "info"]) fun _ _ _ _ _ _ us hl => match us, hl with | [_, _], _ => rfl
  have F4 := fun_mk (st := sMin) l4 c4 k4
  have m4 := PySem.W.mg_of X G a4
  have b4 := F4.binds (ps := ["values", "info"]) fun _ _ _ _ _ _ us hl => match us, hl with | [_, _], _ => rfl
  have F5 := fun_mk (st := sClamp) l5 c5 k5
  have m5 := PySem.W.mg_of X G a5
  have b5 := F5.binds (ps := ["values", "info"]) fun _ _ _ _ _ _ us hl => match us, hl with | [_, _], _ => rfl
  have F6 := fun_mk (st := sShift) l6 c6 k6
  have m6 := PySem.W.mg_of X G a6
  have b6 := F6.binds (ps := ["values", "info"]) fun _ _ _ _ _ _ us hl => match us, hl with | [_, _], _ => rfl
  have F7 := fun_mk (st := sPw) l7 c7 k7
  have m7 := PySem.W.mg_of X G a7
  have b7 := F7.binds (ps := ["kind", "values", "info"]) fun _ _ _ _ _ _ us hl => match us, hl with | [_, _, _], _ => rfl
  have F8 := fun_mk (st := sCheck) l8 c8 k8
  have m8 := PySem.W.mg_of X G a8
  have b8 := F8.binds (ps := ["shape"]) fun _ _ _ _ _ _ us hl => match us, hl with | [_], _ => rfl
  have F9 := fun_mk (st := sCountOf) l9 c9 k9
  have m9 := PySem.W.mg_of X G a9
  have b9 := F9.binds (ps := ["shape"]) fun _ _ _ _ _ _ us hl => match us, hl with | [_], _ => rfl
  have F10 := fun_mk (st := sLettersOf) l10 c10 k10
  have m10 := PySem.W.mg_of X G a10
  have b10 := F10.binds (ps := ["shape"]) fun _ _ _ _ _ _ us hl => match us, hl with | [_], _ => rfl
  have F11 := fun_mk (st := sMerged) l11 c11 k11
  have m11 := PySem.W.mg_of X G a11
  have b11 := F11.binds (ps := ["first", "second"]) fun _ _ _ _ _ _ us hl => match us, hl with | [_, _], _ => rfl
  have F12 := fun_mk (st := sBroad) l12 c12 k12
  have m12 := PySem.W.mg_of X G a12
  have b12 := F12.binds (ps := ["first", "second"]) fun _ _ _ _ _ _ us hl => match us, hl with | [_, _], _ => rfl
  have F13 := fun_mk (st := sreplaced) l13 c13 k13
  have m13 := PySem.W.mg_of X G a13
  have b13 := F13.binds (ps := ["shape", "axis", "axes"]) fun _ _ _ _ _ _ us hl => match us, hl with | [_, _, _], _ => rfl
  have F14 := fun_mk (st := scorners) l14 c14 k14
  have m14 := PySem.W.mg_of X G a14
  have b14 := F14.binds (ps := ["one", "other"]) fun _ _ _ _ _ _ us hl => match us, hl with | [_, _], _ => rfl
  have F15 := fun_mk (st := sinterval_of) l15 c15 k15
  have m15 := PySem.W.mg_of X G a15
  have b15 := F15.binds (ps := ["kind", "info", "given"]) fun _ _ _ _ _ _ us hl => match us, hl with | [_, _, _], _ => rfl
  have F16 := fun_mk (st := s_ends) l16 c16 k16
  have m16 := PySem.W.mg_of X G a16
  have b16 := F16.binds (ps := ["domain"]) fun _ _ _ _ _ _ us hl => match us, hl with | [_], _ => rfl
  have F17 := fun_mk (st := s_size) l17 c17 k17
  have m17 := PySem.W.mg_of X G a17
  have b17 := F17.binds (ps := ["domain", "axis"]) fun _ _ _ _ _ _ us hl => match us, hl with | [_, _], _ => rfl
  have F18 := fun_mk (st := s_input_interval) l18 c18 k18
  have m18 := PySem.W.mg_of X G a18
  have b18 := F18.binds (ps := ["kind", "info", "given"]) fun _ _ _ _ _ _ us hl => match us, hl with | [_, _, _], _ => rfl
  have F19 := fun_mk (st := s_const_interval) l19 c19 k19
  have m19 := PySem.W.mg_of X G a19
  have b19 := F19.binds (ps := ["kind", "info", "given"]) fun _ _ _ _ _ _ us hl => match us, hl with | [_, _, _], _ => rfl
  have F20 := fun_mk (st := s_rising_interval) l20 c20 k20
  have m20 := PySem.W.mg_of X G a20
  have b20 := F20.binds (ps := ["kind", "info", "given"]) fun _ _ _ _ _ _ us hl => match us, hl with | [_, _, _], _ => rfl
  have F21 := fun_mk (st := s_sub_interval) l21 c21 k21
  have m21 := PySem.W.mg_of X G a21
  have b21 := F21.binds (ps := ["kind", "info", "given"]) fun _ _ _ _ _ _ us hl => match us, hl with | [_, _, _], _ => rfl
  have F22 := fun_mk (st := s_mul_interval) l22 c22 k22
  have m22 := PySem.W.mg_of X G a22
  have b22 := F22.binds (ps := ["kind", "info", "given"]) fun _ _ _ _ _ _ us hl => match us, hl with | [_, _, _], _ => rfl
  have F23 := fun_mk (st := s_truth_interval) l23 c23 k23
  have m23 := PySem.W.mg_of X G a23
  have b23 := F23.binds (ps := ["kind", "info", "given"]) fun _ _ _ _ _ _ us hl => match us, hl with | [_, _, _], _ => rfl
  have F24 := fun_mk (st := s_neg_interval) l24 c24 k24
  have m24 := PySem.W.mg_of X G a24
  have b24 := F24.binds (ps := ["kind", "info", "given"]) fun _ _ _ _ _ _ us hl => match us, hl with | [_, _, _], _ => rfl
  have F25 := fun_mk (st := s_where_interval) l25 c25 k25
  have m25 := PySem.W.mg_of X G a25
  have b25 := F25.binds (ps := ["kind", "info", "given"]) fun _ _ _ _ _ _ us hl => match us, hl with | [_, _, _], _ => rfl
  have F26 := fun_mk (st := s_sum_interval) l26 c26 k26
  have m26 := PySem.W.mg_of X G a26
  have b26 := F26.binds (ps := ["kind", "info", "given"]) fun _ _ _ _ _ _ us hl => match us, hl with | [_, _, _], _ => rfl
  have F27 := fun_mk (st := s_dot_interval) l27 c27 k27
  have m27 := PySem.W.mg_of X G a27
  have b27 := F27.binds (ps := ["kind", "info", "given"]) fun _ _ _ _ _ _ us hl => match us, hl with | [_, _, _], _ => rfl
  have F28 := fun_mk (st := s_same_interval) l28 c28 k28
  have m28 := PySem.W.mg_of X G a28
  have b28 := F28.binds (ps := ["kind", "info", "given"]) fun _ _ _ _ _ _ us hl => match us, hl with | [_, _, _], _ => rfl
  have F29 := fun_mk (st := s_pad_interval) l29 c29 k29
  have m29 := PySem.W.mg_of X G a29
  have b29 := F29.binds (ps := ["kind", "info", "given"]) fun _ _ _ _ _ _ us hl => match us, hl with | [_, _, _], _ => rfl
  have F30 := fun_mk (st := s_join_interval) l30 c30 k30
  have m30 := PySem.W.mg_of X G a30
  have b30 := F30.binds (ps := ["kind", "info", "given"]) fun _ _ _ _ _ _ us hl => match us, hl with | [_, _, _], _ => rfl
  have F31 := fun_mk (st := s_fold_interval) l31 c31 k31
  have m31 := PySem.W.mg_of X G a31
  have b31 := F31.binds (ps := ["kind", "info", "given"]) fun _ _ _ _ _ _ us hl => match us, hl with | [_, _, _], _ => rfl
  have F32 := fun_mk (st := sshape_of_result) l32 c32 k32
  have m32 := PySem.W.mg_of X G a32
  have b32 := F32.binds (ps := ["kind", "info", "shapes"]) fun _ _ _ _ _ _ us hl => match us, hl with | [_, _, _], _ => rfl
  have F33 := fun_mk (st := ssize_along) l33 c33 k33
  have m33 := PySem.W.mg_of X G a33
  have b33 := F33.binds (ps := ["shape", "axis"]) fun _ _ _ _ _ _ us hl => match us, hl with | [_, _], _ => rfl
  have F34 := fun_mk (st := s_check_free) l34 c34 k34
  have m34 := PySem.W.mg_of X G a34
  have b34 := F34.binds (ps := ["shape", "letter"]) fun _ _ _ _ _ _ us hl => match us, hl with | [_, _], _ => rfl
  have F35 := fun_mk (st := s_broadcast_shape) l35 c35 k35
  have m35 := PySem.W.mg_of X G a35
  have b35 := F35.binds (ps := ["info", "shapes"]) fun _ _ _ _ _ _ us hl => match us, hl with | [_, _], _ => rfl
  have F36 := fun_mk (st := s_own_shape) l36 c36 k36
  have m36 := PySem.W.mg_of X G a36
  have b36 := F36.binds (ps := ["info", "shapes"]) fun _ _ _ _ _ _ us hl => match us, hl with | [_, _], _ => rfl
  have F37 := fun_mk (st := s_reduced_shape) l37 c37 k37
  have m37 := PySem.W.mg_of X G a37
  have b37 := F37.binds (ps := ["info", "shapes"]) fun _ _ _ _ _ _ us hl => match us, hl with | [_, _], _ => rfl
  have F38 := fun_mk (st := s_dot_shape) l38 c38 k38
  have m38 := PySem.W.mg_of X G a38
  have b38 := F38.binds (ps := ["info", "shapes"]) fun _ _ _ _ _ _ us hl => match us, hl with | [_, _], _ => rfl
  have F39 := fun_mk (st := s_order_shape) l39 c39 k39
  have m39 := PySem.W.mg_of X G a39
  have b39 := F39.binds (ps := ["info", "shapes"]) fun _ _ _ _ _ _ us hl => match us, hl with | [_, _], _ => rfl
  have F40 := fun_mk (st := s_rename_shape) l40 c40 k40
  have m40 := PySem.W.mg_of X G a40
  have b40 := F40.binds (ps := ["info", "shapes"]) fun _ _ _ _ _ _ us hl => match us, hl with | [_, _], _ => rfl
  have F41 := fun_mk (st := s_spread_shape) l41 c41 k41
  have m41 := PySem.W.mg_of X G a41
  have b41 := F41.binds (ps := ["info", "shapes"]) fun _ _ _ _ _ _ us hl => match us, hl with | [_, _], _ => rfl
  have F42 := fun_mk (st := s_cut_shape) l42 c42 k42
  have m42 := PySem.W.mg_of X G a42
  have b42 := F42.binds (ps := ["info", "shapes"]) fun _ _ _ _ _ _ us hl => match us, hl with | [_, _], _ => rfl
  have F43 := fun_mk (st := s_pad_shape) l43 c43 k43
  have m43 := PySem.W.mg_of X G a43
  have b43 := F43.binds (ps := ["info", "shapes"]) fun _ _ _ _ _ _ us hl => match us, hl with | [_, _], _ => rfl
  have F44 := fun_mk (st := s_join_shape) l44 c44 k44
  have m44 := PySem.W.mg_of X G a44
  have b44 := F44.binds (ps := ["info", "shapes"]) fun _ _ _ _ _ _ us hl => match us, hl with | [_, _], _ => rfl
  have F45 := fun_mk (st := s_window_shape) l45 c45 k45
  have m45 := PySem.W.mg_of X G a45
  have b45 := F45.binds (ps := ["info", "shapes"]) fun _ _ _ _ _ _ us hl => match us, hl with | [_, _], _ => rfl
  have F46 := fun_mk (st := s_fold_shape) l46 c46 k46
  have m46 := PySem.W.mg_of X G a46
  have b46 := F46.binds (ps := ["info", "shapes"]) fun _ _ _ _ _ _ us hl => match us, hl with | [_, _], _ => rfl
  have F47 := fun_mk (st := s_gather_shape) l47 c47 k47
  have m47 := PySem.W.mg_of X G a47
  have b47 := F47.binds (ps := ["info", "shapes"]) fun _ _ _ _ _ _ us hl => match us, hl with | [_, _], _ => rfl
  have F48 := fun_mk (st := sdomain_of) l48 c48 k48
  have m48 := PySem.W.mg_of X G a48
  have b48 := F48.binds (ps := ["node", "domains"]) fun _ _ _ _ _ _ us hl => match us, hl with | [_, _], _ => rfl
  have F49 := fun_mk (st := s_check_form) l49 c49 k49
  have m49 := PySem.W.mg_of X G a49
  have b49 := F49.binds (ps := ["kind", "args", "info", "many"]) fun _ _ _ _ _ _ us hl => match us, hl with | [_, _, _, _], _ => rfl
  have F50 := fun_mk (st := s_check_fields) l50 c50 k50
  have m50 := PySem.W.mg_of X G a50
  have b50 := F50.binds (ps := ["kind", "info"]) fun _ _ _ _ _ _ us hl => match us, hl with | [_, _], _ => rfl
  have F51 := fun_mk (st := s_check_clamp) l51 c51 k51
  have m51 := PySem.W.mg_of X G a51
  have b51 := F51.binds (ps := ["low", "high"]) fun _ _ _ _ _ _ us hl => match us, hl with | [_, _], _ => rfl
  have F52 := fun_mk (st := scheck_graph) l52 c52 k52
  have m52 := PySem.W.mg_of X G a52
  have b52 := F52.binds (ps := ["graph"]) fun _ _ _ _ _ _ us hl => match us, hl with | [_], _ => rfl
  have F53 := fun_mk (st := stotal_work) l53 c53 k53
  have m53 := PySem.W.mg_of X G a53
  have b53 := F53.binds (ps := ["nodes", "domains"]) fun _ _ _ _ _ _ us hl => match us, hl with | [_, _], _ => rfl
  have F54 := fun_mk (st := swork_of_node) l54 c54 k54
  have m54 := PySem.W.mg_of X G a54
  have b54 := F54.binds (ps := ["node", "domain", "domains"]) fun _ _ _ _ _ _ us hl => match us, hl with | [_, _, _], _ => rfl
  have F55 := fun_mk (st := sshare) l55 c55 k55
  have m55 := PySem.W.mg_of X G a55
  have b55 := F55.binds (ps := ["graph"]) fun _ _ _ _ _ _ us hl => match us, hl with | [_], _ => rfl
  have F56 := fun_mk (st := s_moved) l56 c56 k56
  have m56 := PySem.W.mg_of X G a56
  have b56 := F56.binds (ps := ["node", "places"]) fun _ _ _ _ _ _ us hl => match us, hl with | [_, _], _ => rfl
  have F57 := fun_mk (st := sBegin) l57 c57 k57
  have m57 := PySem.W.mg_of X G a57
  have b57 := F57.binds (ps := ["script"]) fun _ _ _ _ _ _ us hl => match us, hl with | [_], _ => rfl
  have F58 := fun_mk (st := sTake) l58 c58 k58
  have m58 := PySem.W.mg_of X G a58
  have b58 := F58.binds (ps := ["d", "many"]) fun _ _ _ _ _ _ us hl => match us, hl with | [_, _], _ => rfl
  have F59 := fun_mk (st := sSigned) l59 c59 k59
  have m59 := PySem.W.mg_of X G a59
  have b59 := F59.binds (ps := ["d", "most"]) fun _ _ _ _ _ _ us hl => match us, hl with | [_, _], _ => rfl
  have F60 := fun_mk (st := sCount) l60 c60 k60
  have m60 := PySem.W.mg_of X G a60
  have b60 := F60.binds (ps := ["shape"]) fun _ _ _ _ _ _ us hl => match us, hl with | [_], _ => rfl
  have F61 := fun_mk (st := sSize) l61 c61 k61
  have m61 := PySem.W.mg_of X G a61
  have b61 := F61.binds (ps := ["shape", "letter"]) fun _ _ _ _ _ _ us hl => match us, hl with | [_, _], _ => rfl
  have F62 := fun_mk (st := sNames) l62 c62 k62
  have m62 := PySem.W.mg_of X G a62
  have b62 := F62.binds (ps := ["shape"]) fun _ _ _ _ _ _ us hl => match us, hl with | [_], _ => rfl
  have F63 := fun_mk (st := sCast) l63 c63 k63
  have m63 := PySem.W.mg_of X G a63
  have b63 := F63.binds (ps := ["a", "b"]) fun _ _ _ _ _ _ us hl => match us, hl with | [_, _], _ => rfl
  have F64 := fun_mk (st := s_law_limit) l64 c64 k64
  have m64 := PySem.W.mg_of X G a64
  have b64 := F64.binds (ps := ["n", "low", "high"]) fun _ _ _ _ _ _ us hl => match us, hl with | [_, _, _], _ => rfl
  have F65 := fun_mk (st := s_law_point) l65 c65 k65
  have m65 := PySem.W.mg_of X G a65
  have b65 := F65.binds (ps := ["kind", "v", "info"]) fun _ _ _ _ _ _ us hl => match us, hl with | [_, _, _], _ => rfl
  have F66 := fun_mk (st := s_law_new_axes) l66 c66 k66
  have m66 := PySem.W.mg_of X G a66
  have b66 := F66.binds (ps := ["kind", "a", "other", "info", "n"]) fun _ _ _ _ _ _ us hl => match us, hl with | [_, _, _, _, _], _ => rfl
  have F67 := fun_mk (st := s_law_moved_shape) l67 c67 k67
  have m67 := PySem.W.mg_of X G a67
  have b67 := F67.binds (ps := ["kind", "a", "other", "info"]) fun _ _ _ _ _ _ us hl => match us, hl with | [_, _, _, _], _ => rfl
  have F68 := fun_mk (st := s_law_corners) l68 c68 k68
  have m68 := PySem.W.mg_of X G a68
  have b68 := F68.binds (ps := ["one", "two"]) fun _ _ _ _ _ _ us hl => match us, hl with | [_, _], _ => rfl
  have F69 := fun_mk (st := s_law_span) l69 c69 k69
  have m69 := PySem.W.mg_of X G a69
  have b69 := F69.binds (ps := ["kind", "info", "shapes", "spans"]) fun _ _ _ _ _ _ us hl => match us, hl with | [_, _, _, _], _ => rfl
  have F70 := fun_mk (st := s_law_domain) l70 c70 k70
  have m70 := PySem.W.mg_of X G a70
  have b70 := F70.binds (ps := ["node", "doms"]) fun _ _ _ _ _ _ us hl => match us, hl with | [_, _], _ => rfl
  have F71 := fun_mk (st := s_law_kinds) l71 c71 k71
  have m71 := PySem.W.mg_of X G a71
  have b71 := F71.binds (ps := ["d"]) fun _ _ _ _ _ _ us hl => match us, hl with | [_], _ => rfl
  have F72 := fun_mk (st := s_law_letters) l72 c72 k72
  have m72 := PySem.W.mg_of X G a72
  have b72 := F72.binds (ps := ["d", "names", "many"]) fun _ _ _ _ _ _ us hl => match us, hl with | [_, _, _], _ => rfl
  have F73 := fun_mk (st := s_law_info) l73 c73 k73
  have m73 := PySem.W.mg_of X G a73
  have b73 := F73.binds (ps := ["d", "kind", "shape", "other"]) fun _ _ _ _ _ _ us hl => match us, hl with | [_, _, _, _], _ => rfl
  have F74 := fun_mk (st := s_law_given) l74 c74 k74
  have m74 := PySem.W.mg_of X G a74
  have b74 := F74.binds (ps := ["d", "sizes", "reach", "const"]) fun _ _ _ _ _ _ us hl => match us, hl with | [_, _, _, _], _ => rfl
  have F75 := fun_mk (st := s_law_node) l75 c75 k75
  have m75 := PySem.W.mg_of X G a75
  have b75 := F75.binds (ps := ["d", "kind", "doms", "sizes", "reach"]) fun _ _ _ _ _ _ us hl => match us, hl with | [_, _, _, _, _], _ => rfl
  have F76 := fun_mk (st := s_law_graph) l76 c76 k76
  have m76 := PySem.W.mg_of X G a76
  have b76 := F76.binds (ps := ["d", "many", "kinds", "reach", "cap", "bits"]) fun _ _ _ _ _ _ us hl => match us, hl with | [_, _, _, _, _, _], _ => rfl
  have F77 := fun_mk (st := slaw) l77 c77 k77
  have m77 := PySem.W.mg_of X G a77
  have n_abs := PySem.W.mg_none_of X G z_abs
  have n_all := PySem.W.mg_none_of X G z_all
  have n_bool := PySem.W.mg_none_of X G z_bool
  have n_dict := PySem.W.mg_none_of X G z_dict
  have n_enumerate := PySem.W.mg_none_of X G z_enumerate
  have n_int := PySem.W.mg_none_of X G z_int
  have n_isinstance := PySem.W.mg_none_of X G z_isinstance
  have n_len := PySem.W.mg_none_of X G z_len
  have n_list := PySem.W.mg_none_of X G z_list
  have n_max := PySem.W.mg_none_of X G z_max
  have n_min := PySem.W.mg_none_of X G z_min
  have n_range := PySem.W.mg_none_of X G z_range
  have n_reversed := PySem.W.mg_none_of X G z_reversed
  have n_set := PySem.W.mg_none_of X G z_set
  have n_sorted := PySem.W.mg_none_of X G z_sorted
  have n_tuple := PySem.W.mg_none_of X G z_tuple
  have n_zip := PySem.W.mg_none_of X G z_zip
  have TD : TxtD mg := ⟨n_int, n_abs, n_len, n_list⟩
  have TG : TxtG mg := ⟨TD, n_tuple, n_all, n_min, n_max, n_range, n_isinstance, n_bool⟩
  have TC : TxtC mg := ⟨n_len, n_tuple, n_zip⟩
  have TP : TxtP mg := ⟨TC, n_range, n_reversed, n_enumerate⟩
  have TL : TxtL mg := ⟨TC, n_range⟩
  have e1 : ErrR K mg "RankError" ((CC7 z1 z2 z3 z4 z5 z6 z7) 1) := ⟨PySem.W.mg_of X G aEz1, xz1, kEz1, bEz1, tEz1⟩
  have e2 : ErrR K mg "AxisError" ((CC7 z1 z2 z3 z4 z5 z6 z7) 2) := ⟨PySem.W.mg_of X G aEz2, xz2, kEz2, bEz2, tEz2⟩
  have e3 : ErrR K mg "RangeError" ((CC7 z1 z2 z3 z4 z5 z6 z7) 3) := ⟨PySem.W.mg_of X G aEz3, xz3, kEz3, bEz3, tEz3⟩
  have e4 : ErrR K mg "TooLarge" ((CC7 z1 z2 z3 z4 z5 z6 z7) 4) := ⟨PySem.W.mg_of X G aEz4, xz4, kEz4, bEz4, tEz4⟩
  have e5 : ErrR K mg "KindError" ((CC7 z1 z2 z3 z4 z5 z6 z7) 5) := ⟨PySem.W.mg_of X G aEz5, xz5, kEz5, bEz5, tEz5⟩
  have e6 : ErrR K mg "FormError" ((CC7 z1 z2 z3 z4 z5 z6 z7) 6) := ⟨PySem.W.mg_of X G aEz6, xz6, kEz6, bEz6, tEz6⟩
  have e7 : ErrR K mg "TooWide" ((CC7 z1 z2 z3 z4 z5 z6 z7) 7) := ⟨PySem.W.mg_of X G aEz7, xz7, kEz7, bEz7, tEz7⟩
  have kdF : KDict K w cF escF ncF := ⟨lcF, qcF, ycF⟩
  have kdR : KDict K w cR escR ncR := ⟨lcR, qcR, ycR⟩
  have kn_input : Kn K w cA cF "input" 0 ["shape", "low", "high"] := ⟨⟨escA, ncA, _, lcA, qcA, qAu1, _, rfl⟩, ⟨u1, ⟨escF, ncF, _, lcF, qcF, qFu1, rfl⟩, fun H => .inr ⟨_, itu1, nbu1, ltu1, rfl, rfl, ztu1, vtu1⟩⟩, ⟨_, qFu1⟩⟩
  have kn_const : Kn K w cA cF "const" 0 ["shape", "data"] := ⟨⟨escA, ncA, _, lcA, qcA, qAu2, _, rfl⟩, ⟨u2, ⟨escF, ncF, _, lcF, qcF, qFu2, rfl⟩, fun H => .inr ⟨_, itu2, nbu2, ltu2, rfl, rfl, ztu2, vtu2⟩⟩, ⟨_, qFu2⟩⟩
  have kn_add : Kn K w cA cF "add" 2 [] := ⟨⟨escA, ncA, _, lcA, qcA, qAu3, _, rfl⟩, ⟨u3, ⟨escF, ncF, _, lcF, qcF, qFu3, rfl⟩, fun H => .inr ⟨_, itu3, nbu3, ltu3, rfl, rfl, ztu3, vtu3⟩⟩, ⟨_, qFu3⟩⟩
  have kn_sub : Kn K w cA cF "sub" 2 [] := ⟨⟨escA, ncA, _, lcA, qcA, qAu4, _, rfl⟩, ⟨u4, ⟨escF, ncF, _, lcF, qcF, qFu4, rfl⟩, fun H => .inr ⟨_, itu4, nbu4, ltu4, rfl, rfl, ztu4, vtu4⟩⟩, ⟨_, qFu4⟩⟩
  have kn_mul : Kn K w cA cF "mul" 2 [] := ⟨⟨escA, ncA, _, lcA, qcA, qAu5, _, rfl⟩, ⟨u5, ⟨escF, ncF, _, lcF, qcF, qFu5, rfl⟩, fun H => .inr ⟨_, itu5, nbu5, ltu5, rfl, rfl, ztu5, vtu5⟩⟩, ⟨_, qFu5⟩⟩
  have kn_max : Kn K w cA cF "max" 2 [] := ⟨⟨escA, ncA, _, lcA, qcA, qAu6, _, rfl⟩, ⟨u6, ⟨escF, ncF, _, lcF, qcF, qFu6, rfl⟩, fun H => .inr ⟨_, itu6, nbu6, ltu6, rfl, rfl, ztu6, vtu6⟩⟩, ⟨_, qFu6⟩⟩
  have kn_min : Kn K w cA cF "min" 2 [] := ⟨⟨escA, ncA, _, lcA, qcA, qAu7, _, rfl⟩, ⟨u7, ⟨escF, ncF, _, lcF, qcF, qFu7, rfl⟩, fun H => .inr ⟨_, itu7, nbu7, ltu7, rfl, rfl, ztu7, vtu7⟩⟩, ⟨_, qFu7⟩⟩
  have kn_less : Kn K w cA cF "less" 2 [] := ⟨⟨escA, ncA, _, lcA, qcA, qAu8, _, rfl⟩, ⟨u8, ⟨escF, ncF, _, lcF, qcF, qFu8, rfl⟩, fun H => .inr ⟨_, itu8, nbu8, ltu8, rfl, rfl, ztu8, vtu8⟩⟩, ⟨_, qFu8⟩⟩
  have kn_equal : Kn K w cA cF "equal" 2 [] := ⟨⟨escA, ncA, _, lcA, qcA, qAu9, _, rfl⟩, ⟨u9, ⟨escF, ncF, _, lcF, qcF, qFu9, rfl⟩, fun H => .inr ⟨_, itu9, nbu9, ltu9, rfl, rfl, ztu9, vtu9⟩⟩, ⟨_, qFu9⟩⟩
  have kn_neg : Kn K w cA cF "neg" 1 [] := ⟨⟨escA, ncA, _, lcA, qcA, qAu10, _, rfl⟩, ⟨u10, ⟨escF, ncF, _, lcF, qcF, qFu10, rfl⟩, fun H => .inr ⟨_, itu10, nbu10, ltu10, rfl, rfl, ztu10, vtu10⟩⟩, ⟨_, qFu10⟩⟩
  have kn_clamp : Kn K w cA cF "clamp" 1 ["low", "high"] := ⟨⟨escA, ncA, _, lcA, qcA, qAu11, _, rfl⟩, ⟨u11, ⟨escF, ncF, _, lcF, qcF, qFu11, rfl⟩, fun H => .inr ⟨_, itu11, nbu11, ltu11, rfl, rfl, ztu11, vtu11⟩⟩, ⟨_, qFu11⟩⟩
  have kn_shift : Kn K w cA cF "shift" 1 ["n"] := ⟨⟨escA, ncA, _, lcA, qcA, qAu12, _, rfl⟩, ⟨u12, ⟨escF, ncF, _, lcF, qcF, qFu12, rfl⟩, fun H => .inr ⟨_, itu12, nbu12, ltu12, rfl, rfl, ztu12, vtu12⟩⟩, ⟨_, qFu12⟩⟩
  have kn_where : Kn K w cA cF "where" 3 [] := ⟨⟨escA, ncA, _, lcA, qcA, qAu13, _, rfl⟩, ⟨u13, ⟨escF, ncF, _, lcF, qcF, qFu13, rfl⟩, fun H => .inr ⟨_, itu13, nbu13, ltu13, rfl, rfl, ztu13, vtu13⟩⟩, ⟨_, qFu13⟩⟩
  have kn_sum : Kn K w cA cF "sum" 1 ["axis"] := ⟨⟨escA, ncA, _, lcA, qcA, qAu14, _, rfl⟩, ⟨u14, ⟨escF, ncF, _, lcF, qcF, qFu14, rfl⟩, fun H => .inr ⟨_, itu14, nbu14, ltu14, rfl, rfl, ztu14, vtu14⟩⟩, ⟨_, qFu14⟩⟩
  have kn_peak : Kn K w cA cF "peak" 1 ["axis"] := ⟨⟨escA, ncA, _, lcA, qcA, qAu15, _, rfl⟩, ⟨u15, ⟨escF, ncF, _, lcF, qcF, qFu15, rfl⟩, fun H => .inr ⟨_, itu15, nbu15, ltu15, rfl, rfl, ztu15, vtu15⟩⟩, ⟨_, qFu15⟩⟩
  have kn_dot : Kn K w cA cF "dot" 2 ["axis"] := ⟨⟨escA, ncA, _, lcA, qcA, qAu16, _, rfl⟩, ⟨u16, ⟨escF, ncF, _, lcF, qcF, qFu16, rfl⟩, fun H => .inr ⟨_, itu16, nbu16, ltu16, rfl, rfl, ztu16, vtu16⟩⟩, ⟨_, qFu16⟩⟩
  have kn_order : Kn K w cA cF "order" 1 ["letters"] := ⟨⟨escA, ncA, _, lcA, qcA, qAu17, _, rfl⟩, ⟨u17, ⟨escF, ncF, _, lcF, qcF, qFu17, rfl⟩, fun H => .inr ⟨_, itu17, nbu17, ltu17, rfl, rfl, ztu17, vtu17⟩⟩, ⟨_, qFu17⟩⟩
  have kn_rename : Kn K w cA cF "rename" 1 ["axis", "new"] := ⟨⟨escA, ncA, _, lcA, qcA, qAu18, _, rfl⟩, ⟨u18, ⟨escF, ncF, _, lcF, qcF, qFu18, rfl⟩, fun H => .inr ⟨_, itu18, nbu18, ltu18, rfl, rfl, ztu18, vtu18⟩⟩, ⟨_, qFu18⟩⟩
  have kn_spread : Kn K w cA cF "spread" 1 ["axis", "size"] := ⟨⟨escA, ncA, _, lcA, qcA, qAu19, _, rfl⟩, ⟨u19, ⟨escF, ncF, _, lcF, qcF, qFu19, rfl⟩, fun H => .inr ⟨_, itu19, nbu19, ltu19, rfl, rfl, ztu19, vtu19⟩⟩, ⟨_, qFu19⟩⟩
  have kn_cut : Kn K w cA cF "cut" 1 ["axis", "start", "count"] := ⟨⟨escA, ncA, _, lcA, qcA, qAu20, _, rfl⟩, ⟨u20, ⟨escF, ncF, _, lcF, qcF, qFu20, rfl⟩, fun H => .inr ⟨_, itu20, nbu20, ltu20, rfl, rfl, ztu20, vtu20⟩⟩, ⟨_, qFu20⟩⟩
  have kn_pad : Kn K w cA cF "pad" 1 ["axis", "before", "after"] := ⟨⟨escA, ncA, _, lcA, qcA, qAu21, _, rfl⟩, ⟨u21, ⟨escF, ncF, _, lcF, qcF, qFu21, rfl⟩, fun H => .inr ⟨_, itu21, nbu21, ltu21, rfl, rfl, ztu21, vtu21⟩⟩, ⟨_, qFu21⟩⟩
  have kn_join : Kn K w cA cF "join" 2 ["axis"] := ⟨⟨escA, ncA, _, lcA, qcA, qAu22, _, rfl⟩, ⟨u22, ⟨escF, ncF, _, lcF, qcF, qFu22, rfl⟩, fun H => .inr ⟨_, itu22, nbu22, ltu22, rfl, rfl, ztu22, vtu22⟩⟩, ⟨_, qFu22⟩⟩
  have kn_window : Kn K w cA cF "window" 1 ["axis", "new", "width", "stride"] := ⟨⟨escA, ncA, _, lcA, qcA, qAu23, _, rfl⟩, ⟨u23, ⟨escF, ncF, _, lcF, qcF, qFu23, rfl⟩, fun H => .inr ⟨_, itu23, nbu23, ltu23, rfl, rfl, ztu23, vtu23⟩⟩, ⟨_, qFu23⟩⟩
  have kn_fold : Kn K w cA cF "fold" 1 ["axis", "second", "stride", "size"] := ⟨⟨escA, ncA, _, lcA, qcA, qAu24, _, rfl⟩, ⟨u24, ⟨escF, ncF, _, lcF, qcF, qFu24, rfl⟩, fun H => .inr ⟨_, itu24, nbu24, ltu24, rfl, rfl, ztu24, vtu24⟩⟩, ⟨_, qFu24⟩⟩
  have kn_gather : Kn K w cA cF "gather" 2 ["axis"] := ⟨⟨escA, ncA, _, lcA, qcA, qAu25, _, rfl⟩, ⟨u25, ⟨escF, ncF, _, lcF, qcF, qFu25, rfl⟩, fun H => .inr ⟨_, itu25, nbu25, ltu25, rfl, rfl, ztu25, vtu25⟩⟩, ⟨_, qFu25⟩⟩
  have rg_shape : RgAt K w cR "shape" none := rN_shape
  have rg_low : RgAt K w cR "low" none := rN_low
  have rg_high : RgAt K w cR "high" none := rN_high
  have rg_data : RgAt K w cR "data" none := rN_data
  have rg_axis : RgAt K w cR "axis" none := rN_axis
  have rg_letters : RgAt K w cR "letters" none := rN_letters
  have rg_new : RgAt K w cR "new" none := rN_new
  have rg_second : RgAt K w cR "second" none := rN_second
  have rg_n : RgAt K w cR "n" (some (1, 30)) := ⟨by decide, by decide, by decide, by decide, v9, ⟨escR, ncR, _, lcR, qcR, rQ_n, rfl⟩, fun H => .inr ⟨_, itv9, nbv9, ltv9, rfl, rfl, ztv9, vtv9⟩, ⟨_, rQ_n⟩⟩
  have rg_size : RgAt K w cR "size" (some (1, 16)) := ⟨by decide, by decide, by decide, by decide, v10, ⟨escR, ncR, _, lcR, qcR, rQ_size, rfl⟩, fun H => .inr ⟨_, itv10, nbv10, ltv10, rfl, rfl, ztv10, vtv10⟩, ⟨_, rQ_size⟩⟩
  have rg_count : RgAt K w cR "count" (some (1, 16)) := ⟨by decide, by decide, by decide, by decide, v11, ⟨escR, ncR, _, lcR, qcR, rQ_count, rfl⟩, fun H => .inr ⟨_, itv11, nbv11, ltv11, rfl, rfl, ztv11, vtv11⟩, ⟨_, rQ_count⟩⟩
  have rg_width : RgAt K w cR "width" (some (1, 16)) := ⟨by decide, by decide, by decide, by decide, v12, ⟨escR, ncR, _, lcR, qcR, rQ_width, rfl⟩, fun H => .inr ⟨_, itv12, nbv12, ltv12, rfl, rfl, ztv12, vtv12⟩, ⟨_, rQ_width⟩⟩
  have rg_stride : RgAt K w cR "stride" (some (1, 16)) := ⟨by decide, by decide, by decide, by decide, v13, ⟨escR, ncR, _, lcR, qcR, rQ_stride, rfl⟩, fun H => .inr ⟨_, itv13, nbv13, ltv13, rfl, rfl, ztv13, vtv13⟩, ⟨_, rQ_stride⟩⟩
  have rg_start : RgAt K w cR "start" (some (0, 16)) := ⟨by decide, by decide, by decide, by decide, v14, ⟨escR, ncR, _, lcR, qcR, rQ_start, rfl⟩, fun H => .inr ⟨_, itv14, nbv14, ltv14, rfl, rfl, ztv14, vtv14⟩, ⟨_, rQ_start⟩⟩
  have rg_before : RgAt K w cR "before" (some (0, 16)) := ⟨by decide, by decide, by decide, by decide, v15, ⟨escR, ncR, _, lcR, qcR, rQ_before, rfl⟩, fun H => .inr ⟨_, itv15, nbv15, ltv15, rfl, rfl, ztv15, vtv15⟩, ⟨_, rQ_before⟩⟩
  have rg_after : RgAt K w cR "after" (some (0, 16)) := ⟨by decide, by decide, by decide, by decide, v16, ⟨escR, ncR, _, lcR, qcR, rQ_after, rfl⟩, fun H => .inr ⟨_, itv16, nbv16, ltv16, rfl, rfl, ztv16, vtv16⟩, ⟨_, rQ_after⟩⟩
  have FT : FormT w K cA cF cR := by
    refine ⟨fun r hr => ?_, fun r hr p hp => ?_⟩
    · unfold KT at hr
      simp only [List.mem_cons, List.not_mem_nil, or_false] at hr
      rcases hr with rfl | rfl | rfl | rfl | rfl | rfl | rfl | rfl | rfl | rfl | rfl | rfl | rfl | rfl | rfl | rfl | rfl | rfl | rfl | rfl | rfl | rfl | rfl | rfl | rfl
      · exact kn_input
      · exact kn_const
      · exact kn_add
      · exact kn_sub
      · exact kn_mul
      · exact kn_max
      · exact kn_min
      · exact kn_less
      · exact kn_equal
      · exact kn_neg
      · exact kn_clamp
      · exact kn_shift
      · exact kn_where
      · exact kn_sum
      · exact kn_peak
      · exact kn_dot
      · exact kn_order
      · exact kn_rename
      · exact kn_spread
      · exact kn_cut
      · exact kn_pad
      · exact kn_join
      · exact kn_window
      · exact kn_fold
      · exact kn_gather
    · obtain ⟨h1, h2⟩ := rows_all r hr p hp
      refine ⟨h2, ?_⟩
      unfold RowsAll at h1
      simp only [List.mem_cons, List.not_mem_nil, or_false] at h1
      rcases h1 with rfl | rfl | rfl | rfl | rfl | rfl | rfl | rfl | rfl | rfl | rfl | rfl | rfl | rfl | rfl | rfl
      · exact rg_shape
      · exact rg_low
      · exact rg_high
      · exact rg_data
      · exact rg_axis
      · exact rg_letters
      · exact rg_new
      · exact rg_second
      · exact rg_n
      · exact rg_size
      · exact rg_count
      · exact rg_width
      · exact rg_stride
      · exact rg_start
      · exact rg_before
      · exact rg_after
  refine ⟨PySem.W.fnOf "law" "law" (defArgs slaw) (defBody slaw) (defScope slaw) .none kV77 dc77 pm77 an77 cd77 ct77, fun s v => .of_eq rfl, fun base _ _ => ?_⟩
  have gcountOf := ok_countOf (P := l.prog) (w := w) (K := K) (mg := mg) (base := base) F9
  have glettersOf := ok_lettersOf (P := l.prog) (w := w) (K := K) (mg := mg) (base := base) F10
  have gcheck := ok_check (P := l.prog) (w := w) (K := K) (mg := mg) (base := base) (C := (CC7 z1 z2 z3 z4 z5 z6 z7)) F8 ⟨e1, e2, e3, e4, n_len, n_set, ⟨_, PySem.W.mg_of X G eRL, _, rfl⟩, ⟨_, PySem.W.mg_of X G eSL, _, rfl⟩, ⟨_, PySem.W.mg_of X G eCL, _, rfl⟩⟩ glettersOf k10 b10 m10 gcountOf k9 b9 m9
  have gbegin := ok_begin (P := l.prog) (w := w) (K := K) (mg := mg) (base := base) F57 TD
  have gtake := ok_take (P := l.prog) (w := w) (K := K) (mg := mg) (base := base) F58 TD
  have gsigned := ok_signed (P := l.prog) (w := w) (K := K) (mg := mg) (base := base) F59 gtake k58 b58 m58
  have gmerged := ok_merged (P := l.prog) (w := w) (K := K) (mg := mg) (base := base) (C := (CC7 z1 z2 z3 z4 z5 z6 z7)) F11 e2 n_dict n_tuple
  have gbroad := ok_broad (P := l.prog) (w := w) (K := K) (mg := mg) (base := base) (C := (CC7 z1 z2 z3 z4 z5 z6 z7)) F12 gmerged k11 b11 m11 gcheck k8 b8 m8
  have gcountT := ok_countT (P := l.prog) (w := w) (K := K) (mg := mg) (base := base) F60
  have gsizeT := ok_sizeT (P := l.prog) (w := w) (K := K) (mg := mg) (base := base) F61
  have gcountL := ok_countL (P := l.prog) (w := w) (K := K) (mg := mg) (base := base) F60
  have gcast := ok_cast (P := l.prog) (w := w) (K := K) (mg := mg) (base := base) F63 n_list n_tuple gsizeT k61 b61 m61
  have grepl := ok_repl (P := l.prog) (w := w) (K := K) (mg := mg) (base := base) F13 n_tuple
  have galong := ok_along (P := l.prog) (w := w) (K := K) (mg := mg) (base := base) (C := (CC7 z1 z2 z3 z4 z5 z6 z7)) F33 e2
  have gfree := ok_free (P := l.prog) (w := w) (K := K) (mg := mg) (base := base) (C := (CC7 z1 z2 z3 z4 z5 z6 z7)) F34 e2 glettersOf k10 b10 m10
  have gown := ok_own (P := l.prog) (w := w) (K := K) (mg := mg) (base := base) F36
  have al : Al l.prog w K mg base (CC7 z1 z2 z3 z4 z5 z6 z7) := ⟨⟨_, _, galong, k33, b33, m33⟩, ⟨_, _, grepl, k13, b13, m13⟩, ⟨_, _, gfree, k34, b34, m34⟩, ⟨_, _, glettersOf, k10, b10, m10⟩, ⟨_, _, gmerged, k11, b11, m11⟩, ⟨_, _, gbroad, k12, b12, m12⟩, e2, e3⟩
  have gred := ok_red (P := l.prog) (w := w) (K := K) (mg := mg) (base := base) (C := (CC7 z1 z2 z3 z4 z5 z6 z7)) F37 al
  have gren := ok_ren (P := l.prog) (w := w) (K := K) (mg := mg) (base := base) (C := (CC7 z1 z2 z3 z4 z5 z6 z7)) F40 al
  have gspread := ok_spread (P := l.prog) (w := w) (K := K) (mg := mg) (base := base) (C := (CC7 z1 z2 z3 z4 z5 z6 z7)) F41 al
  have gcut := ok_cut (P := l.prog) (w := w) (K := K) (mg := mg) (base := base) (C := (CC7 z1 z2 z3 z4 z5 z6 z7)) F42 al
  have gpad := ok_pad (P := l.prog) (w := w) (K := K) (mg := mg) (base := base) (C := (CC7 z1 z2 z3 z4 z5 z6 z7)) F43 al
  have gwin := ok_win (P := l.prog) (w := w) (K := K) (mg := mg) (base := base) (C := (CC7 z1 z2 z3 z4 z5 z6 z7)) F45 al
  have gfold := ok_fold (P := l.prog) (w := w) (K := K) (mg := mg) (base := base) (C := (CC7 z1 z2 z3 z4 z5 z6 z7)) F46 al
  have ggath := ok_gath (P := l.prog) (w := w) (K := K) (mg := mg) (base := base) (C := (CC7 z1 z2 z3 z4 z5 z6 z7)) F47 al
  have gjoin := ok_join (P := l.prog) (w := w) (K := K) (mg := mg) (base := base) (C := (CC7 z1 z2 z3 z4 z5 z6 z7)) F44 al
  have gdot := ok_dot (P := l.prog) (w := w) (K := K) (mg := mg) (base := base) (C := (CC7 z1 z2 z3 z4 z5 z6 z7)) F38 al
  have gbc := ok_bc (P := l.prog) (w := w) (K := K) (mg := mg) (base := base) (C := (CC7 z1 z2 z3 z4 z5 z6 z7)) F35 al
  have gorder := ok_order (P := l.prog) (w := w) (K := K) (mg := mg) (base := base) (C := (CC7 z1 z2 z3 z4 z5 z6 z7)) F39 al n_sorted n_dict n_tuple
  have gadd := ok_add (P := l.prog) (w := w) (K := K) (mg := mg) (base := base) F2
  have gmax := ok_max (P := l.prog) (w := w) (K := K) (mg := mg) (base := base) F3 n_max
  have gmin := ok_min (P := l.prog) (w := w) (K := K) (mg := mg) (base := base) F4 n_min
  have glimit := ok_limit (P := l.prog) (w := w) (K := K) (mg := mg) (base := base) F1
  have gclamp := ok_clamp (P := l.prog) (w := w) (K := K) (mg := mg) (base := base) F5 F1 b1 m1
  have gshift := ok_shift (P := l.prog) (w := w) (K := K) (mg := mg) (base := base) F6
  have gpw := ok_pw (P := l.prog) (w := w) (K := K) (mg := mg) (base := base) F7 (PySem.W.mg_of X G acM)
  have gsof := ok_sof (P := l.prog) (w := w) (K := K) (mg := mg) (base := base) (C := (CC7 z1 z2 z3 z4 z5 z6 z7)) F32 (PySem.W.mg_of X G acS) gcheck k8 b8 m8
  have gtruth := ok_truth (P := l.prog) (w := w) (K := K) (mg := mg) (base := base) F23
  have gends := ok_ends (P := l.prog) (w := w) (K := K) (mg := mg) (base := base) F16
  have gsize_ := ok_size_ (P := l.prog) (w := w) (K := K) (mg := mg) (base := base) F17 n_dict
  have gsame := ok_same (P := l.prog) (w := w) (K := K) (mg := mg) (base := base) F28 gends k16 b16 m16
  have gnegI := ok_negI (P := l.prog) (w := w) (K := K) (mg := mg) (base := base) F24
  have gpadI := ok_padI (P := l.prog) (w := w) (K := K) (mg := mg) (base := base) F29 n_min n_max
  have gsubI := ok_subI (P := l.prog) (w := w) (K := K) (mg := mg) (base := base) F21
  have gjoinI := ok_joinI (P := l.prog) (w := w) (K := K) (mg := mg) (base := base) F30 n_min n_max
  have gwhereI := ok_whereI (P := l.prog) (w := w) (K := K) (mg := mg) (base := base) F25 n_min n_max
  have ginputI := ok_inputI (P := l.prog) (w := w) (K := K) (mg := mg) (base := base) F18
  have gconstI := ok_constI (P := l.prog) (w := w) (K := K) (mg := mg) (base := base) F19 n_min n_max
  have gcorners := ok_corners (P := l.prog) (w := w) (K := K) (mg := mg) (base := base) F14 n_min n_max
  have gmulI := ok_mulI (P := l.prog) (w := w) (K := K) (mg := mg) (base := base) F22 gends k16 b16 m16 gcorners k14 b14 m14
  have gsumI := ok_sumI (P := l.prog) (w := w) (K := K) (mg := mg) (base := base) F26 gsize_ k17 b17 m17
  have gfoldI := ok_foldI (P := l.prog) (w := w) (K := K) (mg := mg) (base := base) F31 n_min n_max gsize_ k17 b17 m17
  have gdotI := ok_dotI (P := l.prog) (w := w) (K := K) (mg := mg) (base := base) F27 gends k16 b16 m16 gcorners k14 b14 m14 gsize_ k17 b17 m17
  have grising := ok_rising (P := l.prog) (w := w) (K := K) (mg := mg) (base := base) F20 n_tuple gpw k7 b7 m7
  have givof := ok_ivof (P := l.prog) (w := w) (K := K) (mg := mg) (base := base) F15 (PySem.W.mg_of X G acI)
  have gcclamp := ok_cclamp (P := l.prog) (w := w) (K := K) (mg := mg) (base := base) (C := (CC7 z1 z2 z3 z4 z5 z6 z7)) F51 e3 ⟨_, PySem.W.mg_of X G eWL, _, rfl⟩
  have gform := ok_form (P := l.prog) (w := w) (K := K) (mg := mg) (base := base) (C := (CC7 z1 z2 z3 z4 z5 z6 z7)) F49 e5 e6 n_len (PySem.W.mg_of X G acA) (PySem.W.mg_of X G acF) kdF gcountOf k9 b9 m9
  have gfields := ok_fields (P := l.prog) (w := w) (K := K) (mg := mg) (base := base) (C := (CC7 z1 z2 z3 z4 z5 z6 z7)) F50 e3 n_zip (PySem.W.mg_of X G acF) (PySem.W.mg_of X G acR) kdR gcclamp k51 b51 m51
  have gnamesT := ok_namesT (P := l.prog) (w := w) (K := K) (mg := mg) (base := base) F62
  have gllimit := ok_llimit (P := l.prog) (w := w) (K := K) (mg := mg) (base := base) F64 n_min n_max
  have glcorners := ok_lcorners (P := l.prog) (w := w) (K := K) (mg := mg) (base := base) F68 n_min n_max
  have gpoint := ok_point (P := l.prog) (w := w) (K := K) (mg := mg) (base := base) F65 gllimit k64 b64 m64
  have gna := ok_na (P := l.prog) (w := w) (K := K) (mg := mg) (base := base) F66 n_list gnamesT k62 b62 m62 gsizeT k61 b61 m61
  have gms := ok_ms (P := l.prog) (w := w) (K := K) (mg := mg) (base := base) F67 n_sorted n_tuple gnamesT k62 b62 m62 gsizeT k61 b61 m61 gna k66 b66 m66
  have gspan := ok_span (P := l.prog) (w := w) (K := K) (mg := mg) (base := base) F69 n_min n_max n_len gpoint k65 b65 m65 gsizeT k61 b61 m61 glcorners k68 b68 m68
  have gldomain := ok_ldomain (P := l.prog) (w := w) (K := K) (mg := mg) (base := base) F70 TG ⟨_, _, gcountT, k60, b60, m60⟩ ⟨_, _, gsizeT, k61, b61, m61⟩ ⟨_, _, gcast, k63, b63, m63⟩ ⟨_, _, gms, k67, b67, m67⟩ ⟨_, _, gspan, k69, b69, m69⟩
  have gkinds := ok_kinds (P := l.prog) (w := w) (K := K) (mg := mg) (base := base) F71 ⟨_, _, gtake, k58, b58, m58⟩
  have gletters := ok_letters (P := l.prog) (w := w) (K := K) (mg := mg) (base := base) F72 TG ⟨_, _, gtake, k58, b58, m58⟩
  have ginfo := ok_info (P := l.prog) (w := w) (K := K) (mg := mg) (base := base) F73 TG ⟨_, _, gtake, k58, b58, m58⟩ ⟨_, _, gsigned, k59, b59, m59⟩ ⟨_, _, gnamesT, k62, b62, m62⟩ ⟨_, _, gletters, k72, b72, m72⟩ ⟨_, _, gsizeT, k61, b61, m61⟩
  have ggiven := ok_given (P := l.prog) (w := w) (K := K) (mg := mg) (base := base) F74 TG ⟨_, _, gtake, k58, b58, m58⟩ ⟨_, _, gsigned, k59, b59, m59⟩ ⟨_, _, gcountL, k60, b60, m60⟩
  have gnode := ok_node (P := l.prog) (w := w) (K := K) (mg := mg) (base := base) F75 TG ⟨_, _, gtake, k58, b58, m58⟩ ⟨_, _, ggiven, k74, b74, m74⟩ ⟨_, _, ginfo, k73, b73, m73⟩
  have ggraph := ok_graph (P := l.prog) (w := w) (K := K) (mg := mg) (base := base) F76 TG ⟨_, _, gtake, k58, b58, m58⟩ ⟨_, _, ggiven, k74, b74, m74⟩ ⟨_, _, gnode, k75, b75, m75⟩ ⟨_, _, gldomain, k70, b70, m70⟩ ⟨_, _, gcountT, k60, b60, m60⟩
  have gdomainQ := ok_domainQ (P := l.prog) (w := w) (K := K) (mg := mg) (base := base) (C := (CC7 z1 z2 z3 z4 z5 z6 z7)) F48 e7 n_len ⟨_, PySem.W.mg_of X G eWL, _, rfl⟩ gform k49 b49 m49 gfields k50 b50 m50 gsof k32 b32 m32 givof k15 b15 m15
  have gwork := ok_work (P := l.prog) (w := w) (K := K) (mg := mg) (base := base) F54 n_dict ⟨_, _, gcountOf, k9, b9, m9⟩
  have gtotal := ok_total (P := l.prog) (w := w) (K := K) (mg := mg) (base := base) F53 TC ⟨_, _, gwork, k54, b54, m54⟩
  have gmoved := ok_moved (P := l.prog) (w := w) (K := K) (mg := mg) (base := base) F56 TC
  have S : ShapeT l.prog w K mg base (CC7 z1 z2 z3 z4 z5 z6 z7) cS := by
    refine { own := ?_, bc := ?_, red := ?_, dot := ⟨_, _, gdot.mono (by decide), k38, b38, escS, ncS, _, lcS, qcS, QcS_dot, rfl⟩, order := ⟨_, _, gorder.mono (by decide), k39, b39, escS, ncS, _, lcS, qcS, QcS_order, rfl⟩, rename := ⟨_, _, gren.mono (by decide), k40, b40, escS, ncS, _, lcS, qcS, QcS_rename, rfl⟩, spread := ⟨_, _, gspread.mono (by decide), k41, b41, escS, ncS, _, lcS, qcS, QcS_spread, rfl⟩, cut := ⟨_, _, gcut.mono (by decide), k42, b42, escS, ncS, _, lcS, qcS, QcS_cut, rfl⟩, pad := ⟨_, _, gpad.mono (by decide), k43, b43, escS, ncS, _, lcS, qcS, QcS_pad, rfl⟩, join := ⟨_, _, gjoin.mono (by decide), k44, b44, escS, ncS, _, lcS, qcS, QcS_join, rfl⟩, window := ⟨_, _, gwin.mono (by decide), k45, b45, escS, ncS, _, lcS, qcS, QcS_window, rfl⟩, fold := ⟨_, _, gfold.mono (by decide), k46, b46, escS, ncS, _, lcS, qcS, QcS_fold, rfl⟩, gather := ⟨_, _, ggath.mono (by decide), k47, b47, escS, ncS, _, lcS, qcS, QcS_gather, rfl⟩ }
    · exact by
        intro z hz
        simp only [List.mem_cons, List.not_mem_nil, or_false] at hz
        rcases hz with rfl | rfl
        · exact ⟨_, _, gown.mono (by decide), k36, b36, escS, ncS, _, lcS, qcS, QcS_input, rfl⟩
        · exact ⟨_, _, gown.mono (by decide), k36, b36, escS, ncS, _, lcS, qcS, QcS_const, rfl⟩
    · exact by
        intro z hz
        unfold BN at hz
        simp only [List.mem_cons, List.not_mem_nil, or_false] at hz
        rcases hz with rfl | rfl | rfl | rfl | rfl | rfl | rfl | rfl | rfl | rfl | rfl
        · exact ⟨_, _, gbc.mono (by decide), k35, b35, escS, ncS, _, lcS, qcS, QcS_add, rfl⟩
        · exact ⟨_, _, gbc.mono (by decide), k35, b35, escS, ncS, _, lcS, qcS, QcS_sub, rfl⟩
        · exact ⟨_, _, gbc.mono (by decide), k35, b35, escS, ncS, _, lcS, qcS, QcS_mul, rfl⟩
        · exact ⟨_, _, gbc.mono (by decide), k35, b35, escS, ncS, _, lcS, qcS, QcS_max, rfl⟩
        · exact ⟨_, _, gbc.mono (by decide), k35, b35, escS, ncS, _, lcS, qcS, QcS_min, rfl⟩
        · exact ⟨_, _, gbc.mono (by decide), k35, b35, escS, ncS, _, lcS, qcS, QcS_less, rfl⟩
        · exact ⟨_, _, gbc.mono (by decide), k35, b35, escS, ncS, _, lcS, qcS, QcS_equal, rfl⟩
        · exact ⟨_, _, gbc.mono (by decide), k35, b35, escS, ncS, _, lcS, qcS, QcS_neg, rfl⟩
        · exact ⟨_, _, gbc.mono (by decide), k35, b35, escS, ncS, _, lcS, qcS, QcS_clamp, rfl⟩
        · exact ⟨_, _, gbc.mono (by decide), k35, b35, escS, ncS, _, lcS, qcS, QcS_shift, rfl⟩
        · exact ⟨_, _, gbc.mono (by decide), k35, b35, escS, ncS, _, lcS, qcS, QcS_where, rfl⟩
    · exact by
        intro z hz
        simp only [List.mem_cons, List.not_mem_nil, or_false] at hz
        rcases hz with rfl | rfl
        · exact ⟨_, _, gred.mono (by decide), k37, b37, escS, ncS, _, lcS, qcS, QcS_sum, rfl⟩
        · exact ⟨_, _, gred.mono (by decide), k37, b37, escS, ncS, _, lcS, qcS, QcS_peak, rfl⟩
  have I : IvT l.prog w K mg base cI cM := by
    refine { ris := ?_, tru := ?_, same := ?_, input := ⟨_, _, ginputI.mono (by decide), k18, b18, escI, ncI, _, lcI, qcI, QcI_input, rfl⟩, const := ⟨_, _, gconstI.mono (by decide), k19, b19, escI, ncI, _, lcI, qcI, QcI_const, rfl⟩, sub := ⟨_, _, gsubI.mono (by decide), k21, b21, escI, ncI, _, lcI, qcI, QcI_sub, rfl⟩, mul := ⟨_, _, gmulI.mono (by decide), k22, b22, escI, ncI, _, lcI, qcI, QcI_mul, rfl⟩, neg := ⟨_, _, gnegI.mono (by decide), k24, b24, escI, ncI, _, lcI, qcI, QcI_neg, rfl⟩, whr := ⟨_, _, gwhereI.mono (by decide), k25, b25, escI, ncI, _, lcI, qcI, QcI_where, rfl⟩, sum := ⟨_, _, gsumI.mono (by decide), k26, b26, escI, ncI, _, lcI, qcI, QcI_sum, rfl⟩, dot := ⟨_, _, gdotI.mono (by decide), k27, b27, escI, ncI, _, lcI, qcI, QcI_dot, rfl⟩, pad := ⟨_, _, gpadI.mono (by decide), k29, b29, escI, ncI, _, lcI, qcI, QcI_pad, rfl⟩, join := ⟨_, _, gjoinI.mono (by decide), k30, b30, escI, ncI, _, lcI, qcI, QcI_join, rfl⟩, fold := ⟨_, _, gfoldI.mono (by decide), k31, b31, escI, ncI, _, lcI, qcI, QcI_fold, rfl⟩, mAdd := ⟨_, _, gadd.mono (by decide), k2, b2, escM, ncM, _, lcM, qcM, QcM_add, rfl⟩, mMax := ⟨_, _, gmax.mono (by decide), k3, b3, escM, ncM, _, lcM, qcM, QcM_max, rfl⟩, mMin := ⟨_, _, gmin.mono (by decide), k4, b4, escM, ncM, _, lcM, qcM, QcM_min, rfl⟩, mClamp := ⟨_, _, gclamp.mono (by decide), k5, b5, escM, ncM, _, lcM, qcM, QcM_clamp, rfl⟩, mShift := ⟨_, _, gshift.mono (by decide), k6, b6, escM, ncM, _, lcM, qcM, QcM_shift, rfl⟩ }
    · exact by
        intro z hz
        simp only [List.mem_cons, List.not_mem_nil, or_false] at hz
        rcases hz with rfl | rfl | rfl | rfl | rfl
        · exact ⟨_, _, grising.mono (by decide), k20, b20, escI, ncI, _, lcI, qcI, QcI_add, rfl⟩
        · exact ⟨_, _, grising.mono (by decide), k20, b20, escI, ncI, _, lcI, qcI, QcI_max, rfl⟩
        · exact ⟨_, _, grising.mono (by decide), k20, b20, escI, ncI, _, lcI, qcI, QcI_min, rfl⟩
        · exact ⟨_, _, grising.mono (by decide), k20, b20, escI, ncI, _, lcI, qcI, QcI_clamp, rfl⟩
        · exact ⟨_, _, grising.mono (by decide), k20, b20, escI, ncI, _, lcI, qcI, QcI_shift, rfl⟩
    · exact by
        intro z hz
        simp only [List.mem_cons, List.not_mem_nil, or_false] at hz
        rcases hz with rfl | rfl
        · exact ⟨_, _, gtruth.mono (by decide), k23, b23, escI, ncI, _, lcI, qcI, QcI_less, rfl⟩
        · exact ⟨_, _, gtruth.mono (by decide), k23, b23, escI, ncI, _, lcI, qcI, QcI_equal, rfl⟩
    · exact by
        intro z hz
        simp only [List.mem_cons, List.not_mem_nil, or_false] at hz
        rcases hz with rfl | rfl | rfl | rfl | rfl | rfl | rfl
        · exact ⟨_, _, gsame.mono (by decide), k28, b28, escI, ncI, _, lcI, qcI, QcI_peak, rfl⟩
        · exact ⟨_, _, gsame.mono (by decide), k28, b28, escI, ncI, _, lcI, qcI, QcI_order, rfl⟩
        · exact ⟨_, _, gsame.mono (by decide), k28, b28, escI, ncI, _, lcI, qcI, QcI_rename, rfl⟩
        · exact ⟨_, _, gsame.mono (by decide), k28, b28, escI, ncI, _, lcI, qcI, QcI_spread, rfl⟩
        · exact ⟨_, _, gsame.mono (by decide), k28, b28, escI, ncI, _, lcI, qcI, QcI_cut, rfl⟩
        · exact ⟨_, _, gsame.mono (by decide), k28, b28, escI, ncI, _, lcI, qcI, QcI_window, rfl⟩
        · exact ⟨_, _, gsame.mono (by decide), k28, b28, escI, ncI, _, lcI, qcI, QcI_gather, rfl⟩
  have lk := linkQ (P := l.prog) (w := w) (K := K) (mg := mg) (base := base) (C := (CC7 z1 z2 z3 z4 z5 z6 z7)) (aA := cA) (aF := cF) (aR := cR) (aS := cS) (aI := cI) (aM := cM) FT S I
  have gcheckG := ok_checkG (P := l.prog) (w := w) (K := K) (mg := mg) (base := base) (C := (CC7 z1 z2 z3 z4 z5 z6 z7)) F52 TC e4 e6 ⟨_, PySem.W.mg_of X G eNL, _, rfl⟩ ⟨_, PySem.W.mg_of X G eKL, _, rfl⟩ lk ⟨_, _, gdomainQ, k48, b48, m48⟩ ⟨_, _, gtotal, k53, b53, m53⟩
  have gshare := ok_share (P := l.prog) (w := w) (K := K) (mg := mg) (base := base) F55 TP ⟨_, _, gmoved, k56, b56, m56⟩ ⟨_, _, gcheckG, k52, b52, m52⟩
  exact ok_law (P := l.prog) (w := w) (K := K) (mg := mg) (base := base) F77 TL ⟨_, _, gbegin, k57, b57, m57⟩ ⟨_, _, gtake, k58, b58, m58⟩ ⟨_, _, gkinds, k71, b71, m71⟩ ⟨_, _, ggraph, k76, b76, m76⟩ ⟨_, _, gshare, k55, b55, m55⟩

end My
open PySem PySem.W PyProof.Rows
set_option maxRecDepth 100000 in
set_option maxHeartbeats 0 in
theorem PySem.Challenge.cw_tensorcompiler_k25_shared_nodes_holds : PySem.Challenge.rw_tensorcompiler_k25_shared_nodes.Holds := by
  w_on; o_law; rename_i said
  refine My.head_k (r := OpenLaw.row PySem.Challenge.rw_tensorcompiler_k25_shared_nodes) (q := My.qv) (kHook My.KO.heap_1 My.asK My.ekK) rfl (M := 7000) (loose := My.topNames) (kwd := []) (by kernel_rfl) (fun s => by kernel_rfl) (d := HandSHeadRun.topDef (OpenLaw.row PySem.Challenge.rw_tensorcompiler_k25_shared_nodes).prog 111) My.topRun (by kernel_rfl) (by kernel_rfl) (by kernel_rfl) (by kernel_rfl) said (by kernel_rfl) ⟨by kernel_rfl, by kernel_rfl, by kernel_rfl, by kernel_rfl, by kernel_rfl, by decide +kernel⟩ ?hw ?hc
  case hw => w_witness2
  k_fill
  refine L2.walk_of (l := PySem.Challenge.rw_tensorcompiler_k25_shared_nodes) (n := 63) (k := 9) (x := "script") (CX := fun _ => L2.CX0) (sp := fun w => My.spLaw _) rfl (by decide) rfl ⟨rfl, by decide, by decide⟩ (fun w h Y => PySem.W.kIn_of Y) ?F (fun _ _ a ns hl _ hS => ⟨a, ns, rfl, hS, hl, fun _ => rfl⟩) (fun _ _ _ _ _ h => h)
  case F =>
    intro w mg fa h KX G hmg
    refine' My.all_mk KX G hmg ?a1 ?l1 ?c1 ?k1 ?a2 ?l2 ?c2 ?k2 ?a3 ?l3 ?c3 ?k3 ?a4 ?l4 ?c4 ?k4 ?a5 ?l5 ?c5 ?k5 ?a6 ?l6 ?c6 ?k6 ?a7 ?l7 ?c7 ?k7 ?a8 ?l8 ?c8 ?k8 ?a9 ?l9 ?c9 ?k9 ?a10 ?l10 ?c10 ?k10 ?a11 ?l11 ?c11 ?k11 ?a12 ?l12 ?c12 ?k12 ?a13 ?l13 ?c13 ?k13 ?a14 ?l14 ?c14 ?k14 ?a15 ?l15 ?c15 ?k15 ?a16 ?l16 ?c16 ?k16 ?a17 ?l17 ?c17 ?k17 ?a18 ?l18 ?c18 ?k18 ?a19 ?l19 ?c19 ?k19 ?a20 ?l20 ?c20 ?k20 ?a21 ?l21 ?c21 ?k21 ?a22 ?l22 ?c22 ?k22 ?a23 ?l23 ?c23 ?k23 ?a24 ?l24 ?c24 ?k24 ?a25 ?l25 ?c25 ?k25 ?a26 ?l26 ?c26 ?k26 ?a27 ?l27 ?c27 ?k27 ?a28 ?l28 ?c28 ?k28 ?a29 ?l29 ?c29 ?k29 ?a30 ?l30 ?c30 ?k30 ?a31 ?l31 ?c31 ?k31 ?a32 ?l32 ?c32 ?k32 ?a33 ?l33 ?c33 ?k33 ?a34 ?l34 ?c34 ?k34 ?a35 ?l35 ?c35 ?k35 ?a36 ?l36 ?c36 ?k36 ?a37 ?l37 ?c37 ?k37 ?a38 ?l38 ?c38 ?k38 ?a39 ?l39 ?c39 ?k39 ?a40 ?l40 ?c40 ?k40 ?a41 ?l41 ?c41 ?k41 ?a42 ?l42 ?c42 ?k42 ?a43 ?l43 ?c43 ?k43 ?a44 ?l44 ?c44 ?k44 ?a45 ?l45 ?c45 ?k45 ?a46 ?l46 ?c46 ?k46 ?a47 ?l47 ?c47 ?k47 ?a48 ?l48 ?c48 ?k48 ?a49 ?l49 ?c49 ?k49 ?a50 ?l50 ?c50 ?k50 ?a51 ?l51 ?c51 ?k51 ?a52 ?l52 ?c52 ?k52 ?a53 ?l53 ?c53 ?k53 ?a54 ?l54 ?c54 ?k54 ?a55 ?l55 ?c55 ?k55 ?a56 ?l56 ?c56 ?k56 ?a57 ?l57 ?c57 ?k57 ?a58 ?l58 ?c58 ?k58 ?a59 ?l59 ?c59 ?k59 ?a60 ?l60 ?c60 ?k60 ?a61 ?l61 ?c61 ?k61 ?a62 ?l62 ?c62 ?k62 ?a63 ?l63 ?c63 ?k63 ?a64 ?l64 ?c64 ?k64 ?a65 ?l65 ?c65 ?k65 ?a66 ?l66 ?c66 ?k66 ?a67 ?l67 ?c67 ?k67 ?a68 ?l68 ?c68 ?k68 ?a69 ?l69 ?c69 ?k69 ?a70 ?l70 ?c70 ?k70 ?a71 ?l71 ?c71 ?k71 ?a72 ?l72 ?c72 ?k72 ?a73 ?l73 ?c73 ?k73 ?a74 ?l74 ?c74 ?k74 ?a75 ?l75 ?c75 ?k75 ?a76 ?l76 ?c76 ?k76 ?a77 ?l77 ?c77 ?k77 ?aEz1 ?kEz1 ?bEz1 ?tEz1 ?xz1 ?aEz2 ?kEz2 ?bEz2 ?tEz2 ?xz2 ?aEz3 ?kEz3 ?bEz3 ?tEz3 ?xz3 ?aEz4 ?kEz4 ?bEz4 ?tEz4 ?xz4 ?aEz5 ?kEz5 ?bEz5 ?tEz5 ?xz5 ?aEz6 ?kEz6 ?bEz6 ?tEz6 ?xz6 ?aEz7 ?kEz7 ?bEz7 ?tEz7 ?xz7 ?acM ?lcM ?qcM ?acS ?lcS ?qcS ?acI ?lcI ?qcI ?acA ?lcA ?qcA ?acF ?lcF ?qcF ?acR ?lcR ?qcR ?ycF ?ycR ?eWL ?eRL ?eSL ?eCL ?eNL ?eKL ?qFu1 ?ltu1 ?vtu1 ?ztu1 ?qAu1 ?qFu2 ?ltu2 ?vtu2 ?ztu2 ?qAu2 ?qFu3 ?ltu3 ?vtu3 ?ztu3 ?qAu3 ?qFu4 ?ltu4 ?vtu4 ?ztu4 ?qAu4 ?qFu5 ?ltu5 ?vtu5 ?ztu5 ?qAu5 ?qFu6 ?ltu6 ?vtu6 ?ztu6 ?qAu6 ?qFu7 ?ltu7 ?vtu7 ?ztu7 ?qAu7 ?qFu8 ?ltu8 ?vtu8 ?ztu8 ?qAu8 ?qFu9 ?ltu9 ?vtu9 ?ztu9 ?qAu9 ?qFu10 ?ltu10 ?vtu10 ?ztu10 ?qAu10 ?qFu11 ?ltu11 ?vtu11 ?ztu11 ?qAu11 ?qFu12 ?ltu12 ?vtu12 ?ztu12 ?qAu12 ?qFu13 ?ltu13 ?vtu13 ?ztu13 ?qAu13 ?qFu14 ?ltu14 ?vtu14 ?ztu14 ?qAu14 ?qFu15 ?ltu15 ?vtu15 ?ztu15 ?qAu15 ?qFu16 ?ltu16 ?vtu16 ?ztu16 ?qAu16 ?qFu17 ?ltu17 ?vtu17 ?ztu17 ?qAu17 ?qFu18 ?ltu18 ?vtu18 ?ztu18 ?qAu18 ?qFu19 ?ltu19 ?vtu19 ?ztu19 ?qAu19 ?qFu20 ?ltu20 ?vtu20 ?ztu20 ?qAu20 ?qFu21 ?ltu21 ?vtu21 ?ztu21 ?qAu21 ?qFu22 ?ltu22 ?vtu22 ?ztu22 ?qAu22 ?qFu23 ?ltu23 ?vtu23 ?ztu23 ?qAu23 ?qFu24 ?ltu24 ?vtu24 ?ztu24 ?qAu24 ?qFu25 ?ltu25 ?vtu25 ?ztu25 ?qAu25 ?rN_shape ?rN_low ?rN_high ?rN_data ?rN_axis ?rN_letters ?rN_new ?rN_second ?rQ_n ?ltv9 ?vtv9 ?ztv9 ?rQ_size ?ltv10 ?vtv10 ?ztv10 ?rQ_count ?ltv11 ?vtv11 ?ztv11 ?rQ_width ?ltv12 ?vtv12 ?ztv12 ?rQ_stride ?ltv13 ?vtv13 ?ztv13 ?rQ_start ?ltv14 ?vtv14 ?ztv14 ?rQ_before ?ltv15 ?vtv15 ?ztv15 ?rQ_after ?ltv16 ?vtv16 ?ztv16 ?QcS_input ?QcS_const ?QcS_add ?QcS_sub ?QcS_mul ?QcS_max ?QcS_min ?QcS_less ?QcS_equal ?QcS_neg ?QcS_clamp ?QcS_shift ?QcS_where ?QcS_sum ?QcS_peak ?QcS_dot ?QcS_order ?QcS_rename ?QcS_spread ?QcS_cut ?QcS_pad ?QcS_join ?QcS_window ?QcS_fold ?QcS_gather ?QcI_input ?QcI_const ?QcI_add ?QcI_sub ?QcI_mul ?QcI_max ?QcI_min ?QcI_less ?QcI_equal ?QcI_neg ?QcI_clamp ?QcI_shift ?QcI_where ?QcI_sum ?QcI_peak ?QcI_dot ?QcI_order ?QcI_rename ?QcI_spread ?QcI_cut ?QcI_pad ?QcI_join ?QcI_window ?QcI_fold ?QcI_gather ?QcM_add ?QcM_max ?QcM_min ?QcM_clamp ?QcM_shift ?z_abs ?z_all ?z_bool ?z_dict ?z_enumerate ?z_int ?z_isinstance ?z_len ?z_list ?z_max ?z_min ?z_range ?z_reversed ?z_set ?z_sorted ?z_tuple ?z_zip
    (case a1 => k_is); (case l1 => k_is); (case c1 => k_is); (case k1 => k_is); (case a2 => k_is); (case l2 => k_is); (case c2 => k_is); (case k2 => k_is); (case a3 => k_is); (case l3 => k_is); (case c3 => k_is); (case k3 => k_is); (case a4 => k_is); (case l4 => k_is); (case c4 => k_is); (case k4 => k_is); (case a5 => k_is); (case l5 => k_is); (case c5 => k_is); (case k5 => k_is); (case a6 => k_is); (case l6 => k_is); (case c6 => k_is); (case k6 => k_is); (case a7 => k_is); (case l7 => k_is); (case c7 => k_is); (case k7 => k_is); (case a8 => k_is); (case l8 => k_is); (case c8 => k_is); (case k8 => k_is); (case a9 => k_is); (case l9 => k_is); (case c9 => k_is); (case k9 => k_is); (case a10 => k_is); (case l10 => k_is); (case c10 => k_is); (case k10 => k_is); (case a11 => k_is); (case l11 => k_is); (case c11 => k_is); (case k11 => k_is); (case a12 => k_is); (case l12 => k_is); (case c12 => k_is); (case k12 => k_is); (case a13 => k_is); (case l13 => k_is); (case c13 => k_is); (case k13 => k_is); (case a14 => k_is); (case l14 => k_is); (case c14 => k_is); (case k14 => k_is); (case a15 => k_is); (case l15 => k_is); (case c15 => k_is); (case k15 => k_is); (case a16 => k_is); (case l16 => k_is); (case c16 => k_is); (case k16 => k_is); (case a17 => k_is); (case l17 => k_is); (case c17 => k_is); (case k17 => k_is); (case a18 => k_is); (case l18 => k_is); (case c18 => k_is); (case k18 => k_is); (case a19 => k_is); (case l19 => k_is); (case c19 => k_is); (case k19 => k_is); (case a20 => k_is); (case l20 => k_is); (case c20 => k_is); (case k20 => k_is); (case a21 => k_is); (case l21 => k_is); (case c21 => k_is); (case k21 => k_is); (case a22 => k_is); (case l22 => k_is); (case c22 => k_is); (case k22 => k_is); (case a23 => k_is); (case l23 => k_is); (case c23 => k_is); (case k23 => k_is); (case a24 => k_is); (case l24 => k_is); (case c24 => k_is); (case k24 => k_is); (case a25 => k_is); (case l25 => k_is); (case c25 => k_is); (case k25 => k_is); (case a26 => k_is); (case l26 => k_is); (case c26 => k_is); (case k26 => k_is); (case a27 => k_is); (case l27 => k_is); (case c27 => k_is); (case k27 => k_is); (case a28 => k_is); (case l28 => k_is); (case c28 => k_is); (case k28 => k_is); (case a29 => k_is); (case l29 => k_is); (case c29 => k_is); (case k29 => k_is); (case a30 => k_is); (case l30 => k_is); (case c30 => k_is); (case k30 => k_is); (case a31 => k_is); (case l31 => k_is); (case c31 => k_is); (case k31 => k_is); (case a32 => k_is); (case l32 => k_is); (case c32 => k_is); (case k32 => k_is); (case a33 => k_is); (case l33 => k_is); (case c33 => k_is); (case k33 => k_is); (case a34 => k_is); (case l34 => k_is); (case c34 => k_is); (case k34 => k_is); (case a35 => k_is); (case l35 => k_is); (case c35 => k_is); (case k35 => k_is); (case a36 => k_is); (case l36 => k_is); (case c36 => k_is); (case k36 => k_is); (case a37 => k_is); (case l37 => k_is); (case c37 => k_is); (case k37 => k_is); (case a38 => k_is); (case l38 => k_is); (case c38 => k_is); (case k38 => k_is); (case a39 => k_is); (case l39 => k_is); (case c39 => k_is); (case k39 => k_is); (case a40 => k_is); (case l40 => k_is); (case c40 => k_is); (case k40 => k_is); (case a41 => k_is); (case l41 => k_is); (case c41 => k_is); (case k41 => k_is); (case a42 => k_is); (case l42 => k_is); (case c42 => k_is); (case k42 => k_is); (case a43 => k_is); (case l43 => k_is); (case c43 => k_is); (case k43 => k_is); (case a44 => k_is); (case l44 => k_is); (case c44 => k_is); (case k44 => k_is); (case a45 => k_is); (case l45 => k_is); (case c45 => k_is); (case k45 => k_is); (case a46 => k_is); (case l46 => k_is); (case c46 => k_is); (case k46 => k_is); (case a47 => k_is); (case l47 => k_is); (case c47 => k_is); (case k47 => k_is); (case a48 => k_is); (case l48 => k_is); (case c48 => k_is); (case k48 => k_is); (case a49 => k_is); (case l49 => k_is); (case c49 => k_is); (case k49 => k_is); (case a50 => k_is); (case l50 => k_is); (case c50 => k_is); (case k50 => k_is); (case a51 => k_is); (case l51 => k_is); (case c51 => k_is); (case k51 => k_is); (case a52 => k_is); (case l52 => k_is); (case c52 => k_is); (case k52 => k_is); (case a53 => k_is); (case l53 => k_is); (case c53 => k_is); (case k53 => k_is); (case a54 => k_is); (case l54 => k_is); (case c54 => k_is); (case k54 => k_is); (case a55 => k_is); (case l55 => k_is); (case c55 => k_is); (case k55 => k_is); (case a56 => k_is); (case l56 => k_is); (case c56 => k_is); (case k56 => k_is); (case a57 => k_is); (case l57 => k_is); (case c57 => k_is); (case k57 => k_is); (case a58 => k_is); (case l58 => k_is); (case c58 => k_is); (case k58 => k_is); (case a59 => k_is); (case l59 => k_is); (case c59 => k_is); (case k59 => k_is); (case a60 => k_is); (case l60 => k_is); (case c60 => k_is); (case k60 => k_is); (case a61 => k_is); (case l61 => k_is); (case c61 => k_is); (case k61 => k_is); (case a62 => k_is); (case l62 => k_is); (case c62 => k_is); (case k62 => k_is); (case a63 => k_is); (case l63 => k_is); (case c63 => k_is); (case k63 => k_is); (case a64 => k_is); (case l64 => k_is); (case c64 => k_is); (case k64 => k_is); (case a65 => k_is); (case l65 => k_is); (case c65 => k_is); (case k65 => k_is); (case a66 => k_is); (case l66 => k_is); (case c66 => k_is); (case k66 => k_is); (case a67 => k_is); (case l67 => k_is); (case c67 => k_is); (case k67 => k_is); (case a68 => k_is); (case l68 => k_is); (case c68 => k_is); (case k68 => k_is); (case a69 => k_is); (case l69 => k_is); (case c69 => k_is); (case k69 => k_is); (case a70 => k_is); (case l70 => k_is); (case c70 => k_is); (case k70 => k_is); (case a71 => k_is); (case l71 => k_is); (case c71 => k_is); (case k71 => k_is); (case a72 => k_is); (case l72 => k_is); (case c72 => k_is); (case k72 => k_is); (case a73 => k_is); (case l73 => k_is); (case c73 => k_is); (case k73 => k_is); (case a74 => k_is); (case l74 => k_is); (case c74 => k_is); (case k74 => k_is); (case a75 => k_is); (case l75 => k_is); (case c75 => k_is); (case k75 => k_is); (case a76 => k_is); (case l76 => k_is); (case c76 => k_is); (case k76 => k_is); (case a77 => k_is); (case l77 => k_is); (case c77 => k_is); (case k77 => k_is); (case aEz1 => k_is); (case kEz1 => k_is); (case bEz1 => k_is); (case tEz1 => k_is); (case xz1 => k_exc); (case aEz2 => k_is); (case kEz2 => k_is); (case bEz2 => k_is); (case tEz2 => k_is); (case xz2 => k_exc); (case aEz3 => k_is); (case kEz3 => k_is); (case bEz3 => k_is); (case tEz3 => k_is); (case xz3 => k_exc); (case aEz4 => k_is); (case kEz4 => k_is); (case bEz4 => k_is); (case tEz4 => k_is); (case xz4 => k_exc); (case aEz5 => k_is); (case kEz5 => k_is); (case bEz5 => k_is); (case tEz5 => k_is); (case xz5 => k_exc); (case aEz6 => k_is); (case kEz6 => k_is); (case bEz6 => k_is); (case tEz6 => k_is); (case xz6 => k_exc); (case aEz7 => k_is); (case kEz7 => k_is); (case bEz7 => k_is); (case tEz7 => k_is); (case xz7 => k_exc); (case acM => k_is); (case lcM => k_is); (case qcM => repeat (first | exact True.intro | refine ⟨⟨_, _, rfl, rfl⟩, ?_⟩)); (case acS => k_is); (case lcS => k_is); (case qcS => repeat (first | exact True.intro | refine ⟨⟨_, _, rfl, rfl⟩, ?_⟩)); (case acI => k_is); (case lcI => k_is); (case qcI => repeat (first | exact True.intro | refine ⟨⟨_, _, rfl, rfl⟩, ?_⟩)); (case acA => k_is); (case lcA => k_is); (case qcA => repeat (first | exact True.intro | refine ⟨⟨_, _, rfl, rfl⟩, ?_⟩)); (case acF => k_is); (case lcF => k_is); (case qcF => repeat (first | exact True.intro | refine ⟨⟨_, _, rfl, rfl⟩, ?_⟩)); (case acR => k_is); (case lcR => k_is); (case qcR => repeat (first | exact True.intro | refine ⟨⟨_, _, rfl, rfl⟩, ?_⟩)); (case ycF => first | rfl | decide); (case ycR => first | rfl | decide); (case eWL => k_is); (case eRL => k_is); (case eSL => k_is); (case eCL => k_is); (case eNL => k_is); (case eKL => k_is); (case qFu1 => k_is); (case ltu1 => k_is); (case vtu1 => repeat (first | exact .nil | refine .cons ⟨_, rfl⟩ ?_)); (case ztu1 => decide); (case qAu1 => k_is); (case qFu2 => k_is); (case ltu2 => k_is); (case vtu2 => repeat (first | exact .nil | refine .cons ⟨_, rfl⟩ ?_)); (case ztu2 => decide); (case qAu2 => k_is); (case qFu3 => k_is); (case ltu3 => k_is); (case vtu3 => repeat (first | exact .nil | refine .cons ⟨_, rfl⟩ ?_)); (case ztu3 => decide); (case qAu3 => k_is); (case qFu4 => k_is); (case ltu4 => k_is); (case vtu4 => repeat (first | exact .nil | refine .cons ⟨_, rfl⟩ ?_)); (case ztu4 => decide); (case qAu4 => k_is); (case qFu5 => k_is); (case ltu5 => k_is); (case vtu5 => repeat (first | exact .nil | refine .cons ⟨_, rfl⟩ ?_)); (case ztu5 => decide); (case qAu5 => k_is); (case qFu6 => k_is); (case ltu6 => k_is); (case vtu6 => repeat (first | exact .nil | refine .cons ⟨_, rfl⟩ ?_)); (case ztu6 => decide); (case qAu6 => k_is); (case qFu7 => k_is); (case ltu7 => k_is); (case vtu7 => repeat (first | exact .nil | refine .cons ⟨_, rfl⟩ ?_)); (case ztu7 => decide); (case qAu7 => k_is); (case qFu8 => k_is); (case ltu8 => k_is); (case vtu8 => repeat (first | exact .nil | refine .cons ⟨_, rfl⟩ ?_)); (case ztu8 => decide); (case qAu8 => k_is); (case qFu9 => k_is); (case ltu9 => k_is); (case vtu9 => repeat (first | exact .nil | refine .cons ⟨_, rfl⟩ ?_)); (case ztu9 => decide); (case qAu9 => k_is); (case qFu10 => k_is); (case ltu10 => k_is); (case vtu10 => repeat (first | exact .nil | refine .cons ⟨_, rfl⟩ ?_)); (case ztu10 => decide); (case qAu10 => k_is); (case qFu11 => k_is); (case ltu11 => k_is); (case vtu11 => repeat (first | exact .nil | refine .cons ⟨_, rfl⟩ ?_)); (case ztu11 => decide); (case qAu11 => k_is); (case qFu12 => k_is); (case ltu12 => k_is); (case vtu12 => repeat (first | exact .nil | refine .cons ⟨_, rfl⟩ ?_)); (case ztu12 => decide); (case qAu12 => k_is); (case qFu13 => k_is); (case ltu13 => k_is); (case vtu13 => repeat (first | exact .nil | refine .cons ⟨_, rfl⟩ ?_)); (case ztu13 => decide); (case qAu13 => k_is); (case qFu14 => k_is); (case ltu14 => k_is); (case vtu14 => repeat (first | exact .nil | refine .cons ⟨_, rfl⟩ ?_)); (case ztu14 => decide); (case qAu14 => k_is); (case qFu15 => k_is); (case ltu15 => k_is); (case vtu15 => repeat (first | exact .nil | refine .cons ⟨_, rfl⟩ ?_)); (case ztu15 => decide); (case qAu15 => k_is); (case qFu16 => k_is); (case ltu16 => k_is); (case vtu16 => repeat (first | exact .nil | refine .cons ⟨_, rfl⟩ ?_)); (case ztu16 => decide); (case qAu16 => k_is); (case qFu17 => k_is); (case ltu17 => k_is); (case vtu17 => repeat (first | exact .nil | refine .cons ⟨_, rfl⟩ ?_)); (case ztu17 => decide); (case qAu17 => k_is); (case qFu18 => k_is); (case ltu18 => k_is); (case vtu18 => repeat (first | exact .nil | refine .cons ⟨_, rfl⟩ ?_)); (case ztu18 => decide); (case qAu18 => k_is); (case qFu19 => k_is); (case ltu19 => k_is); (case vtu19 => repeat (first | exact .nil | refine .cons ⟨_, rfl⟩ ?_)); (case ztu19 => decide); (case qAu19 => k_is); (case qFu20 => k_is); (case ltu20 => k_is); (case vtu20 => repeat (first | exact .nil | refine .cons ⟨_, rfl⟩ ?_)); (case ztu20 => decide); (case qAu20 => k_is); (case qFu21 => k_is); (case ltu21 => k_is); (case vtu21 => repeat (first | exact .nil | refine .cons ⟨_, rfl⟩ ?_)); (case ztu21 => decide); (case qAu21 => k_is); (case qFu22 => k_is); (case ltu22 => k_is); (case vtu22 => repeat (first | exact .nil | refine .cons ⟨_, rfl⟩ ?_)); (case ztu22 => decide); (case qAu22 => k_is); (case qFu23 => k_is); (case ltu23 => k_is); (case vtu23 => repeat (first | exact .nil | refine .cons ⟨_, rfl⟩ ?_)); (case ztu23 => decide); (case qAu23 => k_is); (case qFu24 => k_is); (case ltu24 => k_is); (case vtu24 => repeat (first | exact .nil | refine .cons ⟨_, rfl⟩ ?_)); (case ztu24 => decide); (case qAu24 => k_is); (case qFu25 => k_is); (case ltu25 => k_is); (case vtu25 => repeat (first | exact .nil | refine .cons ⟨_, rfl⟩ ?_)); (case ztu25 => decide); (case qAu25 => k_is); (case rN_shape => k_is); (case rN_low => k_is); (case rN_high => k_is); (case rN_data => k_is); (case rN_axis => k_is); (case rN_letters => k_is); (case rN_new => k_is); (case rN_second => k_is); (case rQ_n => k_is); (case ltv9 => k_is); (case vtv9 => repeat (first | exact .nil | refine .cons ⟨_, rfl⟩ ?_)); (case ztv9 => decide); (case rQ_size => k_is); (case ltv10 => k_is); (case vtv10 => repeat (first | exact .nil | refine .cons ⟨_, rfl⟩ ?_)); (case ztv10 => decide); (case rQ_count => k_is); (case ltv11 => k_is); (case vtv11 => repeat (first | exact .nil | refine .cons ⟨_, rfl⟩ ?_)); (case ztv11 => decide); (case rQ_width => k_is); (case ltv12 => k_is); (case vtv12 => repeat (first | exact .nil | refine .cons ⟨_, rfl⟩ ?_)); (case ztv12 => decide); (case rQ_stride => k_is); (case ltv13 => k_is); (case vtv13 => repeat (first | exact .nil | refine .cons ⟨_, rfl⟩ ?_)); (case ztv13 => decide); (case rQ_start => k_is); (case ltv14 => k_is); (case vtv14 => repeat (first | exact .nil | refine .cons ⟨_, rfl⟩ ?_)); (case ztv14 => decide); (case rQ_before => k_is); (case ltv15 => k_is); (case vtv15 => repeat (first | exact .nil | refine .cons ⟨_, rfl⟩ ?_)); (case ztv15 => decide); (case rQ_after => k_is); (case ltv16 => k_is); (case vtv16 => repeat (first | exact .nil | refine .cons ⟨_, rfl⟩ ?_)); (case ztv16 => decide); (case QcS_input => k_is); (case QcS_const => k_is); (case QcS_add => k_is); (case QcS_sub => k_is); (case QcS_mul => k_is); (case QcS_max => k_is); (case QcS_min => k_is); (case QcS_less => k_is); (case QcS_equal => k_is); (case QcS_neg => k_is); (case QcS_clamp => k_is); (case QcS_shift => k_is); (case QcS_where => k_is); (case QcS_sum => k_is); (case QcS_peak => k_is); (case QcS_dot => k_is); (case QcS_order => k_is); (case QcS_rename => k_is); (case QcS_spread => k_is); (case QcS_cut => k_is); (case QcS_pad => k_is); (case QcS_join => k_is); (case QcS_window => k_is); (case QcS_fold => k_is); (case QcS_gather => k_is); (case QcI_input => k_is); (case QcI_const => k_is); (case QcI_add => k_is); (case QcI_sub => k_is); (case QcI_mul => k_is); (case QcI_max => k_is); (case QcI_min => k_is); (case QcI_less => k_is); (case QcI_equal => k_is); (case QcI_neg => k_is); (case QcI_clamp => k_is); (case QcI_shift => k_is); (case QcI_where => k_is); (case QcI_sum => k_is); (case QcI_peak => k_is); (case QcI_dot => k_is); (case QcI_order => k_is); (case QcI_rename => k_is); (case QcI_spread => k_is); (case QcI_cut => k_is); (case QcI_pad => k_is); (case QcI_join => k_is); (case QcI_window => k_is); (case QcI_fold => k_is); (case QcI_gather => k_is); (case QcM_add => k_is); (case QcM_max => k_is); (case QcM_min => k_is); (case QcM_clamp => k_is); (case QcM_shift => k_is); (case z_abs => k_is); (case z_all => k_is); (case z_bool => k_is); (case z_dict => k_is); (case z_enumerate => k_is); (case z_int => k_is); (case z_isinstance => k_is); (case z_len => k_is); (case z_list => k_is); (case z_max => k_is); (case z_min => k_is); (case z_range => k_is); (case z_reversed => k_is); (case z_set => k_is); (case z_sorted => k_is); (case z_tuple => k_is); (case z_zip => k_is)
