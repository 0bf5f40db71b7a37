import PyProof.Rows.All
import Wide.All
import OpenK.AllK
import Wide.FinOn
import HandS.ForMost
import HandS.IsInst
import HandS.Conv
import HandS.SetFor
import HandS.Strs
import HandS.NoneIn
import PySem.Challenge.RW_depotday_k13_pieces_of_a_net
set_option Elab.async false
set_option linter.all false
set_option maxRecDepth 100000
set_option maxHeartbeats 8000000
namespace DD
open PySem L2
/-! the text by its places -/
def topS (i : Nat) : Stmt := PySem.Challenge.pw_depotday_k13_pieces_of_a_net.main.body.getD i (.Pass ⟨0, 0, 0, 0⟩)
abbrev sSpan : Stmt := topS 10
abbrev sChk : Stmt := topS 11
abbrev sInit : Stmt := inClass (topS 12) 0
abbrev sPie : Stmt := inClass (topS 12) 4
abbrev sCell : Stmt := topS 14
abbrev sPool : Stmt := topS 15
abbrev sTake : Stmt := topS 16
abbrev sSame : Stmt := topS 17
abbrev sLen : Stmt := topS 18
abbrev sPerm : Stmt := topS 19
abbrev sSpn : Stmt := topS 20
abbrev sAny : Stmt := topS 21
abbrev sChd : Stmt := topS 22
abbrev sSpo : Stmt := topS 23
abbrev sJnd : Stmt := topS 24
abbrev sPgd : Stmt := topS 25
abbrev sLaw : Stmt := topS 26
/-- what the top has written, as the walks ask for it -/
structure Tx (K : PySem.W.Frag) (mg : Str → Option Value) where
  t_LEAST_ROUND : Tok
  c_LEAST_ROUND : mg "LEAST_ROUND" = some (.int 2 t_LEAST_ROUND)
  t_MOST_ROUND : Tok
  c_MOST_ROUND : mg "MOST_ROUND" = some (.int 60 t_MOST_ROUND)
  t_MOST_EVENTS : Tok
  c_MOST_EVENTS : mg "MOST_EVENTS" = some (.int 12 t_MOST_EVENTS)
  t_MOST_SPANS : Tok
  c_MOST_SPANS : mg "MOST_SPANS" = some (.int 24 t_MOST_SPANS)
  t_MOST_ON_SPAN : Tok
  c_MOST_ON_SPAN : mg "MOST_ON_SPAN" = some (.int 999 t_MOST_ON_SPAN)
  z_len : mg "len" = none
  z_min : mg "min" = none
  z_enumerate : mg "enumerate" = none
  z_tuple : mg "tuple" = none
  z_list : mg "list" = none
  z_range : mg "range" = none
  z_sorted : mg "sorted" = none
  z_set : mg "set" = none
  z_abs : mg "abs" = none
  z_int : mg "int" = none
  z_bool : mg "bool" = none
  z_str : mg "str" = none
  z_isinstance : mg "isinstance" = none
  C_Net : Addr
  g_Net : mg "Net" = some (.ref C_Net)
  cl_Net : Cls K C_Net
  na_Net_round_length : NoAttr K C_Net "round_length"
  na_Net_events : NoAttr K C_Net "events"
  na_Net_spans : NoAttr K C_Net "spans"
  fis_span : Addr
  dis_span : FuncData
  Fis_span : Fun K "is_span" "is_span" sSpan fis_span dis_span
  bis_span : Binds K dis_span ["span", "round_length", "events"] []
  gis_span : mg "is_span" = some (.ref fis_span)
  fcheck_net : Addr
  dcheck_net : FuncData
  Fcheck_net : Fun K "check_net" "check_net" sChk fcheck_net dcheck_net
  bcheck_net : Binds K dcheck_net ["round_length", "events", "spans"] []
  gcheck_net : mg "check_net" = some (.ref fcheck_net)
  fNet_init : Addr
  dNet_init : FuncData
  FNet_init : Fun K "__init__" "Net.__init__" sInit fNet_init dNet_init
  bNet_init : Binds K dNet_init ["self", "round_length", "events", "spans"] []
  M_Net : Mk K C_Net fNet_init
  fNet_pieces : Addr
  dNet_pieces : FuncData
  FNet_pieces : Fun K "pieces" "Net.pieces" sPie fNet_pieces dNet_pieces
  bNet_pieces : Binds K dNet_pieces ["self"] []
  m_Net_pieces : Meth K C_Net "pieces" fNet_pieces
  f_law_cell : Addr
  d_law_cell : FuncData
  F_law_cell : Fun K "_law_cell" "_law_cell" sCell f_law_cell d_law_cell
  b_law_cell : Binds K d_law_cell ["_law_script", "_law_k"] []
  g_law_cell : mg "_law_cell" = some (.ref f_law_cell)
  f_law_pool : Addr
  d_law_pool : FuncData
  F_law_pool : Fun K "_law_pool" "_law_pool" sPool f_law_pool d_law_pool
  b_law_pool : Binds K d_law_pool ["_law_script", "_law_k"] []
  g_law_pool : mg "_law_pool" = some (.ref f_law_pool)
  f_law_take : Addr
  d_law_take : FuncData
  F_law_take : Fun K "_law_take" "_law_take" sTake f_law_take d_law_take
  b_law_take : Binds K d_law_take ["_law_pool_here", "_law_many"] []
  g_law_take : mg "_law_take" = some (.ref f_law_take)
  f_law_same : Addr
  d_law_same : FuncData
  F_law_same : Fun K "_law_same" "_law_same" sSame f_law_same d_law_same
  b_law_same : Binds K d_law_same ["_law_got", "_law_due"] []
  g_law_same : mg "_law_same" = some (.ref f_law_same)
  f_law_length : Addr
  d_law_length : FuncData
  F_law_length : Fun K "_law_length" "_law_length" sLen f_law_length d_law_length
  b_law_length : Binds K d_law_length ["_law_pool_here"] []
  g_law_length : mg "_law_length" = some (.ref f_law_length)
  f_law_perm : Addr
  d_law_perm : FuncData
  F_law_perm : Fun K "_law_perm" "_law_perm" sPerm f_law_perm d_law_perm
  b_law_perm : Binds K d_law_perm ["_law_pool_here", "_law_many"] []
  g_law_perm : mg "_law_perm" = some (.ref f_law_perm)
  f_law_span : Addr
  d_law_span : FuncData
  F_law_span : Fun K "_law_span" "_law_span" sSpn f_law_span d_law_span
  b_law_span : Binds K d_law_span ["_law_pool_here", "_law_length_here", "_law_start", "_law_end"] []
  g_law_span : mg "_law_span" = some (.ref f_law_span)
  f_law_any_spans : Addr
  d_law_any_spans : FuncData
  F_law_any_spans : Fun K "_law_any_spans" "_law_any_spans" sAny f_law_any_spans d_law_any_spans
  b_law_any_spans : Binds K d_law_any_spans ["_law_pool_here", "_law_length_here", "_law_many", "_law_count"] []
  g_law_any_spans : mg "_law_any_spans" = some (.ref f_law_any_spans)
  f_law_chained : Addr
  d_law_chained : FuncData
  F_law_chained : Fun K "_law_chained" "_law_chained" sChd f_law_chained d_law_chained
  b_law_chained : Binds K d_law_chained ["_law_pool_here", "_law_length_here", "_law_many"] []
  g_law_chained : mg "_law_chained" = some (.ref f_law_chained)
  f_law_spans_of : Addr
  d_law_spans_of : FuncData
  F_law_spans_of : Fun K "_law_spans_of" "_law_spans_of" sSpo f_law_spans_of d_law_spans_of
  b_law_spans_of : Binds K d_law_spans_of ["_law_pool_here", "_law_length_here", "_law_many"] []
  g_law_spans_of : mg "_law_spans_of" = some (.ref f_law_spans_of)
  f_law_joined : Addr
  d_law_joined : FuncData
  F_law_joined : Fun K "_law_joined" "_law_joined" sJnd f_law_joined d_law_joined
  b_law_joined : Binds K d_law_joined ["_law_many", "_law_spans"] []
  g_law_joined : mg "_law_joined" = some (.ref f_law_joined)
  f_law_pieces_good : Addr
  d_law_pieces_good : FuncData
  F_law_pieces_good : Fun K "_law_pieces_good" "_law_pieces_good" sPgd f_law_pieces_good d_law_pieces_good
  b_law_pieces_good : Binds K d_law_pieces_good ["_law_net", "_law_due"] []
  g_law_pieces_good : mg "_law_pieces_good" = some (.ref f_law_pieces_good)
  flaw : Addr
  dlaw : FuncData
  Flaw : Fun K "law" "law" sLaw flaw dlaw
  blaw : Binds K dlaw ["_law_script"] []
  glaw : mg "law" = some (.ref flaw)
end DD

namespace DD
open PySem PySem.Spec PyProof.Rows L2
/-! ### small words -/
theorem iteD {c A B : Prop} [Decidable c] (hc : ¬ c) (h : B) : if decide c = true then A else B := by
  rw [decide_eq_false hc]
  exact iteF h
theorem iteDT {c A B : Prop} [Decidable c] (hc : c) (h : A) : if decide c = true then A else B := by
  rw [decide_eq_true hc]
  exact iteT h
theorem iteND {c A B : Prop} [Decidable c] (hc : c) (h : B) : if (!decide c) = true then A else B := iteNS hc h
theorem iteDs {c A B : Prop} [Decidable c] (h1 : c → A) (h2 : ¬ c → B) : if decide c = true then A else B := by
  by_cases h : c
  · exact iteDT h (h1 h)
  · exact iteD h (h2 h)
/-- a op b op c op d, three comparisons -/
def tChain3 (r r' r'' : R2) (ta tb tc td : TE) : TE := fun σ H Q => ta σ H fun x H1 => tb σ H1 fun y H2 => r x y H2 fun z H3 => ∃ k, z = .bl k ∧
  (if k = true then tc σ H3 fun y' H4 => r' y y' H4 fun z' H5 => ∃ k', z' = .bl k' ∧ (if k' = true then td σ H5 fun y'' H6 => r'' y' y'' H6 Q else Q (.bl false) H5) else Q (.bl false) H3)
theorem pe_chain3 {X : Cx} {a b c d : Expr} {pos : Pos} {ta tb tc td : TE} {op op' op2 : CmpOp} {r r' r'' : R2} (ho : OpR X (compareOp op) r) (ho' : OpR X (compareOp op') r') (ho2 : OpR X (compareOp op2) r'')
    (ha : PE X a ta) (hb : PE X b tb) (hc : PE X c tc) (hd : PE X d td) (hm : lastMarks [op, op', op2] [b, c, d] = false := by with_unfolding_all rfl) : PE X (.Compare a [op, op', op2] [b, c, d] pos) (tChain3 r r' r'' ta tb tc td) := by
  refine ⟨fun pins s σ H Q I h => ?_⟩
  refine Compare_chain (thn (ha.run pins s σ H _ I h) fun v s1 ⟨x, H1, I1, r1, q1⟩ => chain_link (thn (hb.run pins s1 σ H1 _ I1 q1) fun u s2 ⟨y, H2, I2, r2, q2⟩ =>
    thn (ho pins s2 σ H2 x y v u _ I2 r1 r2 q2) fun d s3 ⟨z, H3, I3, r3, k, e, q3⟩ => ?_)) hm
  subst e
  cases r3
  refine wpAny_truthy_bool ?_
  cases k with
  | false => exact ite_ff ⟨.bl false, H3, I3, rfl, q3⟩
  | true =>
    refine ite_tt (chain_link (thn (hc.run pins s3 σ H3 _ I3 q3) fun u' s4 ⟨y', H4, I4, r4, q4⟩ => thn (ho' pins s4 σ H4 y y' u u' _ I4 r2 r4 q4) fun d' s5 ⟨z', H5, I5, r5, k', e', q5⟩ => ?_))
    subst e'
    cases r5
    refine wpAny_truthy_bool ?_
    cases k' with
    | false => exact ite_ff ⟨.bl false, H5, I5, rfl, q5⟩
    | true => exact ite_tt (chain_last (thn (hd.run pins s5 σ H5 _ I5 q5) fun w' s6 ⟨y2, H6, I6, r6, q6⟩ => ho2 pins s6 σ H6 y' y2 u' w' Q I6 r4 r6 q6))
/-- isinstance of a built-in class -/
theorem isi {K : PySem.W.Frag} {H : Hp} {x : V} {a b : String} {r : Bool} {Q : VK} (h : TyX K H x (.type a)) (k : kitB a b = some r) (q : Q (.bl r) H) : rIsi K [x, .ty b] H Q :=
  ⟨x, .ty b, _, _, r, rfl, .ty b, h, kit_ty k, q⟩
/-! ### heaps -/
def But (p : Addr) (H H' : Hp) : Prop := ∀ b o, b ≠ p → H b = some o → H' b = some o
theorem But.refl (p : Addr) (H : Hp) : But p H H := fun _ _ _ h => h
theorem But.trans {p : Addr} {H H1 H2 : Hp} (a : But p H H1) (b : But p H1 H2) : But p H H2 := fun c o n h => b c o n (a c o n h)
theorem But.of {p : Addr} {H H' : Hp} (s : Same H H') : But p H H' := fun b o _ h => s b o h
theorem But.put {p : Addr} {H : Hp} {o : HO} : But p H (upd H p o) := fun b u n h => by
  rw [upd_ne n]
  exact h
theorem same_upd {H : Hp} {p : Addr} {o : HO} (h : H p = none) : Same H (upd H p o) := fun b x e => by
  rw [upd_ne (ne_of_none e h)]
  exact e
/-- a fresh object was changed -/
theorem Same.put {H H' : Hp} {p : Addr} {o : HO} (s : Same H H') (h : H p = none) : Same H (upd H' p o) := fun b x e => by
  rw [upd_ne (ne_of_none e h)]
  exact s b x e
theorem But.put' {q : Addr} {H H' : Hp} {p : Addr} {o : HO} (s : But q H H') (h : H p = none) : But q H (upd H' p o) := fun b x n e => by
  rw [upd_ne (ne_of_none e h)]
  exact s b x n e
/-- what is free behind was free before, but for the pool -/
theorem But.free {p : Addr} {H H' : Hp} (e : But p H H') {l : Addr} (hl : l ≠ p) (h : H' l = none) : H l = none := by
  cases q : H l with
  | none => rfl
  | some o =>
    rw [e l o hl q] at h
    cases h
def Pool (H : Hp) (p : Addr) : Prop := ∃ x f c : Int, H p = some (.lst [.int x, .int f, .int c])
theorem Pool.ne {H : Hp} {p l : Addr} (h : Pool H p) (hl : H l = none) : l ≠ p := fun e => by
  obtain ⟨x, f, c, h⟩ := h
  rw [e, h] at hl
  cases hl
theorem Pool.same {H H' : Hp} {p : Addr} (h : Pool H p) (s : Same H H') : Pool H' p := by
  obtain ⟨x, f, c, h⟩ := h
  exact ⟨x, f, c, s _ _ h⟩
theorem Pool.upd {H : Hp} {p l : Addr} {o : HO} (h : Pool H p) (hl : l ≠ p) : Pool (upd H l o) p := by
  obtain ⟨x, f, c, h⟩ := h
  exact ⟨x, f, c, by rw [upd_ne hl.symm]; exact h⟩
section
variable {P : Program} {w : World} {K : PySem.W.Frag} {mg : Str → Option Value} {base : Heap}
/-! ### cell, pool, take -/
def spCell (K : PySem.W.Frag) : Sp := fun vs H Q _ => ∃ (a : Addr) (ns : List Int) (k : Nat), vs = [.ref a, .int k] ∧ SqL K H a (ns.map V.int) ∧ ∀ i : Int, Q (.int i) H
theorem scCell : FnScope ["_law_script", "_law_k"] ["_law_script", "_law_k"] (defScope sCell) := ⟨rfl, rfl, rfl, by decide +kernel, rfl, by decide +kernel, by decide +kernel⟩
theorem ok_cell (T : Tx K mg) : FnOk P w K mg base CX0 1 T.f_law_cell T.d_law_cell ["_law_script", "_law_k"] (spCell K) := by
  refine T.F_law_cell.ok scCell (fun vs H Q E h => ?_) (fun cdv A outer s H vs Q E hr h => ?_)
  · obtain ⟨a, ns, k, rfl, _⟩ := h
    rfl
  · obtain ⟨a, ns, k, rfl, hS, q⟩ := h
    refine ⟨_, pss_cons (ps_if (pt_cmpR op_lt (pv 1) (pe_callB call_len_seq (by rfl) T.z_len (by decide +kernel) (pa_cons (pv 0) pa_nil)) (nomark _)) (pss_one (ps_ret (pe_callB call_abs (by rfl) T.z_abs (by decide +kernel) (pa_cons (pe_ix ix_list (pv 0) (pv 1) (fun _ _ => rfl)) pa_nil)))) (pss_nil))
      (pss_one (ps_ret pe_int)), ?_⟩
    refine ⟨_, rfl, _, rfl, a, _, rfl, .inl hS, _, _, rfl, rfl, _, rfl, iteDs (fun h => ?_) (fun _ => q _)⟩
    have hk : k < ns.length := by
      rw [List.length_map] at h
      omega
    refine ⟨_, rfl, _, rfl, a, _, _, .int ns[k], rfl, rfl, hS, atI_nat (by rw [List.getElem?_map, List.getElem?_eq_getElem hk]; rfl), _, rfl, q _⟩
def spPool (K : PySem.W.Frag) : Sp := fun vs H Q _ => ∃ (a : Addr) (ns : List Int) (k : Nat), vs = [.ref a, .int k] ∧ SqL K H a (ns.map V.int) ∧ k ≤ 1000 ∧ ∀ H' p, H p = none → Same H H' → Pool H' p → Q (.ref p) H'
theorem scPool : FnScope ["_law_script", "_law_k", "_law_cell_here"] ["_law_script", "_law_k"] (defScope sPool) := ⟨rfl, rfl, rfl, by decide +kernel, rfl, by decide +kernel, by decide +kernel⟩
theorem ok_pool (T : Tx K mg) : FnOk P w K mg base CX0 2 T.f_law_pool T.d_law_pool ["_law_script", "_law_k"] (spPool K) := by
  have G_law_cell := ok_cell (P := P) (w := w) (base := base) T
  refine T.F_law_pool.ok scPool (fun vs H Q E h => ?_) (fun cdv A outer s H vs Q E hr h => ?_)
  · obtain ⟨a, ns, k, rfl, _⟩ := h
    rfl
  · obtain ⟨a, ns, k, rfl, hS, hk, q⟩ := h
    refine ⟨_, pss_cons (ps_set (i := 2) scPool.nd rfl (.inl rfl) (pe_call G_law_cell hr (by rfl) T.g_law_cell T.F_law_cell.kp T.b_law_cell .nil pass0 (pa_cons (pv 0) (pa_cons (pv 1) pa_nil))))
      (pss_one (ps_ret (pe_lst (pa_cons (pv 2) (pa_cons (pe_callTy call_int1 (by rfl) T.z_int (by decide +kernel) (pa_cons (pe_cmpR op_ge (pv 2) (pe_op op_pow pe_int pe_int) (nomark _)) pa_nil)) (pa_cons (pe_op op_mul pe_int (pv 1)) pa_nil)))))), ?_⟩
    refine ⟨_, rfl, _, rfl, a, ns, k, rfl, hS, fun i => ?_⟩
    refine ⟨_, rfl, _, rfl, _, _, rfl, rfl, ⟨by decide, by decide, by decide⟩, _, _, rfl, rfl, .inr ⟨_, rfl, _, rfl, _, _, rfl, rfl, .inl ⟨by decide, by decide⟩, (by show 3 ≤ sizeLine; decide), fun p hp => ?_⟩⟩
    exact q _ p hp (same_upd hp) ⟨_, _, _, upd_same⟩
def spTake : Sp := fun vs H Q _ => ∃ (p : Addr) (m : Int), vs = [.ref p, .int m] ∧ Pool H p ∧ 0 < m ∧ m < 1073741824 ∧ ∀ H' r, 0 ≤ r → r < m → Pool H' p → (∀ b, b ≠ p → H' b = H b) → Q (.int r) H'
theorem scTake : FnScope ["_law_pool_here", "_law_many", "_law_drawn", "_law_mixed"] ["_law_pool_here", "_law_many"] (defScope sTake) := ⟨rfl, rfl, rfl, by decide +kernel, rfl, by decide +kernel, by decide +kernel⟩
theorem mulOk {i j : Int} (h : 0 ≤ j) (h2 : j < 1000000) : CMul i j := .inr ⟨by omega, by omega⟩
/-- a remainder as a letter -/
theorem rmod {i j : Int} {R : Int → Prop} (hj : 0 < j) (q : ∀ r : Int, 0 ≤ r → r < j → R r) : ∃ r : Int, i % j = r ∧ 0 ≤ r ∧ r < j ∧ R r :=
  ⟨i % j, rfl, Int.emod_nonneg _ (by omega), Int.emod_lt_of_pos _ hj, q _ (Int.emod_nonneg _ (by omega)) (Int.emod_lt_of_pos _ hj)⟩
theorem emod_b (i : Int) {j : Int} (hj : 0 < j) : 0 ≤ i % j ∧ i % j < j := ⟨Int.emod_nonneg _ (by omega), Int.emod_lt_of_pos _ hj⟩
theorem ok_take (T : Tx K mg) : FnOk P w K mg base CX0 1 T.f_law_take T.d_law_take ["_law_pool_here", "_law_many"] spTake := by
  refine T.F_law_take.ok scTake (fun vs H Q E h => ?_) (fun cdv A outer s H vs Q E hr h => ?_)
  · obtain ⟨p, m, rfl, _⟩ := h
    rfl
  · obtain ⟨p, m, rfl, ⟨x, f, c, hp⟩, hm, hm2, q⟩ := h
    refine ⟨_, pss_cons (ps_if (PW.pt (pw_and (pt_cmpR op_eq (pe_ix ix_list (pv 0) pe_int (fun _ _ => rfl)) pe_int (nomark _)) (pw_and1 (pt_cmpR op_gt (pe_ix ix_list (pv 0) pe_int (fun _ _ => rfl)) pe_int (nomark _))))) (pss_cons (ps_set (i := 2) scTake.nd rfl (.inl rfl) (pe_op op_mod (pe_callTy call_int1 (by rfl) T.z_int (by decide +kernel) (pa_cons (pe_ix ix_list (pv 0) pe_int (fun _ _ => rfl)) pa_nil)) (pv 1)))
      (pss_cons (ps_asg (pe_op op_fdiv (pe_ix ix_list (pv 0) pe_int (fun _ _ => rfl)) (pv 1)) (pg_sub (pv 0) pe_int set_list))
      (pss_one (ps_ret (pv 2))))) (pss_nil))
      (pss_cons (ps_asg (pe_op op_add (pe_ix ix_list (pv 0) pe_int (fun _ _ => rfl)) pe_int) (pg_sub (pv 0) pe_int set_list))
      (pss_cons (ps_set (i := 3) scTake.nd rfl (.inl rfl) (pe_op op_mod (pe_callTy call_int1 (by rfl) T.z_int (by decide +kernel) (pa_cons (pe_op op_add (pe_op op_mul (pe_op op_add (pe_ix ix_list (pv 0) pe_int (fun _ _ => rfl)) pe_int) pe_int) (pe_op op_mul (pe_ix ix_list (pv 0) pe_int (fun _ _ => rfl)) pe_int)) pa_nil)) pe_int))
      (pss_cons (ps_set (i := 3) scTake.nd rfl (.inl rfl) (pe_op op_mod (pe_callTy call_int1 (by rfl) T.z_int (by decide +kernel) (pa_cons (pe_op op_add (pe_op op_mul (pv 3) pe_int) (pe_op op_mul (pe_ix ix_list (pv 0) pe_int (fun _ _ => rfl)) pe_int)) pa_nil)) pe_int))
      (pss_cons (ps_if (pt_cmpR op_gt (pe_ix ix_list (pv 0) pe_int (fun _ _ => rfl)) pe_int (nomark _)) (pss_one (ps_set (i := 3) scTake.nd rfl (.inl rfl) (pe_op op_mod (pe_callTy call_int1 (by rfl) T.z_int (by decide +kernel) (pa_cons (pe_op op_mul (pe_op op_fdiv (pv 3) pe_int) (pe_op op_add (pe_op op_add (pe_op op_fdiv (pv 3) pe_int) (pe_ix ix_list (pv 0) pe_int (fun _ _ => rfl))) pe_int)) pa_nil)) pe_int))) (pss_nil))
      (pss_one (ps_ret (pe_op op_mod (pe_callTy call_int1 (by rfl) T.z_int (by decide +kernel) (pa_cons (pe_op op_fdiv (pv 3) pe_int) pa_nil)) (pv 1)))))))), ?_⟩
    have hL := SqL.of (K := K) hp
    -- pool[1] == 1 and pool[0] > 1
    refine ⟨_, rfl, p, _, _, _, rfl, rfl, hL, rfl, rfl, _, rfl, ?_⟩
    refine iteDs (fun h1 => ⟨_, rfl, p, _, _, _, rfl, rfl, hL, rfl, _, _, rfl, rfl, _, rfl, iteDs (fun h2 => ?c) (fun _ => ?t1)⟩) (fun _ => ?t2)
    case c =>
      refine ⟨_, rfl, p, _, _, _, rfl, rfl, hL, rfl, .inl ⟨_, rfl, _, rfl, _, _, rfl, rfl, hm, ?_⟩⟩
      have hb := emod_b x hm
      refine ⟨_, rfl, p, _, _, _, rfl, rfl, hL, rfl, _, rfl, _, _, rfl, rfl, ⟨hm, hm2⟩, _, rfl, p, _, _, _, rfl, rfl, hp, rfl, ?_⟩
      exact ⟨_, rfl, q _ _ hb.1 hb.2 ⟨_, _, _, upd_same⟩ fun b hb => upd_ne hb⟩
    all_goals
      refine ⟨_, rfl, p, _, _, _, rfl, rfl, hL, rfl, _, _, rfl, rfl, _, rfl, p, _, _, _, rfl, rfl, hp, rfl, ?_⟩
      have hp1 : (upd H p (.lst (([.int x, .int f, .int c] : List V).set 2 (.int (c + 1))))) p = some (.lst [.int x, .int f, .int (c + 1)]) := upd_same
      have hL1 := SqL.of (K := K) hp1
      refine ⟨_, rfl, p, _, _, _, rfl, rfl, hL1, rfl, _, _, rfl, rfl, _, _, rfl, rfl, mulOk (by decide) (by decide), _, rfl, p, _, _, _, rfl, rfl, hL1, rfl, _, _, rfl, rfl, mulOk (by decide) (by decide), _, _, rfl, rfl, .inl ⟨_, rfl, _, _, rfl, rfl, (show (0 : Int) < 2147483629 by decide), ?_⟩⟩
      refine ⟨_, rfl, _, _, rfl, rfl, mulOk (by decide) (by decide), _, rfl, p, _, _, _, rfl, rfl, hL1, rfl, _, _, rfl, rfl, mulOk (by decide) (by decide), _, _, rfl, rfl, .inl ⟨_, rfl, _, _, rfl, rfl, (show (0 : Int) < 2147483587 by decide), ?_⟩⟩
      refine ⟨_, rfl, p, _, _, _, rfl, rfl, hL1, rfl, _, _, rfl, rfl, _, rfl, iteDs (fun _ => ?_) (fun _ => ?_)⟩
      · refine ⟨_, rfl, _, _, rfl, rfl, ⟨by decide, by decide⟩, _, rfl, _, _, rfl, rfl, ⟨by decide, by decide⟩, _, rfl, p, _, _, _, rfl, rfl, hL1, rfl, _, _, rfl, rfl, _, _, rfl, rfl, _, _, rfl, rfl, .inl ⟨by omega, by omega⟩, .inl ⟨_, rfl, _, _, rfl, rfl, (show (0 : Int) < 2147483563 by decide), ?_⟩⟩
        refine ⟨_, rfl, _, _, rfl, rfl, ⟨by decide, by decide⟩, .inl ⟨_, rfl, _, rfl, _, _, rfl, rfl, hm, ?_⟩⟩
        exact q _ _ (emod_b _ hm).1 (emod_b _ hm).2 ⟨_, _, _, hp1⟩ fun b hb => upd_ne hb
      · refine ⟨_, rfl, _, _, rfl, rfl, ⟨by decide, by decide⟩, .inl ⟨_, rfl, _, rfl, _, _, rfl, rfl, hm, ?_⟩⟩
        exact q _ _ (emod_b _ hm).1 (emod_b _ hm).2 ⟨_, _, _, hp1⟩ fun b hb => upd_ne hb
end
end DD

namespace DD
open PySem PySem.Spec PyProof.Rows L2
section
variable {P : Program} {w : World} {K : PySem.W.Frag} {mg : Str → Option Value} {base : Heap}
/-! ### the same datum twice -/
/-- both show one datum of depth below n; scalars are ints -/
def Rp : Nat → Hp → V → V → Prop
  | 0, _, _, _ => False
  | n + 1, H, u, v => (∃ i : Int, u = .int i ∧ v = .int i) ∨ ∃ (a b : Addr) (xs ys : List V), u = .ref a ∧ v = .ref b ∧ ((H a = some (.lst xs) ∧ H b = some (.lst ys)) ∨ (H a = some (.tup xs) ∧ H b = some (.tup ys))) ∧
      xs.length = ys.length ∧ xs.length ≤ 1000 ∧ ∀ (i : Nat) (x y : V), xs[i]? = some x → ys[i]? = some y → Rp n H x y
theorem Rp.same {H H' : Hp} (s : Same H H') : ∀ {n : Nat} {u v : V}, Rp n H u v → Rp n H' u v
  | 0, _, _, h => h.elim
  | n + 1, _, _, .inl h => .inl h
  | n + 1, _, _, .inr ⟨a, b, xs, ys, e1, e2, h, hl, hz, hr⟩ => .inr ⟨a, b, xs, ys, e1, e2, h.elim (fun q => .inl ⟨s _ _ q.1, s _ _ q.2⟩) (fun q => .inr ⟨s _ _ q.1, s _ _ q.2⟩), hl, hz, fun i x y hx hy => Rp.same s (hr i x y hx hy)⟩
def spSame (n : Nat) : Sp := fun vs H Q _ => ∃ u v : V, vs = [u, v] ∧ Rp n H u v ∧ Q (.bl true) H
theorem scSame : FnScope ["_law_got", "_law_due", "_law_k"] ["_law_got", "_law_due"] (defScope sSame) := ⟨rfl, rfl, rfl, by decide +kernel, rfl, by decide +kernel, by decide +kernel⟩
theorem ok_same (T : Tx K mg) : ∀ n : Nat, FnOk P w K mg base CX0 n T.f_law_same T.d_law_same ["_law_got", "_law_due"] (spSame n)
  | 0 => ⟨fun vs H Q E ⟨u, v, _, h, _⟩ => h.elim, fun A outer s H args us vs Q E _ _ _ _ ⟨u, v, _, h, _⟩ => h.elim⟩
  | n + 1 => by
    have G_law_same := ok_same T n
    refine T.F_law_same.ok scSame (fun vs H Q E h => ?_) (fun cdv A outer s H vs Q E hr h => ?_)
    · obtain ⟨u, v, rfl, _⟩ := h
      rfl
    · obtain ⟨u, v, rfl, hR, q⟩ := h
      rcases hR with ⟨i, rfl, rfl⟩ | ⟨a, b, xs, ys, rfl, rfl, hab, hl, hz, hr2⟩
      · refine ⟨_, pss_cons (ps_if (PW.pt (pw_or (pt_val (pe_callB call_isi (by rfl) T.z_isinstance (by decide +kernel) (pa_cons (pv 0) (pa_cons (pe_bltn (v := .ty "bool") (by rfl) T.z_bool (by decide +kernel) rfl) pa_nil)))) (pw_or1 (pt_val (pe_callB call_isi (by rfl) T.z_isinstance (by decide +kernel) (pa_cons (pv 1) (pa_cons (pe_bltn (v := .ty "bool") (by rfl) T.z_bool (by decide +kernel) rfl) pa_nil))))))) (pss_one ps_never) (pss_nil))
          (pss_cons (ps_if (PW.pt (pw_or (pt_cmpR op_isN (pv 0) pe_non (nomark _)) (pw_or1 (pt_cmpR op_isN (pv 1) pe_non (nomark _))))) (pss_one ps_never) (pss_nil))
          (pss_cons (ps_if (pt_val (pe_callB call_isi (by rfl) T.z_isinstance (by decide +kernel) (pa_cons (pv 1) (pa_cons (pe_bltn (v := .ty "int") (by rfl) T.z_int (by decide +kernel) rfl) pa_nil)))) (pss_one (ps_ret (pe_and (pe_callB call_isi (by rfl) T.z_isinstance (by decide +kernel) (pa_cons (pv 0) (pa_cons (pe_bltn (v := .ty "int") (by rfl) T.z_int (by decide +kernel) rfl) pa_nil))) (pe_one (pe_cmpR op_eq (pv 0) (pv 1) (nomark _)))))) (pss_nil))
          (pss_cons ps_never (pss_cons ps_never (pss_cons ps_never (pss_cons ps_never (pss_cons ps_never (pss_one ps_never)))))))), ?_⟩
        refine ⟨_, rfl, _, _, _, _, _, rfl, .ty _, (.base (.int i)), kit_ty (by decide +kernel), ⟨_, rfl, iteF ⟨_, rfl, _, _, _, _, _, rfl, .ty _, (.base (.int i)), kit_ty (by decide +kernel), ⟨_, rfl, iteF ?_⟩⟩⟩⟩
        refine ⟨_, rfl, rfl, _, rfl, iteD (by intro z; cases z) ⟨_, rfl, rfl, _, rfl, iteD (by intro z; cases z) ?_⟩⟩
        refine ⟨_, rfl, _, _, _, _, _, rfl, .ty _, (.base (.int i)), kit_ty (by decide +kernel), ⟨_, rfl, iteT ⟨_, rfl, _, _, _, _, _, rfl, .ty _, (.base (.int i)), kit_ty (by decide +kernel), ⟨_, rfl, iteT ⟨_, rfl, _, rfl, rfl, ?_⟩⟩⟩⟩⟩
        rw [decide_eq_true rfl]
        exact q
      · refine ⟨_, pss_cons (ps_if (PW.pt (pw_or (pt_val (pe_callB call_isi (by rfl) T.z_isinstance (by decide +kernel) (pa_cons (pv 0) (pa_cons (pe_bltn (v := .ty "bool") (by rfl) T.z_bool (by decide +kernel) rfl) pa_nil)))) (pw_or1 (pt_val (pe_callB call_isi (by rfl) T.z_isinstance (by decide +kernel) (pa_cons (pv 1) (pa_cons (pe_bltn (v := .ty "bool") (by rfl) T.z_bool (by decide +kernel) rfl) pa_nil))))))) (pss_one ps_never) (pss_nil))
          (pss_cons (ps_if (PW.pt (pw_or (pt_cmpR op_isN (pv 0) pe_non (nomark _)) (pw_or1 (pt_cmpR op_isN (pv 1) pe_non (nomark _))))) (pss_one ps_never) (pss_nil))
          (pss_cons (ps_if (pt_val (pe_callB call_isi (by rfl) T.z_isinstance (by decide +kernel) (pa_cons (pv 1) (pa_cons (pe_bltn (v := .ty "int") (by rfl) T.z_int (by decide +kernel) rfl) pa_nil)))) (pss_one ps_never) (pss_nil))
          (pss_cons (ps_if (pt_val (pe_callB call_isi (by rfl) T.z_isinstance (by decide +kernel) (pa_cons (pv 1) (pa_cons (pe_bltn (v := .ty "str") (by rfl) T.z_str (by decide +kernel) rfl) pa_nil)))) (pss_one ps_never) (pss_nil))
          (pss_cons (ps_if (PW.pt (pw_and (pt_val (pe_callB call_isi (by rfl) T.z_isinstance (by decide +kernel) (pa_cons (pv 1) (pa_cons (pe_bltn (v := .ty "list") (by rfl) T.z_list (by decide +kernel) rfl) pa_nil)))) (pw_and1 (pt_not (pt_val (pe_callB call_isi (by rfl) T.z_isinstance (by decide +kernel) (pa_cons (pv 0) (pa_cons (pe_bltn (v := .ty "list") (by rfl) T.z_list (by decide +kernel) rfl) pa_nil)))))))) (pss_one ps_never) (pss_nil))
          (pss_cons (ps_if (PW.pt (pw_and (pt_val (pe_callB call_isi (by rfl) T.z_isinstance (by decide +kernel) (pa_cons (pv 1) (pa_cons (pe_bltn (v := .ty "tuple") (by rfl) T.z_tuple (by decide +kernel) rfl) pa_nil)))) (pw_and1 (pt_not (pt_val (pe_callB call_isi (by rfl) T.z_isinstance (by decide +kernel) (pa_cons (pv 0) (pa_cons (pe_bltn (v := .ty "tuple") (by rfl) T.z_tuple (by decide +kernel) rfl) pa_nil)))))))) (pss_one ps_never) (pss_nil))
          (pss_cons (ps_if (pt_cmpR op_ne (pe_callB call_len_seq (by rfl) T.z_len (by decide +kernel) (pa_cons (pv 0) pa_nil)) (pe_callB call_len_seq (by rfl) T.z_len (by decide +kernel) (pa_cons (pv 1) pa_nil)) (nomark _)) (pss_one ps_never) (pss_nil))
          (pss_cons (ps_for PassesOwn.never rfl (pi_range1 (by rfl) T.z_range (pa_cons (pe_callB call_len_seq (by rfl) T.z_len (by decide +kernel) (pa_cons (pv 1) pa_nil)) pa_nil)) (pg_name (i := 2) scSame.nd rfl (.inl rfl))
            (pss_one (ps_if (pt_not (pt_val (pe_call G_law_same hr (by rfl) T.g_law_same T.F_law_same.kp T.b_law_same .nil pass0 (pa_cons (pe_ix ix_seq (pv 0) (pv 2) (fun _ _ => rfl)) (pa_cons (pe_ix ix_seq (pv 1) (pv 2) (fun _ _ => rfl)) pa_nil))))) (pss_one ps_never) (pss_nil))))
          (pss_one (ps_ret pe_bl))))))))), ?_⟩
        obtain ⟨t, ta, tb, kb, ks⟩ : ∃ t : String, TyX K H (.ref a) (.type t) ∧ TyX K H (.ref b) (.type t) ∧ (kitB t "bool" = some false ∧ kitB t "int" = some false ∧ kitB t "str" = some false) ∧ ((kitB t "list" = some true ∧ kitB t "tuple" = some false) ∨ (kitB t "list" = some false ∧ kitB t "tuple" = some true)) := by
          rcases hab with ⟨h1, h2⟩ | ⟨h1, h2⟩
          · exact ⟨"list", .base (.lst h1), .base (.lst h2), ⟨by decide +kernel, by decide +kernel, by decide +kernel⟩, .inl ⟨by decide +kernel, by decide +kernel⟩⟩
          · exact ⟨"tuple", .base (.tup h1), .base (.tup h2), ⟨by decide +kernel, by decide +kernel, by decide +kernel⟩, .inr ⟨by decide +kernel, by decide +kernel⟩⟩
        have sa : SqL K H a xs ∨ SqT K H a xs := hab.elim (fun q => .inl (SqL.of q.1)) (fun q => .inr (SqT.of q.1))
        have sb : SqL K H b ys ∨ SqT K H b ys := hab.elim (fun q => .inl (SqL.of q.2)) (fun q => .inr (SqT.of q.2))
        refine ⟨_, rfl, _, _, _, _, _, rfl, .ty _, ta, kit_ty kb.1, ⟨_, rfl, iteF ⟨_, rfl, _, _, _, _, _, rfl, .ty _, tb, kit_ty kb.1, ⟨_, rfl, iteF ?_⟩⟩⟩⟩
        refine ⟨_, rfl, rfl, _, rfl, iteD (by intro z; cases z) ⟨_, rfl, rfl, _, rfl, iteD (by intro z; cases z) ?_⟩⟩
        refine ⟨_, rfl, _, _, _, _, _, rfl, .ty _, tb, kit_ty kb.2.1, ⟨_, rfl, iteF ⟨_, rfl, _, _, _, _, _, rfl, .ty _, tb, kit_ty kb.2.2, ⟨_, rfl, iteF ?_⟩⟩⟩⟩
        have fin : ∀ {i : Nat} {z : Int} {x y : V}, z = (i : Int) → xs[i]? = some x → ys[i]? = some y → rIx K (.ref a) (.int z) H (fun x' H' => x' = x ∧ H' = H) ∧ rIx K (.ref b) (.int z) H (fun x' H' => x' = y ∧ H' = H) := fun {i z x y} ez hx hy => by
          rcases hab with ⟨h1, h2⟩ | ⟨h1, h2⟩
          · exact ⟨.inl ⟨a, xs, _, x, rfl, rfl, SqL.of h1, at_of ez hx, rfl, rfl⟩, .inl ⟨b, ys, _, y, rfl, rfl, SqL.of h2, at_of ez hy, rfl, rfl⟩⟩
          · exact ⟨.inr (.inl ⟨a, xs, _, x, rfl, rfl, SqT.of h1, at_of ez hx, rfl, rfl⟩), .inr (.inl ⟨b, ys, _, y, rfl, rfl, SqT.of h2, at_of ez hy, rfl, rfl⟩)⟩
        have im : ∀ {x : V} {y : V} {z : V} {Q' : VK}, Q' z H → rIx K x y H (fun x' H' => x' = z ∧ H' = H) → rIx K x y H Q' := fun {x y z Q'} k h => by
          rcases h with ⟨p, zs, i, v, e1, e2, e3, e4, rfl, _⟩ | ⟨p, zs, i, v, e1, e2, e3, e4, rfl, _⟩ | ⟨s, i, c, e1, e2, e3, e4, e5, _⟩
          · exact .inl ⟨p, zs, i, v, e1, e2, e3, e4, k⟩
          · exact .inr (.inl ⟨p, zs, i, v, e1, e2, e3, e4, k⟩)
          · exact .inr (.inr ⟨s, i, c, e1, e2, e3, e4, by rw [e5]; exact k⟩)
        rcases ks with ⟨k1, k2⟩ | ⟨k1, k2⟩
        · refine ⟨_, rfl, _, _, _, _, _, rfl, .ty _, tb, kit_ty k1, _, rfl, iteT ⟨_, rfl, _, _, _, _, _, rfl, .ty _, ta, kit_ty k1, _, rfl, iteF ?_⟩⟩
          refine ⟨_, rfl, _, _, _, _, _, rfl, .ty _, tb, kit_ty k2, _, rfl, iteF (iteF ?_)⟩
          refine ⟨_, rfl, a, _, rfl, sa, _, rfl, b, _, rfl, sb, rfl, _, rfl, iteND (by rw [hl]) ?_⟩
          refine ⟨_, rfl, b, _, rfl, sb, _, rfl, by omega, by omega, for_range (lo := 0) (n := ys.length) (fun _ σ H' => (∃ v, σ = [some (.ref a), some (.ref b), v]) ∧ H' = H) ⟨⟨none, rfl⟩, rfl⟩ ?_ ?_⟩
          · rintro i σ H' hi ⟨⟨v, rfl⟩, rfl⟩
            have hx := List.getElem?_eq_getElem (l := xs) (i := i) (by omega)
            have hy := List.getElem?_eq_getElem (l := ys) (i := i) (by omega)
            have e0 : (0 : Int) + (i : Int) = (i : Int) := by omega
            refine ⟨_, rfl, _, rfl, im ?_ (fin e0 hx hy).1⟩
            refine ⟨_, rfl, _, rfl, im ?_ (fin e0 hx hy).2⟩
            exact ⟨_, _, rfl, hr2 i _ _ hx hy, _, rfl, iteF ⟨⟨_, rfl⟩, rfl⟩⟩
          · rintro σ H' ⟨⟨v, rfl⟩, rfl⟩
            exact q
        · refine ⟨_, rfl, _, _, _, _, _, rfl, .ty _, tb, kit_ty k1, _, rfl, iteF (iteF ?_)⟩
          refine ⟨_, rfl, _, _, _, _, _, rfl, .ty _, tb, kit_ty k2, _, rfl, iteT ⟨_, rfl, _, _, _, _, _, rfl, .ty _, ta, kit_ty k2, _, rfl, iteF ?_⟩⟩
          refine ⟨_, rfl, a, _, rfl, sa, _, rfl, b, _, rfl, sb, rfl, _, rfl, iteND (by rw [hl]) ?_⟩
          refine ⟨_, rfl, b, _, rfl, sb, _, rfl, by omega, by omega, for_range (lo := 0) (n := ys.length) (fun _ σ H' => (∃ v, σ = [some (.ref a), some (.ref b), v]) ∧ H' = H) ⟨⟨none, rfl⟩, rfl⟩ ?_ ?_⟩
          · rintro i σ H' hi ⟨⟨v, rfl⟩, rfl⟩
            have hx := List.getElem?_eq_getElem (l := xs) (i := i) (by omega)
            have hy := List.getElem?_eq_getElem (l := ys) (i := i) (by omega)
            have e0 : (0 : Int) + (i : Int) = (i : Int) := by omega
            refine ⟨_, rfl, _, rfl, im ?_ (fin e0 hx hy).1⟩
            refine ⟨_, rfl, _, rfl, im ?_ (fin e0 hx hy).2⟩
            exact ⟨_, _, rfl, hr2 i _ _ hx hy, _, rfl, iteF ⟨⟨_, rfl⟩, rfl⟩⟩
          · rintro σ H' ⟨⟨v, rfl⟩, rfl⟩
            exact q
end
end DD

namespace DD
open PySem PySem.Spec PyProof.Rows L2
theorem Pool.eq {H H' : Hp} {p l : Addr} (h : ∀ b, b ≠ p → H' b = H b) (hl : l ≠ p) {o : HO} (e : H l = some o) : H' l = some o := by
  rw [h l hl]
  exact e
theorem But.eq {H H' : Hp} {p : Addr} (h : ∀ b, b ≠ p → H' b = H b) : But p H H' := fun b o n e => by
  rw [h b n]
  exact e
/-- an int of a written list at a drawn place -/
theorem pick6 {a b c d e f : V} {r : Int} (h0 : 0 ≤ r) (h1 : r < 6) : ∃ v, atI [a, b, c, d, e, f] r = some v ∧ (v = a ∨ v = b ∨ v = c ∨ v = d ∨ v = e ∨ v = f) := by
  have h : r = 0 ∨ r = 1 ∨ r = 2 ∨ r = 3 ∨ r = 4 ∨ r = 5 := by omega
  rcases h with rfl | rfl | rfl | rfl | rfl | rfl
  · exact ⟨a, rfl, .inl rfl⟩
  · exact ⟨b, rfl, .inr (.inl rfl)⟩
  · exact ⟨c, rfl, .inr (.inr (.inl rfl))⟩
  · exact ⟨d, rfl, .inr (.inr (.inr (.inl rfl)))⟩
  · exact ⟨e, rfl, .inr (.inr (.inr (.inr (.inl rfl))))⟩
  · exact ⟨f, rfl, .inr (.inr (.inr (.inr (.inr rfl))))⟩
section
variable {P : Program} {w : World} {K : PySem.W.Frag} {mg : Str → Option Value} {base : Heap}
/-! ### the round's length -/
def spLen : Sp := fun vs H Q _ => ∃ p : Addr, vs = [.ref p] ∧ Pool H p ∧ ∀ H' (r : Int), 2 ≤ r → r ≤ 60 → Pool H' p → But p H H' → Q (.int r) H'
theorem scLen : FnScope ["_law_pool_here"] ["_law_pool_here"] (defScope sLen) := ⟨rfl, rfl, rfl, by decide +kernel, rfl, by decide +kernel, by decide +kernel⟩
theorem ok_len (T : Tx K mg) : FnOk P w K mg base CX0 2 T.f_law_length T.d_law_length ["_law_pool_here"] spLen := by
  have G_law_take := ok_take (P := P) (w := w) (base := base) T
  refine T.F_law_length.ok scLen (fun vs H Q E h => ?_) (fun cdv A outer s H vs Q E hr h => ?_)
  · obtain ⟨p, rfl, _⟩ := h
    rfl
  · obtain ⟨p, rfl, hp, q⟩ := h
    refine ⟨_, pss_cons (ps_if (pt_cmpR op_eq (pe_call G_law_take hr (by rfl) T.g_law_take T.F_law_take.kp T.b_law_take .nil pass0 (pa_cons (pv 0) (pa_cons pe_int pa_nil))) pe_int (nomark _)) (pss_one (ps_ret (pe_op op_add pe_int (pe_call G_law_take hr (by rfl) T.g_law_take T.F_law_take.kp T.b_law_take .nil pass0 (pa_cons (pv 0) (pa_cons pe_int pa_nil)))))) (pss_nil))
      (pss_one (ps_ret (pe_ix ix_list (pe_lst (pa_cons pe_int (pa_cons pe_int (pa_cons pe_int (pa_cons pe_int (pa_cons pe_int (pa_cons pe_int pa_nil))))))) (pe_call G_law_take hr (by rfl) T.g_law_take T.F_law_take.kp T.b_law_take .nil pass0 (pa_cons (pv 0) (pa_cons pe_int pa_nil))) (fun _ _ => rfl)))), ?_⟩
    refine ⟨_, rfl, p, _, rfl, hp, by decide, by decide, fun H1 r _ _ hp1 k1 => ⟨rfl, _, rfl, iteDs (fun _ => ?_) (fun _ => ?_)⟩⟩
    · refine ⟨_, rfl, p, _, rfl, hp1, by decide, by decide, fun H2 r2 h0 h1 hp2 k2 => ⟨_, _, rfl, rfl, ?_⟩⟩
      exact q _ _ (by omega) (by omega) hp2 ((But.eq k1).trans (But.eq k2))
    · refine ⟨(by show 6 ≤ sizeLine; decide), fun l hl => ?_⟩
      have nl : l ≠ p := hp1.ne hl
      refine ⟨_, rfl, p, _, rfl, hp1.upd nl, by decide, by decide, fun H2 r2 h0 h1 hp2 k2 => ?_⟩
      obtain ⟨v, hv, hc⟩ := pick6 (a := .int 2) (b := .int 3) (c := .int 5) (d := .int 10) (e := .int 24) (f := .int 60) h0 h1
      refine ⟨l, _, _, v, rfl, rfl, SqL.of (Pool.eq k2 nl upd_same), hv, ?_⟩
      have kk : But p H H2 := ((But.eq k1).trans (But.of (same_upd hl))).trans (But.eq k2)
      rcases hc with rfl | rfl | rfl | rfl | rfl | rfl <;> exact q _ _ (by decide) (by decide) hp2 kk
/-! ### a permutation -/
theorem perm_mid {α : Type} (x : α) (a b c : List α) : (a ++ [x] ++ (b ++ c)).Perm (a ++ (b ++ x :: c)) := by
  rw [List.append_assoc]
  refine List.Perm.append_left a ?_
  rw [List.singleton_append]
  exact List.perm_middle.symm
theorem take_drop {α : Type} {l : List α} {i : Nat} {x : α} (h : l[i]? = some x) : l.take i ++ x :: l.drop (i + 1) = l := by
  obtain ⟨h1, h2⟩ := List.getElem?_eq_some_iff.mp h
  rw [← h2, List.getElem_cons_drop, List.take_append_drop]
theorem cut_to (xs : List V) (i : Nat) (h : i ≤ xs.length) : cutV xs none (some (i : Int)) = xs.take i := by
  unfold cutV
  rw [HT.sIx_none, HT.sIx_nat, Nat.min_eq_left h]
  rfl
theorem cut_from (xs : List V) (i : Nat) (h : i ≤ xs.length) : cutV xs (some (i : Int)) none = xs.drop i := by
  unfold cutV
  rw [HT.sIx_none, HT.sIx_nat, Nat.min_eq_left h, List.take_of_length_le]
  rw [List.length_drop]
  exact Nat.le_refl _
def rg (n : Nat) : List Int := (List.range n).map fun i : Nat => (i : Int)
theorem rgV_eq (n : Nat) : rgV 0 (n : Int) = (rg n).map V.int := by
  unfold rgV rg
  rw [List.map_map]
  have e : ((n : Int) - 0).toNat = n := by omega
  rw [e]
  refine List.map_congr_left fun i _ => ?_
  show V.int (0 + (i : Int)) = V.int (i : Int)
  rw [Int.zero_add]
theorem rg_len (n : Nat) : (rg n).length = n := by
  unfold rg
  rw [List.length_map, List.length_range]
def spPerm : Sp := fun vs H Q _ => ∃ (p : Addr) (n : Nat), vs = [.ref p, .int n] ∧ Pool H p ∧ n ≤ 12 ∧ ∀ H' a (ns : List Int), H a = none → Pool H' p → But p H H' → H' a = some (.lst (ns.map V.int)) → ns.Perm (rg n) → Q (.ref a) H'
theorem scPerm : FnScope ["_law_pool_here", "_law_many", "_law_left", "_law_perm_here", "_law_k", "_law_at"] ["_law_pool_here", "_law_many"] (defScope sPerm) := ⟨rfl, rfl, rfl, by decide +kernel, rfl, by decide +kernel, by decide +kernel⟩
theorem ok_perm (T : Tx K mg) : FnOk P w K mg base CX0 2 T.f_law_perm T.d_law_perm ["_law_pool_here", "_law_many"] spPerm := by
  have G_law_take := ok_take (P := P) (w := w) (base := base) T
  refine T.F_law_perm.ok scPerm (fun vs H Q E h => ?_) (fun cdv A outer s H vs Q E hr h => ?_)
  · obtain ⟨p, n, rfl, _⟩ := h
    rfl
  · obtain ⟨p, n, rfl, hp, hn, q⟩ := h
    refine ⟨_, pss_cons (ps_set (i := 2) scPerm.nd rfl (.inl rfl) (pe_listRg rfl (by rfl) T.z_list (prg_1 (by rfl) T.z_range (pv 1))))
      (pss_cons (ps_set (i := 3) scPerm.nd rfl (.inl rfl) (pe_lst pa_nil))
      (pss_cons (ps_for PassesOwn.never rfl (pi_range1 (by rfl) T.z_range (pa_cons (pv 1) pa_nil)) (pg_name (i := 4) scPerm.nd rfl (.inl rfl))
      (pss_cons (ps_set (i := 5) scPerm.nd rfl (.inl rfl) (pe_call G_law_take hr (by rfl) T.g_law_take T.F_law_take.kp T.b_law_take .nil pass0 (pa_cons (pv 0) (pa_cons (pe_callB call_len_seq (by rfl) T.z_len (by decide +kernel) (pa_cons (pv 2) pa_nil)) pa_nil))))
      (pss_cons (ps_expr (pe_bm PySem.F.plainAttrs_list PySem.F.slot_list_append PySem.F.type_list_append mt_append (pv 3) (pa_cons (pe_ix ix_list (pv 2) (pv 5) (fun _ _ => rfl)) pa_nil)))
      (pss_one (ps_set (i := 2) scPerm.nd rfl (.inl rfl) (pe_op op_cat (pe_slice sl_list (pv 2) po_none (po_some (pv 5))) (pe_slice sl_list (pv 2) (po_some (pe_op op_add (pv 5) pe_int)) po_none)))))))
      (pss_one (ps_ret (pv 3))))), ?_⟩
    refine ⟨_, rfl, _, rfl, RgOk.of_le (by decide) (by omega) (by decide) (by omega), fun l hl => ?_⟩
    have nlp : l ≠ p := hp.ne hl
    refine ⟨Nat.zero_le _, fun a ha => ?_⟩
    have nal : a ≠ l := fun e => by
      rw [e, upd_same] at ha
      cases ha
    have ha0 : H a = none := by
      rw [upd_ne nal] at ha
      exact ha
    have nap : a ≠ p := hp.ne ha0
    rw [rgV_eq] at ha
    refine ⟨_, rfl, _, rfl, by omega, by omega, for_range (lo := 0) (n := n) (fun i σ H' => ∃ (l : Addr) (v4 v5 : Option V) (left done : List Int), σ = [some (.ref p), some (.int n), some (.ref l), some (.ref a), v4, v5] ∧ Pool H' p ∧ But p H H' ∧ l ≠ a ∧ l ≠ p ∧
        H' l = some (.lst (left.map V.int)) ∧ H' a = some (.lst (done.map V.int)) ∧ (done ++ left).Perm (rg n) ∧ done.length = i) ?_ ?_ ?_⟩
    · refine ⟨l, none, none, rg n, [], rfl, ?_, ?_, nal.symm, nlp, ?_, upd_same, List.Perm.refl _, rfl⟩
      · exact (hp.upd nlp).upd nap
      · exact (But.of (same_upd hl)).trans (But.of (same_upd (by rw [rgV_eq]; exact ha)))
      · rw [upd_ne nal.symm, upd_same, rgV_eq]
    · rintro i σ H1 hi ⟨l1, v4, v5, left, done, rfl, hp1, k1, nla, nlp1, hL, hD, hP, hd⟩
      have hlen : done.length + left.length = n := by
        have z := hP.length_eq
        rw [List.length_append, rg_len] at z
        exact z
      refine ⟨_, rfl, _, rfl, l1, _, rfl, .inl (SqL.of hL), p, _, rfl, hp1, by rw [List.length_map]; omega, by rw [List.length_map]; omega, fun H2 r h0 h1 hp2 k2 => ?_⟩
      rw [List.length_map] at h1
      obtain ⟨j, rfl⟩ : ∃ j : Nat, r = (j : Int) := ⟨r.toNat, by omega⟩
      have hj : j < left.length := by omega
      have hL2 : H2 l1 = some (.lst (left.map V.int)) := Pool.eq k2 nlp1 hL
      have hD2 : H2 a = some (.lst (done.map V.int)) := Pool.eq k2 nap hD
      have gx : left[j]? = some left[j] := List.getElem?_eq_getElem hj
      refine ⟨_, rfl, .inl ⟨rfl, _, SqL.of hD2⟩, _, rfl, _, rfl, l1, _, _, .int left[j], rfl, rfl, SqL.of hL2, atI_nat (by rw [List.getElem?_map, gx]; rfl), a, _, _, rfl, rfl, hD2, small1000 (by rw [List.length_map]; omega), ?_⟩
      have hL3 : (upd H2 a (.lst (done.map V.int ++ [V.int left[j]]))) l1 = some (.lst (left.map V.int)) := by
        rw [upd_ne nla]
        exact hL2
      refine ⟨_, rfl, _, rfl, _, rfl, l1, _, rfl, SqL.of hL3, fun c1 n1 => ?_⟩
      have x1 : l1 ≠ c1 := ne_of_none hL3 n1
      refine ⟨_, rfl, _, rfl, _, _, rfl, rfl, _, rfl, l1, _, rfl, SqL.of (by rw [upd_ne x1]; exact hL3), fun c2 n2 => ?_⟩
      have hc1 : c1 ≠ c2 := ne_of_none upd_same n2
      refine ⟨c1, c2, _, _, rfl, rfl, by rw [upd_ne hc1]; exact upd_same, upd_same, ?_, fun c3 n3 => ?_⟩
      · have e1 : cutV (left.map V.int) none (some ((j : Nat) : Int)) = (left.map V.int).take j := cut_to _ _ (by rw [List.length_map]; omega)
        have e2 : cutV (left.map V.int) (some ((j : Int) + 1)) none = (left.map V.int).drop (j + 1) := cut_from (left.map V.int) (j + 1) (by rw [List.length_map]; omega)
        rw [e1, e2, List.length_take, List.length_drop, List.length_map]
        exact Nat.le_of_lt (small1000 (by omega))
      · have e1 : cutV (left.map V.int) none (some ((j : Nat) : Int)) = (left.map V.int).take j := cut_to _ _ (by rw [List.length_map]; omega)
        have e2 : cutV (left.map V.int) (some ((j : Int) + 1)) none = (left.map V.int).drop (j + 1) := cut_from (left.map V.int) (j + 1) (by rw [List.length_map]; omega)
        rw [e1] at n2
        rw [e1, e2] at n3 ⊢
        have hDa : H2 a = some (.lst (done.map V.int)) := hD2
        have ac1 : a ≠ c1 := ne_of_none (H := upd H2 a (.lst (done.map V.int ++ [V.int left[j]]))) upd_same n1
        have ac2 : a ≠ c2 := fun e => by
          rw [← e, upd_ne ac1, upd_same] at n2
          cases n2
        have ac3 : a ≠ c3 := fun e => by
          rw [← e, upd_ne ac2, upd_ne ac1, upd_same] at n3
          cases n3
        obtain ⟨px, pf, pc, hpp⟩ := hp2
        have pp : p ≠ a := nap.symm
        have pc1 : p ≠ c1 := fun e => by
          rw [← e, upd_ne pp, hpp] at n1
          cases n1
        have pc2 : p ≠ c2 := fun e => by
          rw [← e, upd_ne pc1, upd_ne pp, hpp] at n2
          cases n2
        have pc3 : p ≠ c3 := fun e => by
          rw [← e, upd_ne pc2, upd_ne pc1, upd_ne pp, hpp] at n3
          cases n3
        refine ⟨c3, _, _, left.take j ++ left.drop (j + 1), done ++ [left[j]], rfl, ⟨px, pf, pc, ?_⟩, ?_, ac3.symm, pc3.symm, ?_, ?_, ?_, ?_⟩
        · rw [upd_ne pc3, upd_ne pc2, upd_ne pc1, upd_ne pp]
          exact hpp
        · exact ((((k1.trans (But.eq k2)).put' ha0).trans (But.of (same_upd n1))).trans (But.of (same_upd n2))).trans (But.of (same_upd n3))
        · rw [upd_same, List.map_append, List.map_take, List.map_drop]
        · rw [upd_ne ac3, upd_ne ac2, upd_ne ac1, upd_same, List.map_append]
          rfl
        · refine (perm_mid _ _ _ _).trans ?_
          rw [take_drop gx]
          exact hP
        · rw [List.length_append, hd]
          rfl
    · rintro σ H1 ⟨l1, v4, v5, left, done, rfl, hp1, k1, nla, nlp1, hL, hD, hP, hd⟩
      have hlen : done.length + left.length = n := by
        have z := hP.length_eq
        rw [List.length_append, rg_len] at z
        exact z
      have e0 : left = [] := List.eq_nil_of_length_eq_zero (by omega)
      rw [e0, List.append_nil] at hP
      exact ⟨_, rfl, q H1 a done ha0 hp1 k1 hD hP⟩
end
end DD

namespace DD
open PySem PySem.Spec PyProof.Rows L2
abbrev Q4 := Int × Int × Int × Int
def four (q : Q4) : List V := [.int q.1, .int q.2.1, .int q.2.2.1, .int q.2.2.2]
/-- a good span of a net with a round T and n events -/
structure Ok4 (T n : Int) (q : Q4) : Prop where
  s0 : 0 ≤ q.1
  s1 : q.1 < n
  e0 : 0 ≤ q.2.1
  e1 : q.2.1 < n
  ne : q.1 ≠ q.2.1
  l0 : 0 ≤ q.2.2.1
  lm : q.2.2.1 ≤ q.2.2.2
  m1 : q.2.2.2 ≤ q.2.2.1 + T - 1
  m2 : q.2.2.2 ≤ 999
def SpsAt (H : Hp) (ts : List Addr) (ss : List Q4) : Prop := ts.length = ss.length ∧ ∀ (i : Nat) (t : Addr) (q : Q4), ts[i]? = some t → ss[i]? = some q → H t = some (.tup (four q))
theorem SpsAt.same {H H' : Hp} {ts : List Addr} {ss : List Q4} (h : SpsAt H ts ss) (s : Same H H') : SpsAt H' ts ss := ⟨h.1, fun i t q a b => s _ _ (h.2 i t q a b)⟩
/-- a list at a of new spans -/
structure SpL (H0 H : Hp) (a : Addr) (ts : List Addr) (ss : List Q4) : Prop where
  a0 : H0 a = none
  at_ : H a = some (.lst (ts.map V.ref))
  t0 : ∀ t, t ∈ ts → H0 t = none
  sp : SpsAt H ts ss
theorem mod_step {s r n : Int} (h0 : 0 ≤ s) (h1 : s < n) (h2 : 0 ≤ r) (h3 : r < n - 1) : s ≠ (s + 1 + r) % n ∧ 0 ≤ (s + 1 + r) % n ∧ (s + 1 + r) % n < n := by
  refine ⟨?_, Int.emod_nonneg _ (by omega), Int.emod_lt_of_pos _ (by omega)⟩
  by_cases h : s + 1 + r < n
  · rw [Int.emod_eq_of_lt (by omega) h]
    omega
  · have e : (s + 1 + r) % n = (s + 1 + r - n) % n := by
      have z : s + 1 + r = (s + 1 + r - n) + n := by omega
      have y : ((s + 1 + r - n) + n) % n = (s + 1 + r - n) % n := by simp
      rw [← z] at y
      exact y
    rw [e, Int.emod_eq_of_lt (by omega) (by omega)]
    omega
theorem rg_mem {n : Nat} {x : Int} (h : x ∈ rg n) : 0 ≤ x ∧ x < n := by
  obtain ⟨i, hi, rfl⟩ := List.mem_map.mp h
  have := List.mem_range.mp hi
  omega
theorem rg_nodup (n : Nat) : (rg n).Nodup := by
  unfold rg
  refine List.pairwise_map.mpr ?_
  refine List.Pairwise.imp ?_ (List.nodup_range (n := n))
  intro a b h e
  exact h (Int.ofNat_inj.mp e)
section
variable {P : Program} {w : World} {K : PySem.W.Frag} {mg : Str → Option Value} {base : Heap}
/-! ### one span -/
def spSpn : Sp := fun vs H Q _ => ∃ (p : Addr) (T s e : Int), vs = [.ref p, .int T, .int s, .int e] ∧ Pool H p ∧ 2 ≤ T ∧ T ≤ 60 ∧ ∀ H' t (lo hi : Int), H t = none → Pool H' p → But p H H' → H' t = some (.tup (four (s, e, lo, hi))) →
  0 ≤ lo → lo ≤ hi → hi ≤ lo + T - 1 → hi ≤ 999 → Q (.ref t) H'
theorem scSpn : FnScope ["_law_pool_here", "_law_length_here", "_law_start", "_law_end", "_law_room", "_law_low"] ["_law_pool_here", "_law_length_here", "_law_start", "_law_end"] (defScope sSpn) := ⟨rfl, rfl, rfl, by decide +kernel, rfl, by decide +kernel, by decide +kernel⟩
theorem ok_span (T : Tx K mg) : FnOk P w K mg base CX0 2 T.f_law_span T.d_law_span ["_law_pool_here", "_law_length_here", "_law_start", "_law_end"] spSpn := by
  have G_law_take := ok_take (P := P) (w := w) (base := base) T
  refine T.F_law_span.ok scSpn (fun vs H Q E h => ?_) (fun cdv A outer s H vs Q E hr h => ?_)
  · obtain ⟨p, T, s, e, rfl, _⟩ := h
    rfl
  · obtain ⟨p, R, s, e, rfl, hp, hR2, hR60, q⟩ := h
    refine ⟨_, pss_cons (ps_set (i := 4) scSpn.nd rfl (.inl rfl) (pe_op op_mul pe_int (pv 1)))
      (pss_cons (ps_if (pt_cmpR op_eq (pe_call G_law_take hr (by rfl) T.g_law_take T.F_law_take.kp T.b_law_take .nil pass0 (pa_cons (pv 0) (pa_cons pe_int pa_nil))) pe_int (nomark _)) (pss_one (ps_set (i := 4) scSpn.nd rfl (.inl rfl) pe_int)) (pss_nil))
      (pss_cons (ps_set (i := 5) scSpn.nd rfl (.inl rfl) (pe_call G_law_take hr (by rfl) T.g_law_take T.F_law_take.kp T.b_law_take .nil pass0 (pa_cons (pv 0) (pa_cons (pv 4) pa_nil))))
      (pss_one (ps_ret (pe_tup (pa_cons (pv 2) (pa_cons (pv 3) (pa_cons (pv 5) (pa_cons (pe_op op_add (pv 5) (pe_call G_law_take hr (by rfl) T.g_law_take T.F_law_take.kp T.b_law_take .nil pass0 (pa_cons (pv 0) (pa_cons (pe_callB (call_min2 rfl) (by rfl) T.z_min (by decide +kernel) (pa_cons (pv 1) (pa_cons (pe_op op_sub pe_int (pv 5)) pa_nil))) pa_nil)))) pa_nil))))))))), ?_⟩
    refine ⟨_, rfl, _, _, rfl, rfl, .inl ⟨by decide, by decide⟩, _, rfl, p, _, rfl, hp, by decide, by decide, fun H1 r _ _ hp1 k1 => ⟨rfl, _, rfl, iteDs (fun _ => ?_) (fun _ => ?_)⟩⟩
    · have room : (0 : Int) < 1000 ∧ (1000 : Int) ≤ 1000 := by decide
      refine ⟨_, rfl, _, rfl, p, _, rfl, hp1, room.1, by omega, fun H2 low h0 h1 hp2 k2 => ?_⟩
      refine ⟨_, rfl, _, rfl, _, rfl, _, rfl, _, rfl, _, rfl, _, rfl, _, _, rfl, rfl, _, _, rfl, p, _, rfl, hp2, by split <;> omega, by split <;> omega, fun H3 d d0 d1 hp3 k3 => ?_⟩
      refine ⟨_, _, rfl, rfl, (by show 4 ≤ sizeLine; decide), fun t ht => ?_⟩
      have kk := ((But.eq k1).trans (But.eq k2)).trans (But.eq k3)
      have tp := hp3.ne ht
      exact q _ t low (low + d) (kk.free tp ht) (hp3.upd tp) (kk.trans (But.of (same_upd ht))) upd_same h0 (by omega) (by split at d1 <;> omega) (by split at d1 <;> omega)
    · have room : (0 : Int) < 3 * R ∧ 3 * R ≤ 1000 := by omega
      refine ⟨_, rfl, _, rfl, p, _, rfl, hp1, room.1, by omega, fun H2 low h0 h1 hp2 k2 => ?_⟩
      refine ⟨_, rfl, _, rfl, _, rfl, _, rfl, _, rfl, _, rfl, _, rfl, _, _, rfl, rfl, _, _, rfl, p, _, rfl, hp2, by split <;> omega, by split <;> omega, fun H3 d d0 d1 hp3 k3 => ?_⟩
      refine ⟨_, _, rfl, rfl, (by show 4 ≤ sizeLine; decide), fun t ht => ?_⟩
      have kk := ((But.eq k1).trans (But.eq k2)).trans (But.eq k3)
      have tp := hp3.ne ht
      exact q _ t low (low + d) (kk.free tp ht) (hp3.upd tp) (kk.trans (But.of (same_upd ht))) upd_same h0 (by omega) (by split at d1 <;> omega) (by split at d1 <;> omega)
/-! ### lists of spans -/
theorem SpL.nil {H : Hp} {a : Addr} (h : H a = none) : SpL H (upd H a (.lst [])) a [] [] := ⟨h, upd_same, fun _ z => (by cases z), rfl, fun i t q z => (by simp at z)⟩
/-- one span more -/
theorem SpL.more {H0 H1 H2 : Hp} {p a t : Addr} {ts : List Addr} {ss : List Q4} {q : Q4} (s : SpL H0 H1 a ts ss) (k : But p H0 H1) (k2 : But p H1 H2) (ap : a ≠ p) (tp : t ≠ p) (tn : H1 t = none) (tq : H2 t = some (.tup (four q))) (hn : ∀ t, t ∈ ts → t ≠ p) :
    SpL H0 (upd H2 a (.lst ((ts ++ [t]).map V.ref))) a (ts ++ [t]) (ss ++ [q]) ∧ (∀ u, u ∈ ts ++ [t] → u ≠ p) := by
  have ta : t ≠ a := fun e => by
    rw [e, s.at_] at tn
    cases tn
  refine ⟨⟨s.a0, upd_same, fun u hu => ?_, by rw [List.length_append, List.length_append, s.sp.1]; rfl, fun i u q' hu hq => ?_⟩, fun u hu => ?_⟩
  · rcases List.mem_append.mp hu with h | h
    · exact s.t0 u h
    · rw [List.mem_singleton.mp h]
      exact k.free tp tn
  · have hlt : i < ts.length + 1 := by
      have z := (List.getElem?_eq_some_iff.mp hu).1
      rw [List.length_append] at z
      exact z
    by_cases hi : i < ts.length
    · rw [List.getElem?_append_left hi] at hu
      rw [List.getElem?_append_left (by rw [← s.sp.1]; exact hi)] at hq
      have h1 := s.sp.2 i u q' hu hq
      have ua : u ≠ a := ne_of h1 s.at_ (by intro z; cases z)
      rw [upd_ne ua]
      exact k2 _ _ (hn u (List.mem_of_getElem? hu)) h1
    · have e : i = ts.length := by omega
      subst e
      rw [List.getElem?_append_right (Nat.le_refl _), Nat.sub_self] at hu
      rw [s.sp.1, List.getElem?_append_right (Nat.le_refl _), Nat.sub_self] at hq
      have e1 : t = u := Option.some.inj hu
      have e2 : q = q' := Option.some.inj hq
      rw [← e1, ← e2, upd_ne ta]
      exact tq
  · rcases List.mem_append.mp hu with h | h
    · exact hn u h
    · rw [List.mem_singleton.mp h]
      exact tp
def spAny : Sp := fun vs H Q _ => ∃ (p : Addr) (T n : Int) (c : Nat), vs = [.ref p, .int T, .int n, .int c] ∧ Pool H p ∧ 2 ≤ T ∧ T ≤ 60 ∧ 2 ≤ n ∧ n ≤ 12 ∧ c ≤ 24 ∧
  ∀ H' a ts ss, Pool H' p → But p H H' → SpL H H' a ts ss → (∀ q, q ∈ ss → Ok4 T n q) → ss.length ≤ 24 → Q (.ref a) H'
theorem scAny : FnScope ["_law_pool_here", "_law_length_here", "_law_many", "_law_count", "_law_spans", "_law_k", "_law_start", "_law_end"] ["_law_pool_here", "_law_length_here", "_law_many", "_law_count"] (defScope sAny) := ⟨rfl, rfl, rfl, by decide +kernel, rfl, by decide +kernel, by decide +kernel⟩
theorem ok_any (T : Tx K mg) : FnOk P w K mg base CX0 3 T.f_law_any_spans T.d_law_any_spans ["_law_pool_here", "_law_length_here", "_law_many", "_law_count"] spAny := by
  have G_law_take := (ok_take (P := P) (w := w) (base := base) T).mono (k := 2) (by decide)
  have G_law_span := ok_span (P := P) (w := w) (base := base) T
  refine T.F_law_any_spans.ok scAny (fun vs H Q E h => ?_) (fun cdv A outer s H vs Q E hr h => ?_)
  · obtain ⟨p, R, n, c, rfl, _⟩ := h
    rfl
  · obtain ⟨p, R, n, c, rfl, hp, hR2, hR60, hn2, hn12, hc, q⟩ := h
    refine ⟨_, pss_cons (ps_set (i := 4) scAny.nd rfl (.inl rfl) (pe_lst pa_nil))
      (pss_cons (ps_for PassesOwn.never rfl (pi_range1 (by rfl) T.z_range (pa_cons (pv 3) pa_nil)) (pg_name (i := 5) scAny.nd rfl (.inl rfl))
      (pss_cons (ps_set (i := 6) scAny.nd rfl (.inl rfl) (pe_call G_law_take hr (by rfl) T.g_law_take T.F_law_take.kp T.b_law_take .nil pass0 (pa_cons (pv 0) (pa_cons (pv 2) pa_nil))))
      (pss_cons (ps_set (i := 7) scAny.nd rfl (.inl rfl) (pe_op op_mod (pe_callTy call_int1 (by rfl) T.z_int (by decide +kernel) (pa_cons (pe_op op_add (pe_op op_add (pv 6) pe_int) (pe_call G_law_take hr (by rfl) T.g_law_take T.F_law_take.kp T.b_law_take .nil pass0 (pa_cons (pv 0) (pa_cons (pe_op op_sub (pv 2) pe_int) pa_nil)))) pa_nil)) (pv 2)))
      (pss_one (ps_expr (pe_bm PySem.F.plainAttrs_list PySem.F.slot_list_append PySem.F.type_list_append mt_append (pv 4) (pa_cons (pe_call G_law_span hr (by rfl) T.g_law_span T.F_law_span.kp T.b_law_span .nil pass0 (pa_cons (pv 0) (pa_cons (pv 1) (pa_cons (pv 6) (pa_cons (pv 7) pa_nil))))) pa_nil)))))))
      (pss_one (ps_ret (pv 4)))), ?_⟩
    refine ⟨Nat.zero_le _, fun a ha => ?_⟩
    have nap : a ≠ p := hp.ne ha
    refine ⟨_, rfl, _, rfl, by omega, by omega, for_range (lo := 0) (n := c) (fun i σ H' => ∃ (v5 v6 v7 : Option V) (ts : List Addr) (ss : List Q4), σ = [some (.ref p), some (.int R), some (.int n), some (.int c), some (.ref a), v5, v6, v7] ∧ Pool H' p ∧ But p H H' ∧
        SpL H H' a ts ss ∧ (∀ t, t ∈ ts → t ≠ p) ∧ (∀ q, q ∈ ss → Ok4 R n q) ∧ ss.length = i) ?_ ?_ ?_⟩
    · exact ⟨none, none, none, [], [], rfl, hp.upd nap, But.of (same_upd ha), SpL.nil ha, fun _ z => (by cases z), fun _ z => (by cases z), rfl⟩
    · rintro i σ H1 hi ⟨v5, v6, v7, ts, ss, rfl, hp1, k1, hS, hts, hss, hlen⟩
      refine ⟨_, rfl, _, rfl, p, _, rfl, hp1, by omega, by omega, fun H2 st s0 s1 hp2 k2 => ?_⟩
      refine ⟨_, rfl, _, _, rfl, rfl, _, rfl, _, rfl, _, _, rfl, rfl, p, _, rfl, hp2, by omega, by omega, fun H3 r r0 r1 hp3 k3 => ?_⟩
      refine ⟨_, _, rfl, rfl, .inl ⟨_, rfl, _, rfl, _, _, rfl, rfl, by omega, ?_⟩⟩
      have k13 : But p H1 H3 := (But.eq k2).trans (But.eq k3)
      have ms := mod_step s0 s1 r0 r1
      refine ⟨_, rfl, .inl ⟨rfl, _, SqL.of (k13 _ _ nap hS.at_)⟩, _, rfl, _, rfl, _, rfl, _, rfl, p, R, _, _, rfl, hp3, hR2, hR60, fun H4 t lo hi' tn hp4 k4 tq l0 l1 l2 l3 => ?_⟩
      have tp : t ≠ p := hp3.ne tn
      have hA4 := k4 _ _ nap (k13 _ _ nap hS.at_)
      refine ⟨a, _, _, rfl, rfl, hA4, small1000 (by rw [List.length_map, hS.sp.1]; omega), ?_⟩
      have mo := hS.more k1 (k13.trans k4) nap tp (k13.free tp tn) tq hts
      rw [List.map_append] at mo
      refine ⟨_, _, _, ts ++ [t], ss ++ [(st, (st + 1 + r) % n, lo, hi')], rfl, hp4.upd nap, ?_, mo.1, mo.2, fun q' hq => ?_, ?_⟩
      · exact (((k1.trans k13).trans k4)).put' ha
      · rcases List.mem_append.mp hq with h | h
        · exact hss q' h
        · rw [List.mem_singleton.mp h]
          exact ⟨s0, s1, ms.2.1, ms.2.2, ms.1, l0, l1, l2, l3⟩
      · rw [List.length_append, hlen]
        rfl
    · rintro σ H1 ⟨v5, v6, v7, ts, ss, rfl, hp1, k1, hS, hts, hss, hlen⟩
      exact ⟨_, rfl, q H1 a ts ss hp1 k1 hS hss (by omega)⟩
def spChd : Sp := fun vs H Q _ => ∃ (p : Addr) (T : Int) (n : Nat), vs = [.ref p, .int T, .int n] ∧ Pool H p ∧ 2 ≤ T ∧ T ≤ 60 ∧ 2 ≤ n ∧ n ≤ 12 ∧
  ∀ H' a ts ss, Pool H' p → But p H H' → SpL H H' a ts ss → (∀ q, q ∈ ss → Ok4 T n q) → ss.length ≤ 24 → Q (.ref a) H'
theorem scChd : FnScope ["_law_pool_here", "_law_length_here", "_law_many", "_law_perm_here", "_law_spans", "_law_k", "_law_way"] ["_law_pool_here", "_law_length_here", "_law_many"] (defScope sChd) := ⟨rfl, rfl, rfl, by decide +kernel, rfl, by decide +kernel, by decide +kernel⟩
theorem ok_chd (T : Tx K mg) : FnOk P w K mg base CX0 3 T.f_law_chained T.d_law_chained ["_law_pool_here", "_law_length_here", "_law_many"] spChd := by
  have G_law_take := (ok_take (P := P) (w := w) (base := base) T).mono (k := 2) (by decide)
  have G_law_span := ok_span (P := P) (w := w) (base := base) T
  have G_law_perm := ok_perm (P := P) (w := w) (base := base) T
  refine T.F_law_chained.ok scChd (fun vs H Q E h => ?_) (fun cdv A outer s H vs Q E hr h => ?_)
  · obtain ⟨p, R, n, rfl, _⟩ := h
    rfl
  · obtain ⟨p, R, n, rfl, hp, hR2, hR60, hn2, hn12, q⟩ := h
    refine ⟨_, pss_cons (ps_set (i := 3) scChd.nd rfl (.inl rfl) (pe_call G_law_perm hr (by rfl) T.g_law_perm T.F_law_perm.kp T.b_law_perm .nil pass0 (pa_cons (pv 0) (pa_cons (pv 2) pa_nil))))
      (pss_cons (ps_set (i := 4) scChd.nd rfl (.inl rfl) (pe_lst pa_nil))
      (pss_cons (ps_for PassesOwn.never rfl (pi_range1 (by rfl) T.z_range (pa_cons (pe_op op_sub (pv 2) pe_int) pa_nil)) (pg_name (i := 5) scChd.nd rfl (.inl rfl))
      (pss_cons (ps_set (i := 6) scChd.nd rfl (.inl rfl) (pe_call G_law_take hr (by rfl) T.g_law_take T.F_law_take.kp T.b_law_take .nil pass0 (pa_cons (pv 0) (pa_cons pe_int pa_nil))))
      (pss_one (ps_if (pt_cmpR op_gt (pv 6) pe_int (nomark _)) (pss_one (ps_expr (pe_bm PySem.F.plainAttrs_list PySem.F.slot_list_append PySem.F.type_list_append mt_append (pv 4) (pa_cons (pe_call G_law_span hr (by rfl) T.g_law_span T.F_law_span.kp T.b_law_span .nil pass0 (pa_cons (pv 0) (pa_cons (pv 1) (pa_cons (pe_ix ix_list (pv 3) (pv 5) (fun _ _ => rfl)) (pa_cons (pe_ix ix_list (pv 3) (pe_op op_add (pv 5) pe_int) (fun _ _ => rfl)) pa_nil))))) pa_nil)))) (pss_one (ps_if (pt_cmpR op_gt (pv 6) pe_int (nomark _)) (pss_one (ps_expr (pe_bm PySem.F.plainAttrs_list PySem.F.slot_list_append PySem.F.type_list_append mt_append (pv 4) (pa_cons (pe_call G_law_span hr (by rfl) T.g_law_span T.F_law_span.kp T.b_law_span .nil pass0 (pa_cons (pv 0) (pa_cons (pv 1) (pa_cons (pe_ix ix_list (pv 3) (pe_op op_add (pv 5) pe_int) (fun _ _ => rfl)) (pa_cons (pe_ix ix_list (pv 3) (pv 5) (fun _ _ => rfl)) pa_nil))))) pa_nil)))) (pss_nil)))))))
      (pss_one (ps_ret (pv 4))))), ?_⟩
    refine ⟨_, rfl, _, rfl, p, n, rfl, hp, hn12, fun H1 b ns bn hp1 k1 hB hP => ?_⟩
    have nbp : b ≠ p := hp.ne bn
    have hnl : ns.length = n := by
      have z := hP.length_eq
      rw [rg_len] at z
      exact z
    have hnd : ns.Nodup := hP.symm.nodup_iff.mp (rg_nodup n) |> fun z => z
    refine ⟨Nat.zero_le _, fun a ha => ?_⟩
    have nap : a ≠ p := hp1.ne ha
    have ha0 : H a = none := k1.free nap ha
    have nba : b ≠ a := ne_of_none hB ha
    refine ⟨_, rfl, _, _, rfl, rfl, _, rfl, by omega, by omega, for_range (lo := 0) (n := ((n : Int) - 1).toNat) (fun i σ H' => ∃ (v5 v6 : Option V) (ts : List Addr) (ss : List Q4), σ = [some (.ref p), some (.int R), some (.int n), some (.ref b), some (.ref a), v5, v6] ∧ Pool H' p ∧ But p H H' ∧
        SpL H H' a ts ss ∧ (∀ t, t ∈ ts → t ≠ p) ∧ (∀ q, q ∈ ss → Ok4 R n q) ∧ ss.length ≤ i ∧ H' b = some (.lst (ns.map V.int))) ?_ ?_ ?_⟩
    · refine ⟨none, none, [], [], rfl, hp1.upd nap, k1.trans (But.of (same_upd ha)), ⟨ha0, upd_same, fun _ z => (by cases z), rfl, fun i t q z => (by simp at z)⟩, fun _ z => (by cases z), fun _ z => (by cases z), Nat.le_refl _, by rw [upd_ne nba]; exact hB⟩
    · rintro i σ H2 hi ⟨v5, v6, ts, ss, rfl, hp2, k2, hS, hts, hss, hlen, hB2⟩
      refine ⟨_, rfl, p, _, rfl, hp2, by decide, by decide, fun H3 way _ _ hp3 k3 => ?_⟩
      have k23 : But p H2 H3 := But.eq k3
      have hB3 := k23 _ _ nbp hB2
      have hA3 := k23 _ _ nap hS.at_
      have i0 : i < ns.length := by omega
      have i1 : i + 1 < ns.length := by omega
      have g0 : ns[i]? = some ns[i] := List.getElem?_eq_getElem i0
      have g1 : ns[i + 1]? = some ns[i + 1] := List.getElem?_eq_getElem i1
      have m0 := rg_mem (hP.mem_iff.mp (List.mem_of_getElem? g0))
      have m1 := rg_mem (hP.mem_iff.mp (List.mem_of_getElem? g1))
      have dif : ns[i] ≠ ns[i + 1] := fun e => by
        have z := nd_ix hnd g0 (by rw [g1, e])
        omega
      have at0 : atI (ns.map V.int) (0 + (i : Int)) = some (.int ns[i]) := at_of (j := i) (by omega) (by rw [List.getElem?_map, g0]; rfl)
      have at1 : atI (ns.map V.int) (0 + (i : Int) + 1) = some (.int ns[i + 1]) := at_of (j := i + 1) (by omega) (by rw [List.getElem?_map, g1]; rfl)
      refine ⟨_, rfl, _, _, rfl, rfl, _, rfl, iteDs (fun _ => ?_) (fun _ => ⟨_, rfl, _, _, rfl, rfl, _, rfl, iteDs (fun _ => ?_) (fun _ => ?_)⟩)⟩
      · refine ⟨_, rfl, .inl ⟨rfl, _, SqL.of hA3⟩, _, rfl, _, rfl, _, rfl, _, rfl, b, _, _, _, rfl, rfl, SqL.of hB3, at0, _, rfl, _, rfl, _, _, rfl, rfl, b, _, _, _, rfl, rfl, SqL.of hB3, at1, p, R, _, _, rfl, hp3, hR2, hR60, fun H4 t lo hi' tn hp4 k4 tq l0 l1 l2 l3 => ?_⟩
        have tp : t ≠ p := hp3.ne tn
        refine ⟨a, _, _, rfl, rfl, k4 _ _ nap hA3, small1000 (by rw [List.length_map, hS.sp.1]; omega), ?_⟩
        have mo := hS.more k2 (k23.trans k4) nap tp (k23.free tp tn) tq hts
        rw [List.map_append] at mo
        refine ⟨_, _, ts ++ [t], ss ++ [(ns[i], ns[i + 1], lo, hi')], rfl, hp4.upd nap, ((k2.trans k23).trans k4).put' ha0, mo.1, mo.2, fun q' hq => ?_, ?_, by rw [upd_ne nba]; exact k4 _ _ nbp hB3⟩
        · rcases List.mem_append.mp hq with h | h
          · exact hss q' h
          · rw [List.mem_singleton.mp h]
            exact ⟨m0.1, m0.2, m1.1, m1.2, dif, l0, l1, l2, l3⟩
        · rw [List.length_append]
          exact Nat.succ_le_succ hlen
      · refine ⟨_, rfl, .inl ⟨rfl, _, SqL.of hA3⟩, _, rfl, _, rfl, _, rfl, _, rfl, _, _, rfl, rfl, b, _, _, _, rfl, rfl, SqL.of hB3, at1, _, rfl, _, rfl, b, _, _, _, rfl, rfl, SqL.of hB3, at0, p, R, _, _, rfl, hp3, hR2, hR60, fun H4 t lo hi' tn hp4 k4 tq l0 l1 l2 l3 => ?_⟩
        have tp : t ≠ p := hp3.ne tn
        refine ⟨a, _, _, rfl, rfl, k4 _ _ nap hA3, small1000 (by rw [List.length_map, hS.sp.1]; omega), ?_⟩
        have mo := hS.more k2 (k23.trans k4) nap tp (k23.free tp tn) tq hts
        rw [List.map_append] at mo
        refine ⟨_, _, ts ++ [t], ss ++ [(ns[i + 1], ns[i], lo, hi')], rfl, hp4.upd nap, ((k2.trans k23).trans k4).put' ha0, mo.1, mo.2, fun q' hq => ?_, ?_, by rw [upd_ne nba]; exact k4 _ _ nbp hB3⟩
        · rcases List.mem_append.mp hq with h | h
          · exact hss q' h
          · rw [List.mem_singleton.mp h]
            exact ⟨m1.1, m1.2, m0.1, m0.2, dif.symm, l0, l1, l2, l3⟩
        · rw [List.length_append]
          exact Nat.succ_le_succ hlen
      · exact ⟨_, _, ts, ss, rfl, hp3, k2.trans k23, ⟨hS.a0, hA3, hS.t0, hS.sp.1, fun j t q' a' b' => k23 _ _ (hts t (List.mem_of_getElem? a')) (hS.sp.2 j t q' a' b')⟩, hts, hss, Nat.le_succ_of_le hlen, hB3⟩
    · rintro σ H2 ⟨v5, v6, ts, ss, rfl, hp2, k2, hS, hts, hss, hlen, hB2⟩
      exact ⟨_, rfl, q H2 a ts ss hp2 k2 hS hss (by omega)⟩
def spSpo : Sp := fun vs H Q _ => ∃ (p : Addr) (T : Int) (n : Nat), vs = [.ref p, .int T, .int n] ∧ Pool H p ∧ 2 ≤ T ∧ T ≤ 60 ∧ n ≤ 12 ∧
  ∀ H' a ts ss, Pool H' p → But p H H' → SpL H H' a ts ss → (∀ q, q ∈ ss → Ok4 T n q) → ss.length ≤ 24 → Q (.ref a) H'
theorem scSpo : FnScope ["_law_pool_here", "_law_length_here", "_law_many"] ["_law_pool_here", "_law_length_here", "_law_many"] (defScope sSpo) := ⟨rfl, rfl, rfl, by decide +kernel, rfl, by decide +kernel, by decide +kernel⟩
theorem SpL.back {p : Addr} {H0 H1 H : Hp} {a : Addr} {ts : List Addr} {ss : List Q4} (k : But p H0 H1) (ha : a ≠ p) (ht : ∀ t, t ∈ ts → t ≠ p) (s : SpL H1 H a ts ss) : SpL H0 H a ts ss := ⟨k.free ha s.a0, s.at_, fun t h => k.free (ht t h) (s.t0 t h), s.sp⟩
theorem SpL.nep {p : Addr} {H1 H : Hp} {a : Addr} {ts : List Addr} {ss : List Q4} (hp : Pool H1 p) (s : SpL H1 H a ts ss) : a ≠ p ∧ ∀ t, t ∈ ts → t ≠ p := ⟨hp.ne s.a0, fun t h => hp.ne (s.t0 t h)⟩
theorem ok_spo (T : Tx K mg) : FnOk P w K mg base CX0 4 T.f_law_spans_of T.d_law_spans_of ["_law_pool_here", "_law_length_here", "_law_many"] spSpo := by
  have G_law_take := (ok_take (P := P) (w := w) (base := base) T).mono (k := 3) (by decide)
  have G_law_any_spans := ok_any (P := P) (w := w) (base := base) T
  have G_law_chained := ok_chd (P := P) (w := w) (base := base) T
  refine T.F_law_spans_of.ok scSpo (fun vs H Q E h => ?_) (fun cdv A outer s H vs Q E hr h => ?_)
  · obtain ⟨p, R, n, rfl, _⟩ := h
    rfl
  · obtain ⟨p, R, n, rfl, hp, hR2, hR60, hn12, q⟩ := h
    refine ⟨_, pss_cons (ps_if (pt_cmpR op_lt (pv 2) pe_int (nomark _)) (pss_one (ps_ret (pe_lst pa_nil))) (pss_nil))
      (pss_cons (ps_if (pt_cmpR op_eq (pe_call G_law_take hr (by rfl) T.g_law_take T.F_law_take.kp T.b_law_take .nil pass0 (pa_cons (pv 0) (pa_cons pe_int pa_nil))) pe_int (nomark _)) (pss_one (ps_ret (pe_call G_law_chained hr (by rfl) T.g_law_chained T.F_law_chained.kp T.b_law_chained .nil pass0 (pa_cons (pv 0) (pa_cons (pv 1) (pa_cons (pv 2) pa_nil)))))) (pss_nil))
      (pss_cons (ps_if (pt_cmpR op_eq (pe_call G_law_take hr (by rfl) T.g_law_take T.F_law_take.kp T.b_law_take .nil pass0 (pa_cons (pv 0) (pa_cons pe_int pa_nil))) pe_int (nomark _)) (pss_one (ps_ret (pe_call G_law_any_spans hr (by rfl) T.g_law_any_spans T.F_law_any_spans.kp T.b_law_any_spans .nil pass0 (pa_cons (pv 0) (pa_cons (pv 1) (pa_cons (pv 2) (pa_cons (pe_call G_law_take hr (by rfl) T.g_law_take T.F_law_take.kp T.b_law_take .nil pass0 (pa_cons (pv 0) (pa_cons pe_int pa_nil))) pa_nil))))))) (pss_nil))
      (pss_one (ps_ret (pe_call G_law_any_spans hr (by rfl) T.g_law_any_spans T.F_law_any_spans.kp T.b_law_any_spans .nil pass0 (pa_cons (pv 0) (pa_cons (pv 1) (pa_cons (pv 2) (pa_cons (pe_call G_law_take hr (by rfl) T.g_law_take T.F_law_take.kp T.b_law_take .nil pass0 (pa_cons (pv 0) (pa_cons pe_int pa_nil))) pa_nil))))))))), ?_⟩
    refine ⟨_, rfl, _, _, rfl, rfl, _, rfl, iteDs (fun _ => ?_) (fun hn2 => ?_)⟩
    · refine ⟨Nat.zero_le _, fun a ha => ?_⟩
      exact q _ a [] [] (hp.upd (hp.ne ha)) (But.of (same_upd ha)) (SpL.nil ha) (fun _ z => (by cases z)) (Nat.zero_le _)
    · refine ⟨_, rfl, p, _, rfl, hp, by decide, by decide, fun H1 r _ _ hp1 k1 => ⟨rfl, _, rfl, iteDs (fun _ => ?_) (fun _ => ?_)⟩⟩
      · refine ⟨_, rfl, _, rfl, _, rfl, p, R, n, rfl, hp1, hR2, hR60, by omega, hn12, fun H2 a ts ss hp2 k2 hS hss hl => ?_⟩
        have z := hS.nep hp1
        exact q _ a ts ss hp2 ((But.eq k1).trans k2) (SpL.back (But.eq k1) z.1 z.2 hS) hss hl
      · refine ⟨_, rfl, p, _, rfl, hp1, by decide, by decide, fun H2 r2 _ _ hp2 k2 => ⟨rfl, _, rfl, iteDs (fun _ => ?_) (fun _ => ?_)⟩⟩
        · refine ⟨_, rfl, _, rfl, _, rfl, _, rfl, p, _, rfl, hp2, by decide, by decide, fun H3 c c0 c1 hp3 k3 => ?_⟩
          obtain ⟨c, rfl⟩ : ∃ j : Nat, c = (j : Int) := ⟨c.toNat, by omega⟩
          refine ⟨p, R, n, c, rfl, hp3, hR2, hR60, by omega, by omega, by omega, fun H4 a ts ss hp4 k4 hS hss hl => ?_⟩
          have z := hS.nep hp3
          have kk := ((But.eq k1).trans (But.eq k2)).trans (But.eq k3)
          exact q _ a ts ss hp4 (kk.trans k4) (SpL.back kk z.1 z.2 hS) hss hl
        · refine ⟨_, rfl, _, rfl, _, rfl, _, rfl, p, _, rfl, hp2, by decide, by decide, fun H3 c c0 c1 hp3 k3 => ?_⟩
          obtain ⟨c, rfl⟩ : ∃ j : Nat, c = (j : Int) := ⟨c.toNat, by omega⟩
          refine ⟨p, R, n, c, rfl, hp3, hR2, hR60, by omega, by omega, by omega, fun H4 a ts ss hp4 k4 hS hss hl => ?_⟩
          have z := hS.nep hp3
          have kk := ((But.eq k1).trans (But.eq k2)).trans (But.eq k3)
          exact q _ a ts ss hp4 (kk.trans k4) (SpL.back kk z.1 z.2 hS) hss hl
end
end DD

namespace DD
open PySem
/-! ### pieces: the mathematics -/
def gt (L : List Int) (i : Int) : Int := L.getD i.toNat 0
def Inn (n : Nat) (x : Int) : Prop := 0 ≤ x ∧ x < n
def pmap (lo hi : Int) (L : List Int) : List Int := L.map fun f => if f = hi then lo else f
def pstep (L : List Int) (q : Q4) : List Int := pmap (min (gt L q.1) (gt L q.2.1)) (max (gt L q.1) (gt L q.2.1)) L
def pcs (n : Nat) (ss : List Q4) : List Int := ss.foldl pstep (rg n)
def jlow (L : List Int) (q : Q4) : Int := if gt L q.2.1 < gt L q.1 then gt L q.2.1 else gt L q.1
def jstep (L : List Int) (q : Q4) : List Int := (L.set q.1.toNat (jlow L q)).set q.2.1.toNat (jlow L q)
def jround (ss : List Q4) (L : List Int) : List Int := ss.foldl jstep L
def itr (f : List Int → List Int) (L : List Int) : Nat → List Int
  | 0 => L
  | k + 1 => f (itr f L k)
def lab (n : Nat) (ss : List Q4) : List Int := itr (jround ss) (rg n) n
theorem gt_get {L : List Int} {x : Int} (h : x.toNat < L.length) : gt L x = L[x.toNat] := by
  unfold gt
  rw [List.getD_eq_getElem?_getD, List.getElem?_eq_getElem h]
  rfl
theorem gt_rg {n : Nat} {x : Int} (h : Inn n x) : gt (rg n) x = x := by
  have h1 := h.1
  have h2 := h.2
  unfold gt rg
  rw [List.getD_eq_getElem?_getD, List.getElem?_map, List.getElem?_range (by omega)]
  show ((x.toNat : Nat) : Int) = x
  omega
theorem gt_map {L : List Int} {f : Int → Int} {x : Int} (h : x.toNat < L.length) : gt (L.map f) x = f (gt L x) := by
  rw [gt_get (by rw [List.length_map]; exact h), gt_get h, List.getElem_map]
theorem gt_set {L : List Int} {i : Nat} {v x : Int} (h : x.toNat < L.length) : gt (L.set i v) x = if i = x.toNat then v else gt L x := by
  rw [gt_get (by rw [List.length_set]; exact h), gt_get h, List.getElem_set]
theorem gt_ext {n : Nat} {L M : List Int} (hl : L.length = n) (hm : M.length = n) (h : ∀ x, Inn n x → gt L x = gt M x) : L = M := by
  refine List.ext_getElem (hl.trans hm.symm) fun i h1 h2 => ?_
  have z := h (i : Int) ⟨by omega, by omega⟩
  rw [gt_get (by omega), gt_get (by omega)] at z
  simpa using z
structure Lab (n : Nat) (ss : List Q4) (L : List Int) : Prop where
  len : L.length = n
  le : ∀ x, Inn n x → 0 ≤ gt L x ∧ gt L x ≤ x
  so : ∀ g : Int → Int, (∀ q, q ∈ ss → g q.1 = g q.2.1) → ∀ x, Inn n x → g (gt L x) = g x
/-- the spans go between events -/
def Evs (n : Nat) (ss : List Q4) : Prop := ∀ q, q ∈ ss → Inn n q.1 ∧ Inn n q.2.1
theorem Inn.lt {n : Nat} {x : Int} (h : Inn n x) : x.toNat < n := by
  have := h.1
  have := h.2
  omega
theorem Lab.lt {n : Nat} {ss : List Q4} {L : List Int} (a : Lab n ss L) {x : Int} (h : Inn n x) : x.toNat < L.length := by
  rw [a.len]
  exact h.lt
theorem Lab.inn {n : Nat} {ss : List Q4} {L : List Int} (a : Lab n ss L) {x : Int} (h : Inn n x) : Inn n (gt L x) := by
  have z := a.le x h
  exact ⟨z.1, by have := h.2; omega⟩
theorem Lab.start (n : Nat) (ss : List Q4) : Lab n ss (rg n) :=
  ⟨rg_len n, fun x h => by rw [gt_rg h]; exact ⟨h.1, Int.le_refl _⟩, fun g _ x h => by rw [gt_rg h]⟩
theorem Lab.p {n : Nat} {ss : List Q4} {L : List Int} (a : Lab n ss L) (ev : Evs n ss) {q : Q4} (hq : q ∈ ss) : Lab n ss (pstep L q) := by
  obtain ⟨i1, i2⟩ := ev q hq
  have e1 := a.le _ i1
  have e2 := a.le _ i2
  refine ⟨by unfold pstep pmap; rw [List.length_map]; exact a.len, fun x h => ?_, fun g hg x h => ?_⟩
  · have z := a.le x h
    unfold pstep pmap
    rw [gt_map (a.lt h)]
    split <;> omega
  · unfold pstep pmap
    rw [gt_map (a.lt h)]
    have s1 := a.so g hg _ i1
    have s2 := a.so g hg _ i2
    have s3 := a.so g hg x h
    have s4 := hg q hq
    by_cases hm : gt L q.1 ≤ gt L q.2.1
    · rw [Int.min_eq_left hm, Int.max_eq_right hm]
      split
      · rename_i e
        rw [s1, s4, ← s2, ← e, s3]
      · exact s3
    · have hm2 : gt L q.2.1 ≤ gt L q.1 := by omega
      rw [Int.min_eq_right hm2, Int.max_eq_left hm2]
      split
      · rename_i e
        rw [s2, ← s4, ← s1, ← e, s3]
      · exact s3
theorem jlow_le (L : List Int) (q : Q4) : jlow L q ≤ gt L q.1 ∧ jlow L q ≤ gt L q.2.1 := by
  unfold jlow
  split <;> omega
theorem gt_j {n : Nat} {ss : List Q4} {L : List Int} (a : Lab n ss L) {q : Q4} {x : Int} (h : Inn n x) : gt (jstep L q) x = if q.2.1.toNat = x.toNat then jlow L q else if q.1.toNat = x.toNat then jlow L q else gt L x := by
  unfold jstep
  rw [gt_set (by rw [List.length_set]; exact a.lt h), gt_set (a.lt h)]
theorem inn_eq {n : Nat} {x y : Int} (h : Inn n x) (h2 : Inn n y) (e : y.toNat = x.toNat) : y = x := by
  have := h.1
  have := h2.1
  omega
theorem Lab.j {n : Nat} {ss : List Q4} {L : List Int} (a : Lab n ss L) (ev : Evs n ss) {q : Q4} (hq : q ∈ ss) : Lab n ss (jstep L q) := by
  obtain ⟨i1, i2⟩ := ev q hq
  have e1 := a.le _ i1
  have e2 := a.le _ i2
  have jl := jlow_le L q
  have j0 : 0 ≤ jlow L q := by
    unfold jlow
    split <;> omega
  refine ⟨by unfold jstep; rw [List.length_set, List.length_set]; exact a.len, fun x h => ?_, fun g hg x h => ?_⟩
  · have z := a.le x h
    rw [gt_j a h]
    split
    · rename_i e
      have := inn_eq h i2 e
      omega
    · split
      · rename_i e
        have := inn_eq h i1 e
        omega
      · exact z
  · have s1 := a.so g hg _ i1
    have s2 := a.so g hg _ i2
    have s4 := hg q hq
    have sl : g (jlow L q) = g q.1 := by
      unfold jlow
      split
      · rw [s2, s4]
      · exact s1
    rw [gt_j a h]
    split
    · rename_i e
      rw [sl, s4, inn_eq h i2 e]
    · split
      · rename_i e
        rw [sl, inn_eq h i1 e]
      · exact a.so g hg x h
theorem j_le {n : Nat} {ss : List Q4} {L : List Int} (a : Lab n ss L) (ev : Evs n ss) {q : Q4} (hq : q ∈ ss) {x : Int} (h : Inn n x) : gt (jstep L q) x ≤ gt L x := by
  obtain ⟨i1, i2⟩ := ev q hq
  have jl := jlow_le L q
  rw [gt_j a h]
  split
  · rename_i e
    rw [← inn_eq h i2 e]
    exact jl.2
  · split
    · rename_i e
      rw [← inn_eq h i1 e]
      exact jl.1
    · exact Int.le_refl _
/-- spans that are done hold -/
theorem p_all {n : Nat} {ss : List Q4} (ev : Evs n ss) : ∀ (r done : List Q4) (L : List Int), Lab n ss L → (∀ q, q ∈ done → q ∈ ss) → (∀ q, q ∈ r → q ∈ ss) → (∀ q, q ∈ done → gt L q.1 = gt L q.2.1) →
    Lab n ss (r.foldl pstep L) ∧ ∀ q, q ∈ done ++ r → gt (r.foldl pstep L) q.1 = gt (r.foldl pstep L) q.2.1
  | [], done, L, a, _, _, hd => ⟨a, fun q hq => hd q (by rw [List.append_nil] at hq; exact hq)⟩
  | q :: r, done, L, a, hds, hrs, hd => by
    have hq := hrs q List.mem_cons_self
    have ih := p_all ev r (done ++ [q]) (pstep L q) (a.p ev hq) (fun q' h' => (List.mem_append.mp h').elim (hds q') fun z => by rw [List.mem_singleton.mp z]; exact hq) (fun q' h' => hrs q' (List.mem_cons_of_mem _ h')) fun q' h' => by
      have hq' : q' ∈ ss := (List.mem_append.mp h').elim (hds q') fun z => by rw [List.mem_singleton.mp z]; exact hq
      obtain ⟨i1, i2⟩ := ev q' hq'
      unfold pstep pmap
      rw [gt_map (a.lt i1), gt_map (a.lt i2)]
      rcases List.mem_append.mp h' with z | z
      · rw [hd q' z]
      · rw [List.mem_singleton.mp z]
        split <;> split <;> omega
    refine ⟨ih.1, fun q' h' => ih.2 q' ?_⟩
    rw [List.append_assoc]
    exact h'
theorem pcs_lab {n : Nat} {ss : List Q4} (ev : Evs n ss) : Lab n ss (pcs n ss) ∧ ∀ q, q ∈ ss → gt (pcs n ss) q.1 = gt (pcs n ss) q.2.1 := by
  have z := p_all ev ss [] (rg n) (Lab.start n ss) (fun q h => by cases h) (fun q h => h) (fun q h => by cases h)
  exact ⟨z.1, fun q h => z.2 q h⟩
theorem round_lab {n : Nat} {ss : List Q4} (ev : Evs n ss) : ∀ (r : List Q4) (L : List Int), (∀ q, q ∈ r → q ∈ ss) → Lab n ss L → Lab n ss (r.foldl jstep L) ∧ ∀ x, Inn n x → gt (r.foldl jstep L) x ≤ gt L x
  | [], L, _, a => ⟨a, fun x _ => Int.le_refl _⟩
  | q :: r, L, hr, a => by
    have hq := hr q List.mem_cons_self
    have ih := round_lab ev r (jstep L q) (fun q' h' => hr q' (List.mem_cons_of_mem _ h')) (a.j ev hq)
    exact ⟨ih.1, fun x h => Int.le_trans (ih.2 x h) (j_le a ev hq h)⟩
section
variable {n : Nat} {ss : List Q4} (ev : Evs n ss)
include ev
theorem low_bound {L : List Int} (a : Lab n ss L) {x : Int} (h : Inn n x) : gt (pcs n ss) x ≤ gt L x := by
  have M := pcs_lab ev
  have e := a.so (gt (pcs n ss)) M.2 x h
  have z := (M.1.le _ (a.inn h)).2
  rw [e] at z
  exact z
theorem pcs_idem {x : Int} (h : Inn n x) : gt (pcs n ss) (gt (pcs n ss) x) = gt (pcs n ss) x := by
  have M := pcs_lab ev
  exact M.1.so (gt (pcs n ss)) M.2 x h
theorem spread {q : Q4} : ∀ (r : List Q4) (L : List Int), (∀ q, q ∈ r → q ∈ ss) → Lab n ss L → q ∈ r → (gt L q.1 = gt (pcs n ss) q.1 → gt (r.foldl jstep L) q.2.1 = gt (pcs n ss) q.2.1) ∧ (gt L q.2.1 = gt (pcs n ss) q.2.1 → gt (r.foldl jstep L) q.1 = gt (pcs n ss) q.1)
  | [], L, _, _, h => by cases h
  | q0 :: r, L, hr, a, h => by
    have hq0 := hr q0 List.mem_cons_self
    have hr' : ∀ q, q ∈ r → q ∈ ss := fun q' h' => hr q' (List.mem_cons_of_mem _ h')
    have a' := a.j ev hq0
    have hq := hr q h
    obtain ⟨i1, i2⟩ := ev q hq
    have cl := (pcs_lab ev).2 q hq
    have rl := round_lab ev r (jstep L q0) hr' a'
    have lb1 := low_bound ev rl.1 i1
    have lb2 := low_bound ev rl.1 i2
    rcases List.mem_cons.mp h with e | h
    · subst e
      have jl := jlow_le L q
      have g2 : gt (jstep L q) q.2.1 = jlow L q := by rw [gt_j a i2, if_pos rfl]
      have g1 : gt (jstep L q) q.1 = jlow L q := by
        rw [gt_j a i1]
        split
        · rfl
        · rw [if_pos rfl]
      have u1 := rl.2 _ i1
      have u2 := rl.2 _ i2
      refine ⟨fun s => ?_, fun s => ?_⟩
      · show gt (r.foldl jstep (jstep L q)) q.2.1 = _
        omega
      · show gt (r.foldl jstep (jstep L q)) q.1 = _
        omega
    · have ih := spread r (jstep L q0) hr' a' h
      have d1 := j_le a ev hq0 i1
      have d2 := j_le a ev hq0 i2
      have b1 := low_bound ev a' i1
      have b2 := low_bound ev a' i2
      exact ⟨fun s => ih.1 (by omega), fun s => ih.2 (by omega)⟩
/-- where a round brings nothing new, all is reached -/
theorem stuck {L : List Int} (a : Lab n ss L) (h : ∀ x, Inn n x → gt (jround ss L) x = gt (pcs n ss) x → gt L x = gt (pcs n ss) x) {x : Int} (hx : Inn n x) : gt L x = gt (pcs n ss) x := by
  have M := pcs_lab ev
  have e := M.1.so (fun y => if gt L y = gt (pcs n ss) y then 1 else 0) (fun q hq => by
    obtain ⟨i1, i2⟩ := ev q hq
    have sp := spread ev (q := q) ss L (fun _ z => z) a hq
    by_cases s1 : gt L q.1 = gt (pcs n ss) q.1
    · have s2 := h _ i2 (sp.1 s1)
      simp only [if_pos s1, if_pos s2]
    · have s2 : ¬ gt L q.2.1 = gt (pcs n ss) q.2.1 := fun z => s1 (h _ i1 (sp.2 z))
      simp only [if_neg s1, if_neg s2]) x hx
  have hm := M.1.inn hx
  have id := pcs_idem ev hx
  have lb := low_bound ev a hm
  have ub := (a.le _ hm).2
  have sm : gt L (gt (pcs n ss) x) = gt (pcs n ss) (gt (pcs n ss) x) := by omega
  simp only [if_pos sm] at e
  by_cases s : gt L x = gt (pcs n ss) x
  · exact s
  · rw [if_neg s] at e
    omega
end
theorem cnt_lt {l : List Int} {p q : Int → Bool} : (∀ x, x ∈ l → p x = true → q x = true) → (∃ x, x ∈ l ∧ q x = true ∧ ¬ p x = true) → l.countP p < l.countP q := by
  induction l with
  | nil => rintro _ ⟨x, h, _⟩; cases h
  | cons y l ih =>
    rintro h ⟨x, hx, hq, hp⟩
    rw [List.countP_cons, List.countP_cons]
    have m := List.countP_mono_left (l := l) fun x hx => h x (List.mem_cons_of_mem _ hx)
    rcases List.mem_cons.mp hx with e | hx
    · subst e
      rw [if_neg hp, if_pos hq]
      omega
    · have z := ih (fun x hx => h x (List.mem_cons_of_mem _ hx)) ⟨x, hx, hq, hp⟩
      have y' := h y List.mem_cons_self
      by_cases py : p y = true
      · rw [if_pos py, if_pos (y' py)]
        omega
      · rw [if_neg py]
        split <;> omega
theorem mem_rg {n : Nat} {x : Int} : x ∈ rg n ↔ Inn n x := by
  refine ⟨rg_mem, fun h => ?_⟩
  refine List.mem_map.mpr ⟨x.toNat, List.mem_range.mpr h.lt, ?_⟩
  have := h.1
  omega
theorem itr_lab {n : Nat} {ss : List Q4} (ev : Evs n ss) : ∀ k, Lab n ss (itr (jround ss) (rg n) k)
  | 0 => Lab.start n ss
  | k + 1 => (round_lab ev ss _ (fun _ z => z) (itr_lab ev k)).1
theorem lab_eq {n : Nat} {ss : List Q4} (ev : Evs n ss) : lab n ss = pcs n ss := by
  have key : ∀ k, (∀ x, Inn n x → gt (itr (jround ss) (rg n) k) x = gt (pcs n ss) x) ∨ k ≤ (rg n).countP fun x => decide (gt (itr (jround ss) (rg n) k) x = gt (pcs n ss) x) := by
    intro k
    induction k with
    | zero => exact .inr (Nat.zero_le _)
    | succ k ih =>
      have a := itr_lab ev k
      have rl := round_lab ev ss _ (fun _ z => z) a
      have up : ∀ x, Inn n x → gt (itr (jround ss) (rg n) k) x = gt (pcs n ss) x → gt (itr (jround ss) (rg n) (k + 1)) x = gt (pcs n ss) x := fun x hx e => by
        have h1 := rl.2 x hx
        have h2 := low_bound ev rl.1 hx
        show gt (ss.foldl jstep (itr (jround ss) (rg n) k)) x = _
        omega
      rcases ih with ih | ih
      · exact .inl fun x hx => up x hx (ih x hx)
      · by_cases full : ∀ x, Inn n x → gt (itr (jround ss) (rg n) k) x = gt (pcs n ss) x
        · exact .inl fun x hx => up x hx (full x hx)
        · refine .inr (Nat.lt_of_le_of_lt ih (cnt_lt (fun x hx e => ?_) ?_))
          · exact decide_eq_true (up x (mem_rg.mp hx) (of_decide_eq_true e))
          · refine Classical.byContradiction fun no => full fun x hx => ?_
            refine stuck ev a (fun y hy e => Classical.byContradiction fun ne => no ⟨y, mem_rg.mpr hy, decide_eq_true e, fun z => ne (of_decide_eq_true z)⟩) hx
  refine gt_ext (itr_lab ev n).len (pcs_lab ev).1.len fun x hx => ?_
  rcases key n with h | h
  · exact h x hx
  · have le := List.countP_le_length (p := fun x => decide (gt (itr (jround ss) (rg n) n) x = gt (pcs n ss) x)) (l := rg n)
    have e := List.countP_eq_length.mp (Nat.le_antisymm le (by rw [rg_len]; exact h)) x (mem_rg.mpr hx)
    exact of_decide_eq_true e
/-! ### the heads -/
theorem asc_ext : ∀ {l m : List Int}, l.Pairwise (· < ·) → m.Pairwise (· < ·) → (∀ x, x ∈ l ↔ x ∈ m) → l = m
  | [], [], _, _, _ => rfl
  | [], y :: m, _, _, h => absurd ((h y).mpr List.mem_cons_self) (by simp)
  | x :: l, [], _, _, h => absurd ((h x).mp List.mem_cons_self) (by simp)
  | x :: l, y :: m, hl, hm, h => by
    obtain ⟨hx, hl2⟩ := List.pairwise_cons.mp hl
    obtain ⟨hy, hm2⟩ := List.pairwise_cons.mp hm
    have e : x = y := by
      have h1 := (h x).mp List.mem_cons_self
      have h2 := (h y).mpr List.mem_cons_self
      rcases List.mem_cons.mp h1 with e | h1
      · exact e
      · rcases List.mem_cons.mp h2 with e | h2
        · exact e.symm
        · have z1 := hy x h1
          have z2 := hx y h2
          omega
    subst e
    congr 1
    refine asc_ext hl2 hm2 fun z => ⟨fun hz => ?_, fun hz => ?_⟩
    · have z1 := (h z).mp (List.mem_cons_of_mem _ hz)
      rcases List.mem_cons.mp z1 with e | z1
      · have := hx z hz
        omega
      · exact z1
    · have z1 := (h z).mpr (List.mem_cons_of_mem _ hz)
      rcases List.mem_cons.mp z1 with e | z1
      · have := hy z hz
        omega
      · exact z1
def heads (n : Nat) (L : List Int) : List Int := (rg n).filter fun i => decide (gt L i = i)
def row (n : Nat) (L : List Int) (h : Int) : List Int := (rg n).filter fun e => decide (gt L e = h)
def rows (n : Nat) (L : List Int) : List (List Int) := (heads n L).map (row n L)
theorem rg_asc (n : Nat) : (rg n).Pairwise (· < ·) := by
  unfold rg
  refine List.pairwise_map.mpr ?_
  refine List.Pairwise.imp ?_ (List.pairwise_lt_range (n := n))
  intro a b h
  exact Int.ofNat_lt.mpr h
theorem mem_gt {n : Nat} {L : List Int} (hl : L.length = n) {k : Int} : k ∈ L ↔ ∃ x, Inn n x ∧ gt L x = k := by
  constructor
  · intro h
    obtain ⟨i, hi, e⟩ := List.mem_iff_getElem.mp h
    refine ⟨(i : Int), ⟨by omega, by omega⟩, ?_⟩
    rw [gt_get (by omega)]
    simpa using e
  · rintro ⟨x, hx, e⟩
    have h : x.toNat < L.length := by
      rw [hl]
      exact hx.lt
    rw [gt_get h] at e
    exact List.mem_iff_getElem.mpr ⟨_, h, e⟩
theorem heads_eq {n : Nat} {ss : List Q4} (ev : Evs n ss) {hs : List Int} (asc : hs.Pairwise (· < ·)) (mem : ∀ k, k ∈ hs ↔ k ∈ pcs n ss) : hs = heads n (pcs n ss) := by
  have M := pcs_lab ev
  refine asc_ext asc (List.Pairwise.filter _ (rg_asc n)) fun k => ?_
  rw [mem k, mem_gt M.1.len]
  unfold heads
  rw [List.mem_filter, mem_rg, decide_eq_true_eq]
  constructor
  · rintro ⟨x, hx, rfl⟩
    exact ⟨M.1.inn hx, pcs_idem ev hx⟩
  · rintro ⟨hk, e⟩
    exact ⟨k, hk, e⟩
end DD

namespace DD
open PySem PySem.Spec PyProof.Rows L2
/-! ### set(xs) of a list of ints: the tuple's rule carried over to a list -/
/-- the empty set that set.__new__ lays -/
abbrev oS (w : World) : Obj := { cls := .type "set", dict := none, data := .set #[] 0 (.fresh 0 0 (!w.params.followText "set-order")) }
section
variable {P : Program} {w : World} {A : Around} {E : Value → Shared → Prop} {s : Shared}
theorem set_of_list {l : Addr} {its : Array Value} (ns : List Int) {Q : Value → Shared → Prop} (calm : A.handled = none) (isl : s.heap.IsList l its) (hints : IntsAre its.toList ns) (few : ns.length + 1 < scanBound)
    (goal : ∀ (h' : Heap) (tk c : Nat), SetR w h' s.heap.objs.size (fun j => decide (j ∈ ns)) c → c ≤ ns.length → (∀ b o, s.heap.get? b = some o → h'.get? b = some o) → Q (.ref s.heap.objs.size) { s with heap := h', toks := tk }) :
    wpAny (model P w) A (call (.type "set") [.ref l]) Q E s := by
  have size_eq : its.size = ns.length := (Array.length_toList (xs := its)).symm.trans (IntsAre.length hints)
  obtain ⟨c0, tl0, m0⟩ := F.called_set.mro
  have q1 := F.called_set.made; have q2 := F.called_set.sub
  refine wpAny_call (codeAny_of_tree ?_)
  show wpAny _ _ (callAny (.type "set") ⟨[.ref l], []⟩) _ _ s
  refine wpAny_pure ⟨Code.quiet_builtin _ (by decide +kernel), codeAny_builtin F.entry_type_call ?_⟩
  rw [show A.under (.builtin "type.__call__" ⟨[.type "set", .ref l], []⟩) = _ from Around.under_plain (weight_type_call_type "set" [.ref l] []) rfl]
  have q3 := F.called_set.notType; have q4 := F.called_set.canCreate; have q5 := F.typeCall_set_1 (.ref l)
  repeat (any_goals (first | assumption | wp_step))
  refine codeAny_mono (code_set_led1 (.ref l) (E := E) (Q₁ := fun x s1 => x = .ref s.heap.objs.size ∧ s1 = { s with heap := s.heap.push (oS w) }) ⟨rfl, rfl⟩) fun r1 s1 h1 => ?_
  cases r1 with
  | error e => exact h1
  | ok f1 =>
    cases f1 with
    | ret x =>
      obtain ⟨rfl, rfl⟩ := h1
      have got : (s.heap.push (oS w)).get? s.heap.objs.size = some (oS w) := Heap.get?_push_size _ rfl
      have ty : Shared.TypeIs { s with heap := s.heap.push (oS w) } (.ref s.heap.objs.size) "set" := ⟨_, got, rfl⟩
      have q6 := F.called_set.init.lookup; have q7 := F.called_set.init.bind (.ref s.heap.objs.size)
      repeat (any_goals (first | assumption | wp_step))
      refine codeAny_mono (codeAny_call_builtin (R := wants (fun r s2 => r = .none ∧ ∃ h2 tk2 c2, s2 = { s with heap := h2, toks := tk2 } ∧ SetR w h2 s.heap.objs.size (fun j => decide (j ∈ ns)) c2 ∧ c2 ≤ ns.length ∧ (∀ b o, s.heap.get? b = some o → h2.get? b = some o)) E)
        F.called_set.init.plain F.entry_set_init (check_set_init_1 ty ?_)) fun r2 s2 h2 => ?_
      · obtain ⟨ol, hol, hcl, nl, hdl⟩ := isl
        obtain ⟨kcls, kdict, kdata, kslots⟩ := ol
        simp only at hcl hdl
        subst hcl; subst hdl
        have hol2 : (s.heap.push (oS w)).get? l = some { cls := .type "list", dict := kdict, data := .seq its nl, slots := kslots } := Heap.get?_push_of_some _ hol
        have g1 := F.sub_list_set; have g2 := F.sub_list_frozenset
        have g3 : (Value.type "list" == Value.type "dict") = false := by decide
        have isl2 : (s.heap.push (oS w)).IsList l its := ⟨_, hol2, rfl, nl, rfl⟩
        unfold Builtin.«set.__init__» noKeywords Builtin.Frozenset.updateFrom
        generalize hIter : pyIter = IT
        wp_walk
        subst hIter
        refine wpAny_pyIter_list isl2 ?_
        refine wpAny_bind (wpAny_runValue ?_)
        have lt0 : l < s.heap.objs.size := Heap.lt_size hol
        have sz : (s.heap.push (oS w)).objs.size = s.heap.objs.size + 1 := Heap.size_push ..
        have up : ∀ {b : Nat}, b < s.heap.objs.size → b ≠ (s.heap.push (oS w)).objs.size := fun h => Nat.ne_of_lt (by rw [sz]; exact Nat.lt_succ_of_lt h)
        have n1 : l ≠ (s.heap.push (oS w)).objs.size := up lt0
        have n2 : s.heap.objs.size ∉ [(s.heap.push (oS w)).objs.size, l] := by
          intro z
          rcases List.mem_cons.mp z with z | z
          · exact Nat.ne_of_lt (by rw [sz]; exact Nat.lt_succ_self _) z
          · exact Nat.ne_of_gt lt0 (List.mem_singleton.mp z)
        have each : ∀ (i : Nat) (v : Value), its[i]? = some v → ∃ k t, ns[i]? = some k ∧ v = .int k t := fun i v hv => by
          have hi : i < ns.length := size_eq ▸ (Array.getElem?_eq_some_iff.mp hv).1
          obtain ⟨t, e⟩ := PyProof.Rows.IntsAre.int_at hints i v ((Array.getElem?_toList (xs := its) (i := i)).trans hv)
          refine ⟨ns[i], t, List.getElem?_eq_getElem hi, e.trans ?_⟩
          rw [List.getD_eq_getElem?_getD, List.getElem?_eq_getElem hi]
          rfl
        refine set_update_ints ((Walks.list (by simp [calm]) _ l n1 its).toS) s.heap.objs.size n2 ns size_eq few each (its.size - 0) 0 _ (by omega) (Nat.zero_le _) ⟨⟨_, Heap.get?_push_size _ rfl, rfl, rfl⟩, (isl2.push _)⟩ ?st ?en
        case st => exact ⟨0, Nat.le_refl 0, setR_new_at (Heap.get?_push_of_some _ got)⟩
        case en =>
          intro s3 c3 mv le3 R3
          obtain ⟨h3, g3, d3, tk3, os3⟩ := s3
          have e1 : g3 = s.gens := mv.gens
          have e2 : d3 = s.drawn := mv.drawn
          have e3 : os3 = s.os := mv.os
          subst e1; subst e2; subst e3
          show wpAny _ _ _ _ _ _
          refine wpAny_pure ?_
          show wpAny _ _ (ret Value.none) _ _ _
          refine wpAny_pure ⟨rfl, h3, tk3, c3, rfl, R3, size_eq ▸ le3, fun b o e => ?_⟩
          have lb : b < s.heap.objs.size := Heap.lt_size e
          refine mv.heap b o (fun z => ?_) (Heap.get?_push_of_some _ (Heap.get?_push_of_some _ e))
          rcases List.mem_cons.mp z with z | z
          · exact Nat.ne_of_lt lb z
          · exact up lb (List.mem_singleton.mp z)
      · cases r2 with
        | error e => exact h2
        | ok f2 =>
          cases f2 with
          | ret y =>
            obtain ⟨rfl, h4, tk4, c4, rfl, R4, le4, k4⟩ := h2
            repeat (any_goals (first | assumption | wp_step))
            exact goal _ _ _ R4 le4 k4
          | _ => exact h2.elim
    | _ => exact h1.elim
end
section
variable {X : Cx}
def rSetL (K : PySem.W.Frag) (w : World) : List V → Hp → VK → Prop := fun xs H Q => ∃ (l : Addr) (ns : List Int), xs = [V.ref l] ∧ SqL K H l (ns.map V.int) ∧ ns.length ≤ 1000 ∧
  ∀ p c, H p = none → c ≤ ns.length → Q (.ref p) (upd H p (SetO w p (fun j => decide (j ∈ ns)) c))
theorem cr_setL (hc : X.calm = true) : CallR X (.type "set") (rSetL X.K X.w) := by
  intro pins s σ H xs us Q I r h
  obtain ⟨l, ns, rfl, hl, hz, q⟩ := h
  rw [Vals.ref1 r]
  obtain ⟨its, rv, pl, _⟩ := I.list hl
  refine set_of_list ns (I.ok.hd hc) pl.isList (ints_of_vals rv) (by unfold scanBound; omega) fun h' tk c R le k => ?_
  exact ⟨.ref s.heap.objs.size, upd H s.heap.objs.size (SetO X.w s.heap.objs.size (fun j => decide (j ∈ ns)) c), I.laid (t' := tk) k (Nat.le_refl _) (setO_new R), rfl, q _ c (I.hok.fresh (Nat.le_refl _)) le⟩
end
end DD

namespace DD
open PySem PySem.Spec PyProof.Rows L2
theorem iteNDT {c A B : Prop} [Decidable c] (hc : ¬ c) (h : A) : if (!decide c) = true then A else B := by
  rw [decide_eq_false hc]
  exact iteT h
/-- a walk over enumerate of a list that stands -/
theorem for_enum {K : PySem.W.Frag} {a : Addr} {xs : List V} {g : TG} {tb : TS} {D : Ends} {σ : L2.St} {H : Hp} (Pv : Nat → L2.St → Hp → Prop) (h0 : Pv 0 σ H) (hl : ∀ i σ H, i ≤ xs.length → Pv i σ H → SqL K H a xs)
    (hs : ∀ (i : Nat) (x : V) (t : Addr) (σ : L2.St) (H : Hp), xs[i]? = some x → Pv i σ H → H t = none → g (.ref t) σ (upd H t (.tup [.int (i : Nat), x])) fun σ2 H2 => tb { D with nx := Pv (i + 1), ct := Pv (i + 1), bk := D.nx } σ2 H2) (hd : ∀ σ H, Pv xs.length σ H → D.nx σ H) :
    ∃ W : Nat → Nat → L2.St → Hp → Prop, (∃ m, W 0 m σ H) ∧ ∀ i m σ H, W i m σ H →
      ((Ite K a).stop i H ∧ D.nx σ H) ∨ ((Ite K a).go i H ∧ ∃ N : L2.St → Hp → Prop, (∀ σ' H', N σ' H' → ∃ m', m' < m ∧ W (i + 1) m' σ' H') ∧ ∀ y H', (Ite K a).yld i H y H' → g y σ H' fun σ2 H2 => tb { D with nx := N, ct := N, bk := D.nx } σ2 H2) := by
  refine ⟨fun i m σ H => m = xs.length - i ∧ i ≤ xs.length ∧ Pv i σ H, ⟨xs.length, rfl, Nat.zero_le _, h0⟩, ?_⟩
  rintro i m σ H ⟨rfl, hi, p⟩
  have st := hl i σ H hi p
  by_cases hlt : i < xs.length
  · refine .inr ⟨⟨xs, xs[i], st, List.getElem?_eq_getElem hlt⟩, Pv (i + 1), fun σ' H' p' => ⟨xs.length - (i + 1), by omega, rfl, hlt, p'⟩, fun y H' hy => ?_⟩
    obtain ⟨t, x, ey, nt, eH, hx⟩ := hy
    rw [ey, eH]
    exact hs i x t σ H (hx xs st) p nt
  · have e : i = xs.length := by omega
    subst e
    exact .inl ⟨⟨xs, st, Nat.le_refl _⟩, hd σ H p⟩
/-- a comprehension without a test keeps each item -/
theorem keepT {σ : L2.St} {H : Hp} {te : TE} {R : V → Hp → Prop} {N : Hp → Prop} (h : te σ H R) : tYes σ H fun b H3 => if b = true then te σ H3 R else N H3 := by
  show if true = true then te σ H R else N H
  exact iteT h
/-! ### rules whose words don't name their place: for the inside of a comprehension -/
def rTup (K : PySem.W.Frag) : List V → Hp → VK → Prop := fun xs H Q => ∃ p ys, xs = [.ref p] ∧ ((SqL K H p ys ∧ ∀ l, H l = none → Q (.ref l) (upd H l (.tup ys))) ∨ (SqT K H p ys ∧ Q (.ref p) H))
theorem call_tupK {X : Cx} {K : PySem.W.Frag} (h : X.K = K) : CallR X (.type "tuple") (rTup K) := by
  subst h
  exact call_tuple_of
theorem ix_listK {X : Cx} {K : PySem.W.Frag} (h : X.K = K) : IxR X (rIxL K) := by
  subst h
  exact ix_list
theorem pe_fldK {X : Cx} {K : PySem.W.Frag} {e : Expr} {f : Str} {pos : Pos} {ta : TE} (h : X.K = K) (he : PE X e ta) (hb : attributeBase e f X.env (eval e X.env) = eval e X.env) : PE X (.Attribute e f pos) (tFld K ta f) := by
  subst h
  exact pe_fld he hb
section
variable {P : Program} {w : World} {K : PySem.W.Frag} {mg : Str → Option Value} {base : Heap}
/-! ### is_span, check_net -/
def spSpan : Sp := fun vs H Q _ => ∃ (t : Addr) (T n : Int) (q : Q4), vs = [.ref t, .int T, .int n] ∧ H t = some (.tup (four q)) ∧ Ok4 T n q ∧ Q (.bl true) H
theorem scSpan : FnScope ["span", "round_length", "events", "start", "end", "least", "most", "joins"] ["span", "round_length", "events"] (defScope sSpan) := ⟨rfl, rfl, rfl, by decide +kernel, rfl, by decide +kernel, by decide +kernel⟩
theorem ok_isspan (T : Tx K mg) : FnOk P w K mg base CX0 1 T.fis_span T.dis_span ["span", "round_length", "events"] spSpan := by
  refine T.Fis_span.ok scSpan (fun vs H Q E h => ?_) (fun cdv A outer s H vs Q E hr h => ?_)
  · obtain ⟨t, R, n, q, rfl, _⟩ := h
    rfl
  · obtain ⟨t, R, n, ⟨a, b, lo, hi⟩, rfl, ht, ok, q⟩ := h
    obtain ⟨s0, s1, e0, e1, ne, l0, lm, m1, m2⟩ := ok
    simp only at s0 s1 e0 e1 ne l0 lm m1 m2
    refine ⟨_, pss_cons (ps_if (pt_cmpR op_ne (pe_callB call_len_seq (by rfl) T.z_len (by decide +kernel) (pa_cons (pv 0) pa_nil)) pe_int (nomark _)) (pss_one (ps_ret pe_bl)) (pss_nil))
      (pss_cons (ps_asg (pv 0) (pg_tup rfl (pgs_cons (pg_name (i := 3) scSpan.nd rfl (.inl rfl)) (pgs_cons (pg_name (i := 4) scSpan.nd rfl (.inl rfl)) (pgs_cons (pg_name (i := 5) scSpan.nd rfl (.inl rfl)) (pgs_cons (pg_name (i := 6) scSpan.nd rfl (.inl rfl)) pgs_nil))))))
      (pss_cons (ps_set (i := 7) scSpan.nd rfl (.inl rfl) (pe_and (pe_chain op_le op_lt pe_int (pv 3) (pv 2)) (pe_and (pe_chain op_le op_lt pe_int (pv 4) (pv 2)) (pe_one (pe_cmpR op_ne (pv 3) (pv 4) (nomark _))))))
      (pss_one (ps_ret (pe_and (pv 7) (pe_one (pe_chain3 op_le op_le op_le pe_int (pv 5) (pv 6) (pe_callB (call_min2 rfl) (by rfl) T.z_min (by decide +kernel) (pa_cons (pe_op op_sub (pe_op op_add (pv 5) (pv 1)) pe_int) (pa_cons (pe_glob (v := .int 999) rfl T.c_MOST_ON_SPAN ⟨_, rfl⟩) pa_nil)))))))))), ?_⟩
    refine ⟨_, rfl, t, _, rfl, .inr (SqT.of ht), rfl, _, rfl, iteND rfl ?_⟩
    refine ⟨_, rfl, t, _, rfl, SqT.of ht, rfl, _, _, rfl, _, _, rfl, _, _, rfl, _, _, rfl, rfl, ?_⟩
    refine ⟨_, rfl, _, _, rfl, rfl, _, rfl, iteDT s0 ⟨_, rfl, _, _, rfl, rfl, _, rfl, iteDT s1 ?_⟩⟩
    refine ⟨_, rfl, _, _, rfl, rfl, _, rfl, iteDT e0 ⟨_, rfl, _, _, rfl, rfl, _, rfl, iteDT e1 ?_⟩⟩
    refine ⟨_, rfl, _, rfl, rfl, ?_⟩
    refine ⟨_, rfl, _, rfl, iteNDT (fun z => ne (V.int.inj z)) ?_⟩
    refine ⟨_, rfl, _, _, rfl, rfl, _, rfl, iteDT l0 ⟨_, rfl, _, _, rfl, rfl, _, rfl, iteDT lm ?_⟩⟩
    refine ⟨_, rfl, _, rfl, _, _, rfl, rfl, _, _, rfl, rfl, _, _, rfl, _, _, rfl, rfl, ?_⟩
    have e : decide (hi ≤ if 999 < lo + R - 1 then 999 else lo + R - 1) = true := decide_eq_true (by split <;> omega)
    show Q (V.bl (decide (hi ≤ if 999 < lo + R - 1 then 999 else lo + R - 1))) H
    rw [e]
    exact q
/-- what a net is made of -/
structure Mat (K : PySem.W.Frag) (H : Hp) (R n : Int) (a : Addr) (ts : List Addr) (ss : List Q4) : Prop where
  r2 : 2 ≤ R
  r60 : R ≤ 60
  n0 : 0 ≤ n
  n12 : n ≤ 12
  at_ : H a = some (.lst (ts.map V.ref))
  sp : SpsAt H ts ss
  ok : ∀ q, q ∈ ss → Ok4 R n q
  few : ss.length ≤ 24
def spChk (K : PySem.W.Frag) : Sp := fun vs H Q _ => ∃ (R n : Int) (a : Addr) (ts : List Addr) (ss : List Q4), vs = [.int R, .int n, .ref a] ∧ Mat K H R n a ts ss ∧ ∀ H', Same H H' → Q .non H'
theorem scChk : FnScope ["round_length", "events", "spans", "number", "span"] ["round_length", "events", "spans"] (defScope sChk) := ⟨rfl, rfl, rfl, by decide +kernel, rfl, by decide +kernel, by decide +kernel⟩
theorem ok_chk (T : Tx K mg) : FnOk P w K mg base CX0 2 T.fcheck_net T.dcheck_net ["round_length", "events", "spans"] (spChk K) := by
  have Gis_span := ok_isspan (P := P) (w := w) (base := base) T
  refine T.Fcheck_net.ok scChk (fun vs H Q E h => ?_) (fun cdv A outer s H vs Q E hr h => ?_)
  · obtain ⟨R, n, a, ts, ss, rfl, _⟩ := h
    rfl
  · obtain ⟨R, n, a, ts, ss, rfl, M, q⟩ := h
    refine ⟨_, pss_cons (ps_if (pt_not (pt_chain op_le op_le (pe_glob (v := .int 2) rfl T.c_LEAST_ROUND ⟨_, rfl⟩) (pv 0) (pe_glob (v := .int 60) rfl T.c_MOST_ROUND ⟨_, rfl⟩))) (pss_one (ps_never)) (pss_nil))
      (pss_cons (ps_if (pt_not (pt_chain op_le op_le pe_int (pv 1) (pe_glob (v := .int 12) rfl T.c_MOST_EVENTS ⟨_, rfl⟩))) (pss_one (ps_never)) (pss_nil))
      (pss_cons (ps_if (pt_cmpR op_gt (pe_callB call_len_seq (by rfl) T.z_len (by decide +kernel) (pa_cons (pv 2) pa_nil)) (pe_glob (v := .int 24) rfl T.c_MOST_SPANS ⟨_, rfl⟩) (nomark _)) (pss_one (ps_never)) (pss_nil))
      (pss_one (ps_for PassesOwn.never rfl (pi_enum (by rfl) T.z_enumerate (pa_cons (pv 2) pa_nil)) (pg_tup rfl (pgs_cons (pg_name (i := 3) scChk.nd rfl (.inl rfl)) (pgs_cons (pg_name (i := 4) scChk.nd rfl (.inl rfl)) pgs_nil)))
      (pss_one (ps_if (pt_not (pt_val (pe_call Gis_span hr (by rfl) T.gis_span T.Fis_span.kp T.bis_span .nil pass0 (pa_cons (pv 4) (pa_cons (pv 0) (pa_cons (pv 1) pa_nil)))))) (pss_one (ps_never)) (pss_nil))))))), ?_⟩
    refine ⟨_, rfl, _, _, rfl, rfl, _, rfl, iteDT M.r2 ⟨_, _, rfl, rfl, _, rfl, ?_⟩⟩
    rw [decide_eq_true M.r60]
    refine iteF ⟨_, rfl, _, _, rfl, rfl, _, rfl, iteDT M.n0 ⟨_, _, rfl, rfl, _, rfl, ?_⟩⟩
    rw [decide_eq_true M.n12]
    refine iteF ⟨_, rfl, a, _, rfl, .inl (SqL.of M.at_), _, _, rfl, rfl, _, rfl, iteD (by rw [List.length_map, M.sp.1]; have := M.few; omega) ?_⟩
    refine ⟨_, rfl, a, _, rfl, SqL.of M.at_, for_enum (K := K) (a := a) (xs := ts.map V.ref) (fun i σ H' => (∃ v3 v4, σ = [some (.int R), some (.int n), some (.ref a), v3, v4]) ∧ Same H H') ⟨⟨none, none, rfl⟩, Same.refl _⟩
      (fun i σ H' _ h => SqL.of (h.2 _ _ M.at_)) ?_ (fun σ H' h => q H' h.2)⟩
    rintro i x t σ H' hx ⟨⟨v3, v4, rfl⟩, sm⟩ nt
    obtain ⟨u, hu, rfl⟩ : ∃ u, ts[i]? = some u ∧ x = V.ref u := by
      rw [List.getElem?_map] at hx
      cases e : ts[i]? with
      | none =>
        rw [e] at hx
        cases hx
      | some u =>
        rw [e] at hx
        exact ⟨u, rfl, (Option.some.inj hx).symm⟩
    have hi : i < ss.length := by
      rw [← M.sp.1]
      exact (List.getElem?_eq_some_iff.mp hu).1
    have gq : ss[i]? = some ss[i] := List.getElem?_eq_getElem hi
    have hq := M.sp.2 i u _ hu gq
    have s2 : Same H (upd H' t (.tup [.int (i : Nat), .ref u])) := sm.trans (same_upd nt)
    refine ⟨t, _, rfl, SqT.of upd_same, rfl, _, _, rfl, _, _, rfl, rfl, ?_⟩
    refine ⟨_, rfl, _, rfl, _, rfl, u, R, n, ss[i], rfl, s2 _ _ hq, M.ok _ (List.mem_of_getElem? gq), _, rfl, iteF ?_⟩
    exact ⟨⟨_, _, rfl⟩, s2⟩
/-! ### Net.__init__ -/
theorem ne_er : ¬ (("events" : Str) = "round_length") := by decide +kernel
theorem ne_sr : ¬ (("spans" : Str) = "round_length") := by decide +kernel
theorem ne_se : ¬ (("spans" : Str) = "events") := by decide +kernel
def nf (R n : Int) (t : Addr) : List (Str × V) := putF "spans" (.ref t) (putF "events" (.int n) (putF "round_length" (.int R) []))
theorem nf_events (R n : Int) (t : Addr) : (nf R n t).lookup ("events" : Str) = some (.int n) := by
  unfold nf
  rw [lookup_putF, if_neg (fun z => ne_se z.symm), lookup_putF, if_pos rfl]
theorem nf_spans (R n : Int) (t : Addr) : (nf R n t).lookup ("spans" : Str) = some (.ref t) := by
  unfold nf
  rw [lookup_putF, if_pos rfl]
theorem nf_no (R n : Int) (t : Addr) {m : Str} (h1 : ¬ m = "spans") (h2 : ¬ m = "events") (h3 : ¬ m = "round_length") : (nf R n t).lookup m = none := by
  unfold nf
  rw [lookup_putF, if_neg h1, lookup_putF, if_neg h2, lookup_putF, if_neg h3]
  rfl
theorem put_len (f : Str) (v : V) : ∀ fs : List (Str × V), (putF f v fs).length ≤ fs.length + 1
  | [] => Nat.le_refl _
  | (g, x) :: r => by
    unfold putF
    split
    · exact Nat.le_succ _
    · exact Nat.succ_le_succ (put_len f v r)
/-- a net stands at p, its spans' tuple at t -/
def NetAt (C : Addr) (H : Hp) (p : Addr) (R n : Int) (t : Addr) : Prop := ∃ dx, H p = some (.ins C dx (nf R n t))
def spInit (K : PySem.W.Frag) (C : Addr) : Sp := fun vs H Q _ => ∃ (p dx : Addr) (R n : Int) (a : Addr) (ts : List Addr) (ss : List Q4), vs = [.ref p, .int R, .int n, .ref a] ∧ H p = some (.ins C dx []) ∧ Mat K H R n a ts ss ∧
  ∀ H' t, H t = none → NetAt C H' p R n t → H' t = some (.tup (ts.map V.ref)) → But p H H' → Q .non H'
theorem scInit : FnScope ["self", "round_length", "events", "spans", "span"] ["self", "round_length", "events", "spans"] (defScope sInit) := ⟨rfl, rfl, rfl, by decide +kernel, rfl, by decide +kernel, by decide +kernel⟩
theorem Mat.same {H H' : Hp} {R n : Int} {a : Addr} {ts : List Addr} {ss : List Q4} (M : Mat K H R n a ts ss) (s : Same H H') : Mat K H' R n a ts ss := ⟨M.r2, M.r60, M.n0, M.n12, s _ _ M.at_, M.sp.same s, M.ok, M.few⟩
theorem ok_init (T : Tx K mg) : FnOk P w K mg base CX0 3 T.fNet_init T.dNet_init ["self", "round_length", "events", "spans"] (spInit K T.C_Net) := by
  have Gcheck_net := ok_chk (P := P) (w := w) (base := base) T
  refine T.FNet_init.ok scInit (fun vs H Q E h => ?_) (fun cdv A outer s H vs Q E hr h => ?_)
  · obtain ⟨p, dx, R, n, a, ts, ss, rfl, _⟩ := h
    rfl
  · obtain ⟨p, dx, R, n, a, ts, ss, rfl, hp, M, q⟩ := h
    refine ⟨_, pss_cons (ps_expr (pe_call Gcheck_net hr (by rfl) T.gcheck_net T.Fcheck_net.kp T.bcheck_net .nil pass0 (pa_cons (pv 1) (pa_cons (pv 2) (pa_cons (pv 3) pa_nil)))))
      (pss_cons (ps_fld (pv 0) (pv 1) rfl)
      (pss_cons (ps_fld (pv 0) (pv 2) rfl)
      (pss_one (ps_fld (pv 0) (pe_callTy call_tuple_of (by rfl) T.z_tuple (by decide +kernel) (pa_cons (pe_lc (own := [("span", 4)]) (g := gName 4) rfl scInit.nd (pi_list (pv 3)) (blkOk_by (own := [("span", 4)]) (N := ["self", "round_length", "events", "spans", "span"]) (sc := defScope sInit) (by decide +kernel)) (fun _ _ _ _ _ => pg_name (i := 4) scInit.nd rfl (.inl rfl)) (fun _ _ _ _ _ => pts_nil) (fun _ _ _ _ _ => (pe_callTy (T := "tuple") (call_tupK (K := K) rfl) (by rfl) T.z_tuple (by decide +kernel) (pa_cons (pv 4) pa_nil)))) pa_nil)) rfl)))), ?_⟩
    refine ⟨_, rfl, _, rfl, _, rfl, R, n, a, ts, ss, rfl, M, fun H1 s1 => ?_⟩
    have hp1 := s1 _ _ hp
    refine ⟨_, rfl, _, rfl, p, T.C_Net, dx, _, rfl, hp1, T.cl_Net, T.na_Net_round_length, (by show 0 < 1000; decide), ?_⟩
    refine ⟨_, rfl, _, rfl, p, T.C_Net, dx, _, rfl, upd_same, T.cl_Net, T.na_Net_events, (by show 1 < 1000; decide), ?_⟩
    have ap : a ≠ p := ne_of M.at_ hp (by intro z; cases z)
    have k2 : But p H (upd (upd H1 p (.ins T.C_Net dx (putF "round_length" (.int R) []))) p (.ins T.C_Net dx (putF "events" (.int n) (putF "round_length" (.int R) [])))) := ((But.of s1).trans But.put).trans But.put
    have hA := k2 _ _ ap M.at_
    have hP : (upd (upd H1 p (.ins T.C_Net dx (putF "round_length" (.int R) []))) p (.ins T.C_Net dx (putF "events" (.int n) (putF "round_length" (.int R) [])))) p = some (.ins T.C_Net dx (putF "events" (.int n) (putF "round_length" (.int R) []))) := upd_same
    generalize upd (upd H1 p (.ins T.C_Net dx (putF "round_length" (.int R) []))) p (.ins T.C_Net dx (putF "events" (.int n) (putF "round_length" (.int R) []))) = H2 at k2 hA hP ⊢
    refine ⟨_, rfl, a, rfl, ⟨_, SqL.of hA⟩, fun D nD => ?_⟩
    have aD : a ≠ D := ne_of_none hA nD
    refine lc_list (K := K) (a := a) (xs := ts.map V.ref) (fun i H' => Same H2 H' ∧ H' D = some (.lst ((ts.take i).map V.ref))) ⟨same_upd nD, upd_same⟩ (fun i H' _ h => SqL.of (h.1 _ _ hA)) ?_ ?_
    · rintro i x H' hx ⟨sm, hD⟩
      obtain ⟨u, hu, rfl⟩ : ∃ u, ts[i]? = some u ∧ x = V.ref u := by
        rw [List.getElem?_map] at hx
        cases e : ts[i]? with
        | none =>
          rw [e] at hx
          cases hx
        | some u =>
          rw [e] at hx
          exact ⟨u, rfl, (Option.some.inj hx).symm⟩
      have hi : i < ss.length := by
        rw [← M.sp.1]
        exact (List.getElem?_eq_some_iff.mp hu).1
      have hq := M.sp.2 i u _ hu (List.getElem?_eq_getElem hi)
      have up : u ≠ p := ne_of hq hp (by intro z; cases z)
      refine ⟨rfl, keepT ?_⟩
      refine ⟨_, rfl, u, _, rfl, .inr ⟨SqT.of (sm _ _ (k2 _ _ up hq)), _, hD, small1000 (by rw [List.length_map, List.length_take]; have := M.few; have := M.sp.1; omega), ?_, ?_⟩⟩
      · exact Same.put sm nD
      · rw [upd_same, List.take_add_one, hu, List.map_append]
        rfl
    · rintro H3 ⟨sm, hD⟩
      rw [List.length_map, List.take_length] at hD
      refine ⟨D, _, rfl, .inl ⟨SqL.of hD, fun t nt => ?_⟩⟩
      have pt : p ≠ t := ne_of_none (sm _ _ hP) nt
      refine ⟨_, rfl, p, T.C_Net, dx, _, rfl, (by rw [upd_ne pt]; exact sm _ _ hP), T.cl_Net, T.na_Net_spans, ?_, ?_⟩
      · have z1 := put_len "events" (.int n) (putF "round_length" (.int R) [])
        have z2 := put_len "round_length" (.int R) []
        simp only [List.length_nil] at z2
        omega
      · have kk : But p H (upd H3 t (.tup (ts.map V.ref))) := (k2.trans (But.of sm)).trans (But.of (same_upd nt))
        refine q _ t ((k2.trans (But.of sm)).free pt.symm nt) ⟨dx, upd_same⟩ ?_ (kk.trans But.put)
        rw [upd_ne pt.symm, upd_same]
end
end DD

namespace DD
open PySem PySem.Spec PyProof.Rows L2
/-- a list at d of lists of ints, all made since H0 -/
structure RowsAt (H0 H : Hp) (d : Addr) (as : List Addr) (L : List (List Int)) : Prop where
  at_ : H d = some (.lst (as.map V.ref))
  len : as.length = L.length
  row : ∀ (i : Nat) (a : Addr) (l : List Int), as[i]? = some a → L[i]? = some l → H a = some (.lst (l.map V.int))
  new : ∀ a, a ∈ as → H0 a = none
  ned : ∀ a, a ∈ as → a ≠ d
theorem RowsAt.more {H0 H1 H2 : Hp} {D d : Addr} {as : List Addr} {L : List (List Int)} {l : List Int} (r : RowsAt H0 H1 D as L) (s : Same H1 H2) (hd : H2 d = some (.lst (l.map V.int))) (nd : H1 d = none) (n0 : H0 d = none) :
    RowsAt H0 (upd H2 D (.lst ((as ++ [d]).map V.ref))) D (as ++ [d]) (L ++ [l]) := by
  have dD : d ≠ D := fun e => by
    rw [e, r.at_] at nd
    cases nd
  have all : ∀ a, a ∈ as ++ [d] → a ≠ D := fun a h => by
    rcases List.mem_append.mp h with h | h
    · exact r.ned a h
    · rw [List.mem_singleton.mp h]
      exact dD
  refine ⟨upd_same, by rw [List.length_append, List.length_append, r.len]; rfl, fun i a l' ha hl => ?_, fun a h => ?_, all⟩
  · rw [upd_ne (all a (List.mem_of_getElem? ha))]
    by_cases hi : i < as.length
    · rw [List.getElem?_append_left hi] at ha
      rw [List.getElem?_append_left (by rw [← r.len]; exact hi)] at hl
      exact s _ _ (r.row i a l' ha hl)
    · have hlt : i < as.length + 1 := by
        have z := (List.getElem?_eq_some_iff.mp ha).1
        rw [List.length_append] at z
        exact z
      have e : i = as.length := by omega
      subst e
      rw [List.getElem?_append_right (Nat.le_refl _), Nat.sub_self] at ha
      rw [r.len, List.getElem?_append_right (Nat.le_refl _), Nat.sub_self] at hl
      have e1 : d = a := Option.some.inj ha
      have e2 : l = l' := Option.some.inj hl
      rw [← e1, ← e2]
      exact hd
  · rcases List.mem_append.mp h with h | h
    · exact r.new a h
    · rw [List.mem_singleton.mp h]
      exact n0
theorem at_gt {n : Nat} {L : List Int} (hl : L.length = n) {x : Int} (h : Inn n x) : atI (L.map V.int) x = some (.int (gt L x)) := by
  have hx : x.toNat < L.length := by
    rw [hl]
    exact h.lt
  refine at_of (j := x.toNat) (by have := h.1; omega) ?_
  rw [List.getElem?_map, List.getElem?_eq_getElem hx, gt_get hx]
  rfl
theorem two_sorted {a b : Int} {ns : List Int} (p : ns.Perm [a, b]) (h : ns.Pairwise (· ≤ ·)) : ns = [min a b, max a b] := by
  have hl := p.length_eq
  match ns, hl with
  | [x, y], _ =>
    have hxy : x ≤ y := by
      have := (List.pairwise_cons.mp h).1 y (by simp)
      exact this
    have hx : x ∈ [a, b] := p.mem_iff.mp (by simp)
    have hy : y ∈ [a, b] := p.mem_iff.mp (by simp)
    have ha : a ∈ [x, y] := p.mem_iff.mpr (by simp)
    have hb : b ∈ [x, y] := p.mem_iff.mpr (by simp)
    simp only [List.mem_cons, List.not_mem_nil, or_false] at hx hy ha hb
    have e1 : x = min a b := by omega
    have e2 : y = max a b := by omega
    rw [e1, e2]
theorem ref_at {ts : List Addr} {i : Nat} {x : V} (hx : (ts.map V.ref)[i]? = some x) : ∃ u, ts[i]? = some u ∧ x = V.ref u := by
  rw [List.getElem?_map] at hx
  cases e : ts[i]? with
  | none =>
    rw [e] at hx
    cases hx
  | some u =>
    rw [e] at hx
    exact ⟨u, rfl, (Option.some.inj hx).symm⟩
theorem int_at {l : List Int} {i : Nat} {x : V} (hx : (l.map V.int)[i]? = some x) : ∃ k, l[i]? = some k ∧ x = V.int k := by
  rw [List.getElem?_map] at hx
  cases e : l[i]? with
  | none =>
    rw [e] at hx
    cases hx
  | some u =>
    rw [e] at hx
    exact ⟨u, rfl, (Option.some.inj hx).symm⟩
/-- the comprehension that a return hands back -/
def retLc (s : Stmt) : Scope := match s with
  | .Return (some (.ListComp _ _ sc _)) _ => sc
  | _ => defScope s
def nth (s : Stmt) (i : Nat) : Stmt := (defBody s).getD i (.Pass ⟨0, 0, 0, 0⟩)
theorem rg_take {n e : Nat} (h : e < n) : (rg n).take (e + 1) = (rg n).take e ++ [(e : Int)] := by
  rw [List.take_add_one]
  congr 1
  unfold rg
  rw [List.getElem?_map, List.getElem?_range h]
  rfl
section
variable {P : Program} {w : World} {K : PySem.W.Frag} {mg : Str → Option Value} {base : Heap}
def spPie (C : Addr) : Sp := fun vs H Q _ => ∃ (p tt : Addr) (R : Int) (n : Nat) (ts : List Addr) (ss : List Q4), vs = [.ref p] ∧ NetAt C H p R n tt ∧ H tt = some (.tup (ts.map V.ref)) ∧ SpsAt H ts ss ∧ Evs n ss ∧ n ≤ 12 ∧
  ∀ H' d as, Same H H' → H d = none → RowsAt H H' d as (rows n (pcs n ss)) → Q (.ref d) H'
theorem scPie : FnScope ["self", "firsts", "span", "low", "high", "head", "first", "event"] ["self"] (defScope sPie) := ⟨rfl, rfl, rfl, by decide +kernel, rfl, by decide +kernel, by decide +kernel⟩
theorem ok_pie (T : Tx K mg) : FnOk P w K mg base CX0 1 T.fNet_pieces T.dNet_pieces ["self"] (spPie T.C_Net) := by
  refine T.FNet_pieces.ok scPie (fun vs H Q E h => ?_) (fun cdv A outer s H vs Q E hr h => ?_)
  · obtain ⟨p, tt, R, n, ts, ss, rfl, _⟩ := h
    rfl
  · obtain ⟨p, tt, R, n, ts, ss, rfl, ⟨dx, hp⟩, htt, hsp, ev, hn, q⟩ := h
    refine ⟨_, pss_cons (ps_set (i := 1) scPie.nd rfl (.inr rfl) (pe_listRg rfl (by rfl) T.z_list (prg_1 (by rfl) T.z_range (pe_fld (pv 0) rfl))))
      (pss_cons (ps_for PassesOwn.never rfl (pi_tup (pe_fld (pv 0) rfl)) (pg_name (i := 2) scPie.nd rfl (.inl rfl))
      (pss_cons (ps_asg (pe_callB cr_sorted (by rfl) T.z_sorted (by decide +kernel) (pa_cons (pe_lst (pa_cons (pe_ix ix_list (pv 1) (pe_ix ix_tup (pv 2) pe_int (fun _ _ => rfl)) (fun _ _ => rfl)) (pa_cons (pe_ix ix_list (pv 1) (pe_ix ix_tup (pv 2) pe_int (fun _ _ => rfl)) (fun _ _ => rfl)) pa_nil))) pa_nil)) (pg_unl rfl (pgs_cons (pg_name (i := 3) scPie.nd rfl (.inr rfl)) (pgs_cons (pg_name (i := 4) scPie.nd rfl (.inr rfl)) pgs_nil))))
      (pss_one (ps_set (i := 1) scPie.nd rfl (.inr rfl) (pe_lc (own := [("first", 6)]) (g := gName 6) rfl scPie.nd (pi_list (pv 1)) (blkOk_by (own := [("first", 6)]) (N := ["self", "firsts", "span", "low", "high", "head", "first", "event"]) (sc := defScope sPie) (by decide +kernel)) (fun _ _ _ _ _ => pg_name (i := 6) scPie.nd rfl (.inl rfl)) (fun _ _ _ _ _ => pts_nil) (fun _ _ _ _ _ => (pe_ifExp (pt_cmpR op_eq (pv 6) (pv 4) (nomark _)) (pv 3) (pv 6))))))))
      (pss_one (ps_ret (pe_lc (own := [("head", 5)]) (g := gName 5) rfl scPie.nd (pi_list (pe_callB (cr_sortedSet rfl) (by rfl) T.z_sorted (by decide +kernel) (pa_cons (pe_callTy (T := "set") (cr_setL rfl) (by rfl) T.z_set (by decide +kernel) (pa_cons (pv 1) pa_nil)) pa_nil))) (blkOk_by (own := [("head", 5)]) (N := ["self", "firsts", "span", "low", "high", "head", "first", "event"]) (sc := defScope sPie) (by decide +kernel)) (fun _ _ _ _ _ => pg_name (i := 5) scPie.nd rfl (.inr rfl)) (fun _ _ _ _ _ => pts_nil) (fun _ _ _ _ _ => (pe_lc (own := [("event", 7)]) (g := gName 7) rfl scPie.nd (pi_range1 (by rfl) T.z_range (pa_cons (pe_fldK (K := K) rfl (pv 0) rfl) pa_nil)) (blkOk_by (own := [("event", 7)]) (N := ["self", "firsts", "span", "low", "high", "head", "first", "event"]) (sc := relS (retLc (nth sPie 2)) (defScope sPie)) (by decide +kernel)) (fun _ _ _ _ _ => pg_name (i := 7) scPie.nd rfl (.inl rfl)) (fun _ _ _ _ _ => pts_one (pt_cmpR op_eq (pe_ix (ix_listK (K := K) rfl) (pv 1) (pv 7) (fun _ _ => rfl)) (pv 5) (nomark _))) (fun _ _ _ _ _ => (pv 7)))))))), ?_⟩
    refine ⟨_, rfl, p, T.C_Net, dx, _, _, rfl, hp, T.cl_Net, T.na_Net_events, nf_events _ _ _, _, rfl, RgOk.of_le (by decide) (by omega) (by decide) (by omega), fun f hf => ?_⟩
    rw [rgV_eq]
    have pf : p ≠ f := ne_of_none hp hf
    have tf : tt ≠ f := ne_of_none htt hf
    refine ⟨_, rfl, p, T.C_Net, dx, _, _, rfl, (by rw [upd_ne pf]; exact hp), T.cl_Net, T.na_Net_spans, nf_spans _ _ _, tt, rfl, ⟨_, SqT.of (by rw [upd_ne tf]; exact htt)⟩,
      for_tup (K := K) (a := tt) (xs := ts.map V.ref) (fun i σ H' => ∃ (f : Addr) (v2 v3 v4 : Option V), σ = [some (.ref p), some (.ref f), v2, v3, v4, none, none, none] ∧ Same H H' ∧ H f = none ∧ H' f = some (.lst (((ss.take i).foldl pstep (rg n)).map V.int)))
      ⟨f, none, none, none, rfl, same_upd hf, hf, upd_same⟩ (fun i σ H' _ ⟨_, _, _, _, _, sm, _⟩ => SqT.of (sm _ _ htt)) ?_ ?_⟩
    · rintro i x σ H1 hx ⟨f1, v2, v3, v4, rfl, sm, f0, hF⟩
      obtain ⟨u, hu, rfl⟩ := ref_at hx
      have hi : i < ss.length := by
        rw [← hsp.1]
        exact (List.getElem?_eq_some_iff.mp hu).1
      have gq : ss[i]? = some ss[i] := List.getElem?_eq_getElem hi
      have hq := sm _ _ (hsp.2 i u _ hu gq)
      have hm : ss[i] ∈ ss := List.mem_of_getElem? gq
      have lb := (p_all ev (ss.take i) [] (rg n) (Lab.start n ss) (fun q h => by cases h) (fun q h => List.mem_of_mem_take h) (fun q h => by cases h)).1
      have step : (ss.take (i + 1)).foldl pstep (rg n) = pstep ((ss.take i).foldl pstep (rg n)) ss[i] := by
        rw [List.take_add_one, gq, List.foldl_append]
        rfl
      rw [step]
      generalize (ss.take i).foldl pstep (rg n) = L at lb hF ⊢
      generalize ss[i] = qq at hq hm ⊢
      obtain ⟨i1, i2⟩ := ev qq hm
      have g1 := at_gt lb.len i1
      have g2 := at_gt lb.len i2
      -- low, high = sorted([firsts[span[0]], firsts[span[1]]])
      refine ⟨_, rfl, _, rfl, u, _, _, _, rfl, rfl, SqT.of hq, rfl, f1, _, _, _, rfl, rfl, SqL.of hF, g1, ?_⟩
      refine ⟨_, rfl, _, rfl, u, _, _, _, rfl, rfl, SqT.of hq, rfl, f1, _, _, _, rfl, rfl, SqL.of hF, g2, (by show 2 ≤ sizeLine; decide), fun c hc => ?_⟩
      refine ⟨c, [gt L qq.1, gt L qq.2.1], rfl, SqL.of upd_same, (by show 2 < 64; decide), fun ns d pm asc hd => ?_⟩
      rw [two_sorted pm asc]
      have s2 : Same H1 (upd (upd H1 c (.lst [.int (gt L qq.1), .int (gt L qq.2.1)])) d (.lst (List.map V.int [min (gt L qq.1) (gt L qq.2.1), max (gt L qq.1) (gt L qq.2.1)]))) := (same_upd hc).trans (same_upd hd)
      have hD : (upd (upd H1 c (.lst [.int (gt L qq.1), .int (gt L qq.2.1)])) d (.lst (List.map V.int [min (gt L qq.1) (gt L qq.2.1), max (gt L qq.1) (gt L qq.2.1)]))) d = some (.lst [.int (min (gt L qq.1) (gt L qq.2.1)), .int (max (gt L qq.1) (gt L qq.2.1))]) := upd_same
      refine ⟨d, _, rfl, SqL.of hD, rfl, _, _, rfl, _, _, rfl, rfl, ?_⟩
      generalize upd (upd H1 c (.lst [.int (gt L qq.1), .int (gt L qq.2.1)])) d (.lst (List.map V.int [min (gt L qq.1) (gt L qq.2.1), max (gt L qq.1) (gt L qq.2.1)])) = H2 at s2 ⊢
      have hF2 := s2 _ _ hF
      -- firsts = [low if first == high else first for first in firsts]
      refine ⟨_, rfl, f1, rfl, ⟨_, SqL.of hF2⟩, fun D nD => ?_⟩
      refine lc_list (K := K) (a := f1) (xs := L.map V.int) (fun j H' => Same H2 H' ∧ H' D = some (.lst ((pmap (min (gt L qq.1) (gt L qq.2.1)) (max (gt L qq.1) (gt L qq.2.1)) (L.take j)).map V.int))) ⟨same_upd nD, upd_same⟩ (fun j H' _ h => SqL.of (h.1 _ _ hF2)) ?_ ?_
      · rintro j y H' hy ⟨sj, hDj⟩
        obtain ⟨k, hk, rfl⟩ := int_at hy
        have hz : j < L.length := (List.getElem?_eq_some_iff.mp hk).1
        have size : ((pmap (min (gt L qq.1) (gt L qq.2.1)) (max (gt L qq.1) (gt L qq.2.1)) (L.take j)).map V.int).length < sizeLine := by
          unfold pmap
          rw [List.length_map, List.length_map, List.length_take]
          have := lb.len
          exact small1000 (by omega)
        have next : pmap (min (gt L qq.1) (gt L qq.2.1)) (max (gt L qq.1) (gt L qq.2.1)) (L.take (j + 1)) = pmap (min (gt L qq.1) (gt L qq.2.1)) (max (gt L qq.1) (gt L qq.2.1)) (L.take j) ++ [if k = max (gt L qq.1) (gt L qq.2.1) then min (gt L qq.1) (gt L qq.2.1) else k] := by
          unfold pmap
          rw [List.take_add_one, hk, List.map_append]
          rfl
        refine ⟨rfl, keepT ?_⟩
        refine ⟨_, rfl, _, rfl, rfl, _, rfl, iteDs (fun h => ?_) (fun h => ?_)⟩
        · have e := V.int.inj h
          refine ⟨_, rfl, _, hDj, size, Same.put sj nD, ?_⟩
          rw [upd_same, next, if_pos e, List.map_append]
          rfl
        · have e : ¬ k = max (gt L qq.1) (gt L qq.2.1) := fun z => h (congrArg V.int z)
          refine ⟨_, rfl, _, hDj, size, Same.put sj nD, ?_⟩
          rw [upd_same, next, if_neg e, List.map_append]
          rfl
      · rintro H3 ⟨sj, hDj⟩
        rw [List.length_map, List.take_length] at hDj
        exact ⟨D, _, _, _, rfl, (sm.trans s2).trans sj, (sm.trans s2).free nD, hDj⟩
    · rintro σ H1 ⟨f1, v2, v3, v4, rfl, sm, f0, hF⟩
      rw [List.length_map, hsp.1, List.take_length] at hF
      have M := (pcs_lab ev).1
      have hF0 : H1 f1 = some (.lst ((pcs n ss).map V.int)) := hF
      have hlen : (pcs n ss).length ≤ 12 := by
        rw [M.len]
        exact hn
      -- sorted(set(firsts))
      refine ⟨_, rfl, f1, pcs n ss, rfl, SqL.of hF0, by omega, fun sp c nsp hc => ?_⟩
      refine ⟨sp, _, c, rfl, upd_same, by omega, fun hs h1 asc mem hl nh => ?_⟩
      have eh : hs = heads n (pcs n ss) := heads_eq ev asc fun k => by rw [mem k, decide_eq_true_eq]
      subst eh
      have hl12 : (heads n (pcs n ss)).length ≤ 12 := by omega
      have s2 : Same H1 (upd (upd H1 sp (SetO w sp (fun j => decide (j ∈ pcs n ss)) c)) h1 (.lst ((heads n (pcs n ss)).map V.int))) := (same_upd nsp).trans (same_upd nh)
      have hH : (upd (upd H1 sp (SetO w sp (fun j => decide (j ∈ pcs n ss)) c)) h1 (.lst ((heads n (pcs n ss)).map V.int))) h1 = some (.lst ((heads n (pcs n ss)).map V.int)) := upd_same
      refine ⟨h1, rfl, ⟨_, SqL.of hH⟩, fun D nD => ?_⟩
      have nD1 : H1 D = none := s2.free (show (upd (upd H1 sp (SetO w sp (fun j => decide (j ∈ pcs n ss)) c)) h1 (.lst ((heads n (pcs n ss)).map V.int))) D = none from nD)
      have hD1 : h1 ≠ D := ne_of_none hH nD
      have st0 : Same H1 (upd (upd (upd H1 sp (SetO w sp (fun j => decide (j ∈ pcs n ss)) c)) h1 (.lst ((heads n (pcs n ss)).map V.int))) D (.lst [])) ∧ (upd (upd (upd H1 sp (SetO w sp (fun j => decide (j ∈ pcs n ss)) c)) h1 (.lst ((heads n (pcs n ss)).map V.int))) D (.lst [])) h1 = some (.lst ((heads n (pcs n ss)).map V.int)) :=
        ⟨Same.put s2 nD1, by rw [upd_ne hD1]; exact hH⟩
      have hF2 := hF0
      have hp2 := sm _ _ hp
      refine lc_list (K := K) (a := h1) (xs := (heads n (pcs n ss)).map V.int) (fun j H' => (Same H1 H' ∧ H' h1 = some (.lst ((heads n (pcs n ss)).map V.int))) ∧ ∃ as, RowsAt H H' D as ((rows n (pcs n ss)).take j)) ⟨st0, [], upd_same, rfl, fun i a l z => (by cases z), fun a z => (by cases z), fun a z => (by cases z)⟩ (fun j H' _ h => SqL.of h.1.2) ?_ ?_
      · rintro j y H3 hy ⟨⟨sj, hh⟩, as, hR⟩
        obtain ⟨h, hk, rfl⟩ := int_at hy
        have hrow : (rows n (pcs n ss)).take (j + 1) = (rows n (pcs n ss)).take j ++ [row n (pcs n ss) h] := by
          rw [List.take_add_one]
          unfold rows
          rw [List.getElem?_map, hk]
          rfl
        have hj : j < (heads n (pcs n ss)).length := (List.getElem?_eq_some_iff.mp hk).1
        refine ⟨rfl, keepT ?_⟩
        refine ⟨_, rfl, p, T.C_Net, dx, _, _, rfl, sj _ _ hp2, T.cl_Net, T.na_Net_events, nf_events _ _ _, _, rfl, by omega, by omega, fun D2 nD2 => ?_⟩
        refine lc_range (lo := 0) (n := n) (fun e H' => Same H3 H' ∧ H' D2 = some (.lst ((((rg n).take e).filter fun z => decide (gt (pcs n ss) z = h)).map V.int))) ⟨same_upd nD2, upd_same⟩ ?_ ?_
        · rintro e H4 he ⟨se, hD2⟩
          have e0 : (0 : Int) + (e : Int) = (e : Int) := by omega
          have ge := at_gt (L := pcs n ss) M.len (x := 0 + (e : Int)) ⟨by omega, by omega⟩
          refine ⟨rfl, ?_⟩
          refine ⟨_, rfl, _, rfl, f1, _, _, _, rfl, rfl, SqL.of (se _ _ (sj _ _ hF2)), ge, _, rfl, rfl, _, rfl, iteDs (fun z => ?_) (fun z => ?_)⟩
          · have z1 := V.int.inj z
            rw [e0] at z1
            refine ⟨_, rfl, _, hD2, ?_, Same.put se nD2, ?_⟩
            · rw [List.length_map]
              have := List.length_filter_le (fun z => decide (gt (pcs n ss) z = h)) ((rg n).take e)
              rw [List.length_take] at this
              exact small1000 (by omega)
            · rw [upd_same, rg_take he, List.filter_append, List.filter_cons_of_pos (by simpa using z1), List.filter_nil, List.map_append, e0]
              rfl
          · have z1 : ¬ gt (pcs n ss) (e : Int) = h := fun y => z (by rw [e0, y])
            refine ⟨se, ?_⟩
            rw [rg_take he, List.filter_append, List.filter_cons_of_neg (by simpa using z1), List.filter_nil, List.append_nil]
            exact hD2
        · rintro H4 ⟨se, hD2⟩
          have et : (rg n).take n = rg n := List.take_of_length_le (by rw [rg_len]; exact Nat.le_refl _)
          rw [et] at hD2
          have all : Same H H3 := sm.trans sj
          refine ⟨_, se _ _ hR.at_, ?_, ⟨Same.put (sj.trans se) nD1, by rw [upd_ne hD1]; exact se _ _ hh⟩, as ++ [D2], ?_⟩
          · rw [List.length_map, hR.len, List.length_take]
            exact small1000 (by unfold rows; rw [List.length_map]; omega)
          · have mo := hR.more se hD2 nD2 (all.free nD2)
            rw [List.map_append] at mo
            rw [hrow]
            exact mo
      · rintro H3 ⟨⟨sj, hh⟩, as, hR⟩
        have et : (rows n (pcs n ss)).take ((heads n (pcs n ss)).map V.int).length = rows n (pcs n ss) := List.take_of_length_le (by unfold rows; rw [List.length_map, List.length_map]; exact Nat.le_refl _)
        rw [et] at hR
        exact q H3 D as (sm.trans sj) (sm.free nD1) hR
end
end DD

namespace DD
open PySem PySem.Spec PyProof.Rows L2
theorem ix_in {α : Type} {xs : List α} {x : Int} {n : Nat} (h : Inn n x) (hl : xs.length = n) : ixN xs.length x = some x.toNat := by
  unfold ixN
  have h1 := h.1
  have h2 := h.2
  rw [if_pos h1, if_pos (by omega)]
/-- a list at d of lists of ints -/
structure RowsD (H : Hp) (d : Addr) (as : List Addr) (L : List (List Int)) : Prop where
  at_ : H d = some (.lst (as.map V.ref))
  len : as.length = L.length
  row : ∀ (i : Nat) (a : Addr) (l : List Int), as[i]? = some a → L[i]? = some l → H a = some (.lst (l.map V.int))
theorem RowsAt.d {H0 H : Hp} {d : Addr} {as : List Addr} {L : List (List Int)} (r : RowsAt H0 H d as L) : RowsD H d as L := ⟨r.at_, r.len, r.row⟩
theorem RowsD.same {H H' : Hp} {d : Addr} {as : List Addr} {L : List (List Int)} (r : RowsD H d as L) (s : Same H H') : RowsD H' d as L := ⟨s _ _ r.at_, r.len, fun i a l h1 h2 => s _ _ (r.row i a l h1 h2)⟩
theorem rp_rows {H : Hp} {d e : Addr} {as bs : List Addr} {L : List (List Int)} (r : RowsD H d as L) (q : RowsD H e bs L) (hl : L.length ≤ 1000) (hr : ∀ l, l ∈ L → l.length ≤ 1000) : Rp 3 H (.ref d) (.ref e) := by
  refine .inr ⟨d, e, _, _, rfl, rfl, .inl ⟨r.at_, q.at_⟩, by rw [List.length_map, List.length_map, r.len, q.len], by rw [List.length_map, r.len]; exact hl, fun i x y hx hy => ?_⟩
  obtain ⟨a, ha, rfl⟩ := ref_at hx
  obtain ⟨b, hb, rfl⟩ := ref_at hy
  have hi : i < L.length := by
    rw [← r.len]
    exact (List.getElem?_eq_some_iff.mp ha).1
  have g : L[i]? = some L[i] := List.getElem?_eq_getElem hi
  refine .inr ⟨a, b, _, _, rfl, rfl, .inl ⟨r.row i a _ ha g, q.row i b _ hb g⟩, rfl, by rw [List.length_map]; exact hr _ (List.mem_of_getElem? g), fun j x y hx hy => ?_⟩
  obtain ⟨k, hk, rfl⟩ := int_at hx
  rw [hx] at hy
  exact .inl ⟨k, rfl, (Option.some.inj hy).symm⟩
theorem rp_spans {H : Hp} {t t' : Addr} {ts : List Addr} {ss : List Q4} (h : H t = some (.tup (ts.map V.ref))) (h' : H t' = some (.tup (ts.map V.ref))) (sp : SpsAt H ts ss) (hl : ss.length ≤ 1000) : Rp 3 H (.ref t) (.ref t') := by
  refine .inr ⟨t, t', _, _, rfl, rfl, .inr ⟨h, h'⟩, rfl, by rw [List.length_map, sp.1]; exact hl, fun i x y hx hy => ?_⟩
  rw [hx] at hy
  cases hy
  obtain ⟨u, hu, rfl⟩ := ref_at hx
  have hi : i < ss.length := by
    rw [← sp.1]
    exact (List.getElem?_eq_some_iff.mp hu).1
  have g := sp.2 i u _ hu (List.getElem?_eq_getElem hi)
  refine .inr ⟨u, u, _, _, rfl, rfl, .inr ⟨g, g⟩, rfl, by show 4 ≤ 1000; decide, fun j x y hx hy => ?_⟩
  rw [hx] at hy
  cases hy
  have m : x ∈ four ss[i] := List.mem_of_getElem? hx
  unfold four at m
  simp only [List.mem_cons, List.not_mem_nil, or_false] at m
  rcases m with rfl | rfl | rfl | rfl <;> exact .inl ⟨_, rfl, rfl⟩
theorem rows_len {n : Nat} {L : List Int} : (rows n L).length ≤ n := by
  unfold rows heads
  rw [List.length_map]
  have := List.length_filter_le (fun i => decide (gt L i = i)) (rg n)
  rw [rg_len] at this
  exact this
theorem row_len {n : Nat} {L l : List Int} (h : l ∈ rows n L) : l.length ≤ n := by
  unfold rows at h
  obtain ⟨k, _, rfl⟩ := List.mem_map.mp h
  unfold row
  have := List.length_filter_le (fun e => decide (gt L e = k)) (rg n)
  rw [rg_len] at this
  exact this
section
variable {P : Program} {w : World} {K : PySem.W.Frag} {mg : Str → Option Value} {base : Heap}
/-! ### the law's own pieces -/
def spJnd : Sp := fun vs H Q _ => ∃ (n : Nat) (a : Addr) (ts : List Addr) (ss : List Q4), vs = [.int n, .ref a] ∧ n ≤ 12 ∧ H a = some (.lst (ts.map V.ref)) ∧ SpsAt H ts ss ∧ Evs n ss ∧
  ∀ H' d as, Same H H' → RowsD H' d as (rows n (pcs n ss)) → Q (.ref d) H'
theorem scJnd : FnScope ["_law_many", "_law_spans", "_law_labels", "_law_k", "_law_span_here", "_law_low", "_law_found", "_law_first", "_law_event"] ["_law_many", "_law_spans"] (defScope sJnd) := ⟨rfl, rfl, rfl, by decide +kernel, rfl, by decide +kernel, by decide +kernel⟩
theorem ok_jnd (T : Tx K mg) : FnOk P w K mg base CX0 1 T.f_law_joined T.d_law_joined ["_law_many", "_law_spans"] spJnd := by
  refine T.F_law_joined.ok scJnd (fun vs H Q E h => ?_) (fun cdv A outer s H vs Q E hr h => ?_)
  · obtain ⟨n, a, ts, ss, rfl, _⟩ := h
    rfl
  · obtain ⟨n, a, ts, ss, rfl, hn, hA, hsp, ev, q⟩ := h
    refine ⟨_, pss_cons (ps_set (i := 2) scJnd.nd rfl (.inr rfl) (pe_listRg rfl (by rfl) T.z_list (prg_1 (by rfl) T.z_range (pv 0))))
      (pss_cons (ps_for PassesOwn.never rfl (pi_range1 (by rfl) T.z_range (pa_cons (pv 0) pa_nil)) (pg_name (i := 3) scJnd.nd rfl (.inl rfl))
      (pss_one (ps_for PassesOwn.never rfl (pi_list (pv 1)) (pg_name (i := 4) scJnd.nd rfl (.inl rfl))
      (pss_cons (ps_set (i := 5) scJnd.nd rfl (.inl rfl) (pe_callB (call_min2 rfl) (by rfl) T.z_min (by decide +kernel) (pa_cons (pe_ix ix_list (pv 2) (pe_ix ix_tup (pv 4) pe_int (fun _ _ => rfl)) (fun _ _ => rfl)) (pa_cons (pe_ix ix_list (pv 2) (pe_ix ix_tup (pv 4) pe_int (fun _ _ => rfl)) (fun _ _ => rfl)) pa_nil))))
      (pss_cons (ps_asg (pv 5) (pg_sub (pv 2) (pe_ix ix_tup (pv 4) pe_int (fun _ _ => rfl)) set_list))
      (pss_one (ps_asg (pv 5) (pg_sub (pv 2) (pe_ix ix_tup (pv 4) pe_int (fun _ _ => rfl)) set_list))))))))
      (pss_cons (ps_set (i := 6) scJnd.nd rfl (.inl rfl) (pe_lst pa_nil))
      (pss_cons (ps_for PassesOwn.never rfl (pi_range1 (by rfl) T.z_range (pa_cons (pv 0) pa_nil)) (pg_name (i := 7) scJnd.nd rfl (.inr rfl))
      (pss_one (ps_if (pt_cmpR op_eq (pe_ix ix_list (pv 2) (pv 7) (fun _ _ => rfl)) (pv 7) (nomark _)) (pss_one (ps_expr (pe_bm PySem.F.plainAttrs_list PySem.F.slot_list_append PySem.F.type_list_append mt_append (pv 6) (pa_cons (pe_lc (own := [("_law_event", 8)]) (g := gName 8) rfl scJnd.nd (pi_range1 (by rfl) T.z_range (pa_cons (pv 0) pa_nil)) (blkOk_by (own := [("_law_event", 8)]) (N := ["_law_many", "_law_spans", "_law_labels", "_law_k", "_law_span_here", "_law_low", "_law_found", "_law_first", "_law_event"]) (sc := defScope sJnd) (by decide +kernel)) (fun _ _ _ _ _ => pg_name (i := 8) scJnd.nd rfl (.inl rfl)) (fun _ _ _ _ _ => pts_one (pt_cmpR op_eq (pe_ix (ix_listK (K := K) rfl) (pv 2) (pv 8) (fun _ _ => rfl)) (pv 7) (nomark _))) (fun _ _ _ _ _ => (pv 8))) pa_nil)))) (pss_nil))))
      (pss_one (ps_ret (pv 6)))))), ?_⟩
    refine ⟨_, rfl, _, rfl, RgOk.of_le (by decide) (by omega) (by decide) (by omega), fun l hl => ?_⟩
    rw [rgV_eq]
    refine ⟨_, rfl, _, rfl, by omega, by omega, for_range (lo := 0) (n := n) (fun i σ H' => ∃ (v3 v4 v5 : Option V), σ = [some (.int n), some (.ref a), some (.ref l), v3, v4, v5, none, none, none] ∧ Same H H' ∧ H' l = some (.lst ((itr (jround ss) (rg n) i).map V.int)))
      ⟨none, none, none, rfl, same_upd hl, upd_same⟩ ?_ ?_⟩
    · rintro i σ H1 hi ⟨v3, v4, v5, rfl, sm, hL⟩
      have lb0 := itr_lab ev i
      show tFor _ _ _ _ _ _
      refine ⟨_, rfl, a, rfl, ⟨_, SqL.of (sm _ _ hA)⟩, for_list (K := K) (a := a) (xs := ts.map V.ref) (fun j σ H' => ∃ (v3 v4 v5 : Option V), σ = [some (.int n), some (.ref a), some (.ref l), v3, v4, v5, none, none, none] ∧ Same H H' ∧ H' l = some (.lst (((ss.take j).foldl jstep (itr (jround ss) (rg n) i)).map V.int)))
        ⟨_, v4, v5, rfl, sm, hL⟩ (fun j σ H' _ ⟨_, _, _, _, s', _⟩ => SqL.of (s' _ _ hA)) ?_ ?_⟩
      · rintro j x σ H2 hx ⟨v3, v4, v5, rfl, sm2, hL2⟩
        obtain ⟨u, hu, rfl⟩ := ref_at hx
        have hj : j < ss.length := by
          rw [← hsp.1]
          exact (List.getElem?_eq_some_iff.mp hu).1
        have gq : ss[j]? = some ss[j] := List.getElem?_eq_getElem hj
        have hq := sm2 _ _ (hsp.2 j u _ hu gq)
        have hm : ss[j] ∈ ss := List.mem_of_getElem? gq
        have lb := (round_lab ev (ss.take j) _ (fun q h => List.mem_of_mem_take h) lb0).1
        have step : (ss.take (j + 1)).foldl jstep (itr (jround ss) (rg n) i) = jstep ((ss.take j).foldl jstep (itr (jround ss) (rg n) i)) ss[j] := by
          rw [List.take_add_one, gq, List.foldl_append]
          rfl
        rw [step]
        generalize (ss.take j).foldl jstep (itr (jround ss) (rg n) i) = L at lb hL2 ⊢
        generalize ss[j] = qq at hq hm ⊢
        obtain ⟨i1, i2⟩ := ev qq hm
        have g1 := at_gt lb.len i1
        have g2 := at_gt lb.len i2
        refine ⟨_, rfl, _, rfl, u, _, _, _, rfl, rfl, SqT.of hq, rfl, l, _, _, _, rfl, rfl, SqL.of hL2, g1, ?_⟩
        refine ⟨_, rfl, _, rfl, u, _, _, _, rfl, rfl, SqT.of hq, rfl, l, _, _, _, rfl, rfl, SqL.of hL2, g2, _, _, rfl, ?_⟩
        have ul : u ≠ l := ne_of hq hL2 (by intro z; cases z)
        refine ⟨_, rfl, _, rfl, _, rfl, u, _, _, _, rfl, rfl, SqT.of hq, rfl, l, _, _, qq.1.toNat, rfl, rfl, hL2, ix_in i1 (by rw [List.length_map]; exact lb.len), ?_⟩
        refine ⟨_, rfl, _, rfl, _, rfl, u, _, _, _, rfl, rfl, SqT.of (by rw [upd_ne ul]; exact hq), rfl, l, _, _, qq.2.1.toNat, rfl, rfl, upd_same, ix_in i2 (by rw [List.length_set, List.length_map]; exact lb.len), ?_⟩
        refine ⟨_, _, _, rfl, Same.put (Same.put sm2 hl) hl, ?_⟩
        rw [upd_same]
        show some (HO.lst (((L.map V.int).set qq.1.toNat (.int (jlow L qq))).set qq.2.1.toNat (.int (jlow L qq)))) = _
        unfold jstep
        rw [List.map_set, List.map_set]
      · rintro σ H2 ⟨v3, v4, v5, rfl, sm2, hL2⟩
        rw [List.length_map, hsp.1, List.take_length] at hL2
        exact ⟨_, _, _, rfl, sm2, hL2⟩
    · rintro σ H1 ⟨v3, v4, v5, rfl, sm, hL⟩
      have el : itr (jround ss) (rg n) n = pcs n ss := lab_eq ev
      rw [el] at hL
      have M := (pcs_lab ev).1
      refine ⟨Nat.zero_le _, fun d hd => ?_⟩
      have ld : l ≠ d := ne_of_none hL hd
      refine ⟨_, rfl, _, rfl, by omega, by omega, for_range (lo := 0) (n := n) (fun i σ H' => ∃ (v7 : Option V) (as : List Addr), σ = [some (.int n), some (.ref a), some (.ref l), v3, v4, v5, some (.ref d), v7, none] ∧ Same H1 H' ∧ RowsAt H1 H' d as ((((rg n).take i).filter fun z => decide (gt (pcs n ss) z = z)).map (row n (pcs n ss))))
        ⟨none, [], rfl, same_upd hd, upd_same, rfl, fun i a l z => (by cases z), fun a z => (by cases z), fun a z => (by cases z)⟩ ?_ ?_⟩
      · rintro i σ H2 hi ⟨v7, as, rfl, s2, hR⟩
        have e0 : (0 : Int) + (i : Int) = (i : Int) := by omega
        have ge := at_gt (L := pcs n ss) M.len (x := 0 + (i : Int)) ⟨by omega, by omega⟩
        refine ⟨_, rfl, _, rfl, l, _, _, _, rfl, rfl, SqL.of (s2 _ _ hL), ge, _, rfl, rfl, _, rfl, iteDs (fun z => ?_) (fun z => ?_)⟩
        · have z1 := V.int.inj z
          rw [e0] at z1
          refine ⟨_, rfl, .inl ⟨rfl, _, SqL.of hR.at_⟩, _, rfl, _, rfl, by omega, by omega, fun D2 nD2 => ?_⟩
          refine lc_range (lo := 0) (n := n) (fun e H' => Same H2 H' ∧ H' D2 = some (.lst ((((rg n).take e).filter fun z => decide (gt (pcs n ss) z = (i : Int))).map V.int))) ⟨same_upd nD2, upd_same⟩ ?_ ?_
          · rintro e H4 he ⟨se, hD2⟩
            have f0 : (0 : Int) + (e : Int) = (e : Int) := by omega
            have ge2 := at_gt (L := pcs n ss) M.len (x := 0 + (e : Int)) ⟨by omega, by omega⟩
            refine ⟨rfl, ?_⟩
            refine ⟨_, rfl, _, rfl, l, _, _, _, rfl, rfl, SqL.of (se _ _ (s2 _ _ hL)), ge2, _, rfl, rfl, _, rfl, iteDs (fun y => ?_) (fun y => ?_)⟩
            · have y1 := V.int.inj y
              rw [e0, f0] at y1
              refine ⟨_, rfl, _, hD2, ?_, Same.put se nD2, ?_⟩
              · rw [List.length_map]
                have := List.length_filter_le (fun z => decide (gt (pcs n ss) z = (i : Int))) ((rg n).take e)
                rw [List.length_take] at this
                exact small1000 (by omega)
              · rw [upd_same, rg_take he, List.filter_append, List.filter_cons_of_pos (by simpa using y1), List.filter_nil, List.map_append, f0]
                rfl
            · have y1 : ¬ gt (pcs n ss) (e : Int) = (i : Int) := fun x => y (by rw [e0, f0, x])
              refine ⟨se, ?_⟩
              rw [rg_take he, List.filter_append, List.filter_cons_of_neg (by simpa using y1), List.filter_nil, List.append_nil]
              exact hD2
          · rintro H4 ⟨se, hD2⟩
            have et : (rg n).take n = rg n := List.take_of_length_le (by rw [rg_len]; exact Nat.le_refl _)
            rw [et] at hD2
            refine ⟨d, _, _, rfl, rfl, se _ _ hR.at_, ?_, ?_⟩
            · rw [List.length_map, hR.len, List.length_map]
              have := List.length_filter_le (fun z => decide (gt (pcs n ss) z = z)) ((rg n).take i)
              rw [List.length_take] at this
              exact small1000 (by omega)
            · have mo := hR.more (l := row n (pcs n ss) (i : Int)) se hD2 nD2 (s2.free nD2)
              rw [List.map_append] at mo
              refine ⟨_, as ++ [D2], rfl, Same.put (s2.trans se) hd, ?_⟩
              rw [rg_take hi, List.filter_append, List.filter_cons_of_pos (by simpa using z1), List.filter_nil, List.map_append]
              exact mo
        · have z1 : ¬ gt (pcs n ss) (i : Int) = (i : Int) := fun y => z (by rw [e0, y])
          refine ⟨_, as, rfl, s2, ?_⟩
          rw [rg_take hi, List.filter_append, List.filter_cons_of_neg (by simpa using z1), List.filter_nil, List.append_nil]
          exact hR
      · rintro σ H2 ⟨v7, as, rfl, s2, hR⟩
        have et : (rg n).take n = rg n := List.take_of_length_le (by rw [rg_len]; exact Nat.le_refl _)
        rw [et] at hR
        exact ⟨_, rfl, q H2 d as (sm.trans s2) hR.d⟩
/-! ### pieces_good -/
theorem Evs.of {R : Int} {n : Nat} {ss : List Q4} (h : ∀ q, q ∈ ss → Ok4 R n q) : Evs n ss := fun q m => ⟨⟨(h q m).s0, (h q m).s1⟩, ⟨(h q m).e0, (h q m).e1⟩⟩
def spPgd (C : Addr) : Sp := fun vs H Q _ => ∃ (p tt due : Addr) (R : Int) (n : Nat) (ts bs : List Addr) (ss : List Q4), vs = [.ref p, .ref due] ∧ NetAt C H p R n tt ∧ H tt = some (.tup (ts.map V.ref)) ∧ SpsAt H ts ss ∧ Evs n ss ∧ n ≤ 12 ∧ RowsD H due bs (rows n (pcs n ss)) ∧
  ∀ H', Same H H' → Q (.bl true) H'
theorem scPgd : FnScope ["_law_net", "_law_due", "_law_got", "_law_inner"] ["_law_net", "_law_due"] (defScope sPgd) := ⟨rfl, rfl, rfl, by decide +kernel, rfl, by decide +kernel, by decide +kernel⟩
theorem ok_pgd (T : Tx K mg) : FnOk P w K mg base CX0 4 T.f_law_pieces_good T.d_law_pieces_good ["_law_net", "_law_due"] (spPgd T.C_Net) := by
  have G_Net_pieces := (ok_pie (P := P) (w := w) (base := base) T).mono (k := 3) (by decide)
  have G_law_same := ok_same (P := P) (w := w) (base := base) T 3
  refine T.F_law_pieces_good.ok scPgd (fun vs H Q E h => ?_) (fun cdv A outer s H vs Q E hr h => ?_)
  · obtain ⟨p, tt, due, R, n, ts, bs, ss, rfl, _⟩ := h
    rfl
  · obtain ⟨p, tt, due, R, n, ts, bs, ss, rfl, ⟨dx, hp⟩, htt, hsp, ev, hn, hD, q⟩ := h
    refine ⟨_, pss_cons (ps_set (i := 2) scPgd.nd rfl (.inl rfl) (pe_meth0 (pv 0) T.cl_Net T.m_Net_pieces G_Net_pieces hr T.bNet_pieces .nil pass0))
      (pss_cons (ps_if (pt_not (pt_val (pe_call G_law_same hr (by rfl) T.g_law_same T.F_law_same.kp T.b_law_same .nil pass0 (pa_cons (pv 2) (pa_cons (pv 1) pa_nil))))) (pss_one (ps_ret pe_bl)) (pss_nil))
      (pss_cons (ps_expr (pe_bm PySem.F.plainAttrs_list PySem.F.slot_list_append PySem.F.type_list_append mt_append (pv 2) (pa_cons (pe_lst (pa_cons pe_int pa_nil)) pa_nil)))
      (pss_cons (ps_set (i := 3) scPgd.nd rfl (.inl rfl) (pe_ix ix_list (pv 2) pe_int (fun _ _ => rfl)))
      (pss_cons (ps_expr (pe_bm PySem.F.plainAttrs_list PySem.F.slot_list_append PySem.F.type_list_append mt_append (pv 3) (pa_cons (pe_callB call_len_seq (by rfl) T.z_len (by decide +kernel) (pa_cons (pv 1) pa_nil)) pa_nil)))
      (pss_one (ps_ret (pe_call G_law_same hr (by rfl) T.g_law_same T.F_law_same.kp T.b_law_same .nil pass0 (pa_cons (pe_meth0 (pv 0) T.cl_Net T.m_Net_pieces G_Net_pieces hr T.bNet_pieces .nil pass0) (pa_cons (pv 1) pa_nil))))))))), ?_⟩
    have noP : (nf R n tt).lookup ("pieces" : Str) = none := nf_no _ _ _ (by decide +kernel) (by decide +kernel) (by decide +kernel)
    have l1 : (rows n (pcs n ss)).length ≤ 1000 := Nat.le_trans rows_len (by omega)
    have l2 : ∀ l, l ∈ rows n (pcs n ss) → l.length ≤ 1000 := fun l h => Nat.le_trans (row_len h) (by omega)
    refine ⟨_, rfl, p, dx, _, rfl, hp, noP, p, tt, R, n, ts, ss, rfl, ⟨dx, hp⟩, htt, hsp, ev, hn, fun H1 d as s1 d0 hR => ?_⟩
    refine ⟨_, rfl, _, rfl, _, _, rfl, rp_rows hR.d (hD.same s1) l1 l2, _, rfl, iteF ?_⟩
    -- got.append([0])
    refine ⟨_, rfl, .inl ⟨rfl, _, SqL.of hR.at_⟩, (by show 1 ≤ sizeLine; decide), fun z hz => ?_⟩
    have zd : d ≠ z := ne_of_none hR.at_ hz
    have hRz : (upd H1 z (.lst [.int 0])) d = some (.lst (as.map V.ref)) := by
      rw [upd_ne zd]
      exact hR.at_
    refine ⟨d, _, _, rfl, rfl, hRz, ?_, ?_⟩
    · rw [List.length_map, hR.len]
      exact small1000 l1
    · -- inner = got[0]; inner.append(len(due))
      have s3 : Same H (upd (upd H1 z (.lst [.int 0])) d (.lst (as.map V.ref ++ [.ref z]))) := Same.put (s1.trans (same_upd hz)) d0
      obtain ⟨y, ys, gy, y0, hy, hys⟩ : ∃ (y : Addr) (ys : List V), atI (as.map V.ref ++ [.ref z]) 0 = some (.ref y) ∧ H y = none ∧ (upd (upd H1 z (.lst [.int 0])) d (.lst (as.map V.ref ++ [.ref z]))) y = some (.lst ys) ∧ ys.length ≤ 1000 := by
        cases ha : as with
        | nil => exact ⟨z, [.int 0], rfl, s1.free hz, by rw [upd_ne zd.symm, upd_same], by show 1 ≤ 1000; decide⟩
        | cons b r =>
          have hb : as[0]? = some b := by
            rw [ha]
            rfl
          have mb : b ∈ as := List.mem_of_getElem? hb
          have h0 : 0 < (rows n (pcs n ss)).length := by
            rw [← hR.len, ha]
            exact Nat.succ_pos _
          have gl : (rows n (pcs n ss))[0]? = some (rows n (pcs n ss))[0] := List.getElem?_eq_getElem h0
          have hb1 := hR.row 0 b _ hb gl
          have bz : b ≠ z := ne_of_none hb1 hz
          have bd : b ≠ d := hR.ned b mb
          refine ⟨b, _, at_of (j := 0) rfl rfl, hR.new b mb, by rw [upd_ne bd, upd_ne bz]; exact hb1, ?_⟩
          rw [List.length_map]
          exact l2 _ (List.mem_of_getElem? gl)
      refine ⟨_, rfl, d, _, _, _, rfl, rfl, SqL.of upd_same, gy, ?_⟩
      generalize upd (upd H1 z (.lst [.int 0])) d (.lst (as.map V.ref ++ [.ref z])) = H3 at s3 hy ⊢
      refine ⟨_, rfl, .inl ⟨rfl, _, SqL.of hy⟩, _, rfl, due, _, rfl, .inl (SqL.of (s3 _ _ hD.at_)), y, _, _, rfl, rfl, hy, small1000 hys, ?_⟩
      have s4 : Same H (upd H3 y (.lst (ys ++ [.int ((bs.map V.ref).length : Nat)]))) := Same.put s3 y0
      -- same(net.pieces(), due)
      refine ⟨_, rfl, p, dx, _, rfl, s4 _ _ hp, noP, p, tt, R, n, ts, ss, rfl, ⟨dx, s4 _ _ hp⟩, s4 _ _ htt, hsp.same s4, ev, hn, fun H5 d2 as2 s5 d20 hR2 => ?_⟩
      exact ⟨_, rfl, _, _, rfl, rp_rows hR2.d (hD.same (s4.trans s5)) l1 l2, q H5 (s4.trans s5)⟩
end
end DD

namespace DD
open PySem PySem.Spec PyProof.Rows L2
theorem take_get {α : Type} {l : List α} {c i : Nat} {x : α} (h : (l.take c)[i]? = some x) : l[i]? = some x := by
  rw [List.getElem?_take] at h
  split at h
  · exact h
  · cases h
theorem SpsAt.take {H : Hp} {ts : List Addr} {ss : List Q4} (h : SpsAt H ts ss) (c : Nat) : SpsAt H (ts.take c) (ss.take c) :=
  ⟨by rw [List.length_take, List.length_take, h.1], fun i t q a b => h.2 i t q (take_get a) (take_get b)⟩
section
variable {P : Program} {w : World} {K : PySem.W.Frag} {mg : Str → Option Value} {base : Heap}
def spLaw (K : PySem.W.Frag) : Sp := fun vs H Q _ => ∃ (a : Addr) (ns : List Int), vs = [.ref a] ∧ SqL K H a (ns.map V.int) ∧ ns.length ≤ 63 ∧ ∀ H', Q (.bl true) H'
theorem scLaw : FnScope ["_law_script", "_law_pool_here", "_law_length_here", "_law_many", "_law_spans", "_law_count", "_law_net", "_law_other", "_law_due"] ["_law_script"] (defScope sLaw) := ⟨rfl, rfl, rfl, by decide +kernel, rfl, by decide +kernel, by decide +kernel⟩
theorem ok_law (T : Tx K mg) : FnOk P w K mg base CX0 5 T.flaw T.dlaw ["_law_script"] (spLaw K) := by
  have G_law_pool := (ok_pool (P := P) (w := w) (base := base) T).mono (k := 4) (by decide)
  have G_law_length := (ok_len (P := P) (w := w) (base := base) T).mono (k := 4) (by decide)
  have G_law_take := (ok_take (P := P) (w := w) (base := base) T).mono (k := 4) (by decide)
  have G_law_spans_of := ok_spo (P := P) (w := w) (base := base) T
  have G_Net := ok_init (P := P) (w := w) (base := base) T
  have G_law_joined := (ok_jnd (P := P) (w := w) (base := base) T).mono (k := 4) (by decide)
  have G_law_pieces_good := ok_pgd (P := P) (w := w) (base := base) T
  have G_Net_pieces := (ok_pie (P := P) (w := w) (base := base) T).mono (k := 4) (by decide)
  have G_law_same := (ok_same (P := P) (w := w) (base := base) T 3).mono (k := 4) (by decide)
  refine T.Flaw.ok scLaw (fun vs H Q E h => ?_) (fun cdv A outer s H vs Q E hr h => ?_)
  · obtain ⟨a, ns, rfl, _⟩ := h
    rfl
  · obtain ⟨sa, ns, rfl, hS, hlen, q⟩ := h
    refine ⟨_, pss_cons (ps_set (i := 1) scLaw.nd rfl (.inl rfl) (pe_call G_law_pool hr (by rfl) T.g_law_pool T.F_law_pool.kp T.b_law_pool .nil pass0 (pa_cons (pv 0) (pa_cons pe_int pa_nil))))
      (pss_cons (ps_set (i := 2) scLaw.nd rfl (.inl rfl) (pe_call G_law_length hr (by rfl) T.g_law_length T.F_law_length.kp T.b_law_length .nil pass0 (pa_cons (pv 1) pa_nil)))
      (pss_cons (ps_set (i := 3) scLaw.nd rfl (.inl rfl) (pe_call G_law_take hr (by rfl) T.g_law_take T.F_law_take.kp T.b_law_take .nil pass0 (pa_cons (pv 1) (pa_cons pe_int pa_nil))))
      (pss_cons (ps_set (i := 4) scLaw.nd rfl (.inl rfl) (pe_call G_law_spans_of hr (by rfl) T.g_law_spans_of T.F_law_spans_of.kp T.b_law_spans_of .nil pass0 (pa_cons (pv 1) (pa_cons (pv 2) (pa_cons (pv 3) pa_nil)))))
      (pss_cons (ps_set (i := 5) scLaw.nd rfl (.inl rfl) (pe_call G_law_take hr (by rfl) T.g_law_take T.F_law_take.kp T.b_law_take .nil pass0 (pa_cons (pv 1) (pa_cons (pe_op op_add (pe_callB call_len_seq (by rfl) T.z_len (by decide +kernel) (pa_cons (pv 4) pa_nil)) pe_int) pa_nil))))
      (pss_cons (ps_set (i := 6) scLaw.nd rfl (.inl rfl) (pe_make T.M_Net G_Net hr (by rfl) T.g_Net T.bNet_init .nil pass0 (pa_cons (pv 2) (pa_cons (pv 3) (pa_cons (pe_callTy (T := "list") call_list_of (by rfl) T.z_list (by decide +kernel) (pa_cons (pv 4) pa_nil)) pa_nil)))))
      (pss_cons (ps_set (i := 7) scLaw.nd rfl (.inl rfl) (pe_make T.M_Net G_Net hr (by rfl) T.g_Net T.bNet_init .nil pass0 (pa_cons (pv 2) (pa_cons (pv 3) (pa_cons (pe_slice sl_list (pv 4) po_none (po_some (pv 5))) pa_nil)))))
      (pss_cons (ps_set (i := 8) scLaw.nd rfl (.inl rfl) (pe_call G_law_joined hr (by rfl) T.g_law_joined T.F_law_joined.kp T.b_law_joined .nil pass0 (pa_cons (pv 3) (pa_cons (pv 4) pa_nil))))
      (pss_cons (ps_if (PW.pt (pw_or (pt_not (pt_val (pe_call G_law_pieces_good hr (by rfl) T.g_law_pieces_good T.F_law_pieces_good.kp T.b_law_pieces_good .nil pass0 (pa_cons (pv 6) (pa_cons (pv 8) pa_nil))))) (pw_or1 (pt_not (pt_val (pe_call G_law_pieces_good hr (by rfl) T.g_law_pieces_good T.F_law_pieces_good.kp T.b_law_pieces_good .nil pass0 (pa_cons (pv 7) (pa_cons (pe_call G_law_joined hr (by rfl) T.g_law_joined T.F_law_joined.kp T.b_law_joined .nil pass0 (pa_cons (pv 3) (pa_cons (pe_slice sl_list (pv 4) po_none (po_some (pv 5))) pa_nil))) pa_nil)))))))) (pss_one (ps_ret pe_bl)) (pss_nil))
      (pss_one (ps_ret (pe_and (pe_call G_law_same hr (by rfl) T.g_law_same T.F_law_same.kp T.b_law_same .nil pass0 (pa_cons (pe_meth0 (pv 6) T.cl_Net T.m_Net_pieces G_Net_pieces hr T.bNet_pieces .nil pass0) (pa_cons (pv 8) pa_nil))) (pe_one (pe_call G_law_same hr (by rfl) T.g_law_same T.F_law_same.kp T.b_law_same .nil pass0 (pa_cons (pe_fld (pv 6) rfl) (pa_cons (pe_callTy (T := "tuple") call_tuple_of (by rfl) T.z_tuple (by decide +kernel) (pa_cons (pv 4) pa_nil)) pa_nil))))))))))))))), ?_⟩
    refine ⟨_, rfl, sa, ns, 0, rfl, hS, Nat.zero_le _, fun H1 p p0 s1 hp1 => ?_⟩
    refine ⟨_, rfl, p, rfl, hp1, fun H2 R hR2 hR60 hp2 k2 => ?_⟩
    refine ⟨_, rfl, p, _, rfl, hp2, by decide, by decide, fun H3 n0 hn0 hn13 hp3 k3 => ?_⟩
    obtain ⟨n, rfl⟩ : ∃ j : Nat, n0 = (j : Int) := ⟨n0.toNat, by omega⟩
    have hn : n ≤ 12 := by omega
    refine ⟨_, rfl, _, rfl, _, rfl, p, R, n, rfl, hp3, hR2, hR60, hn, fun H4 a ts ss hp4 k4 hSp hok hfew => ?_⟩
    have ne4 := hSp.nep hp3
    have ev : Evs n ss := Evs.of hok
    refine ⟨_, rfl, _, rfl, a, _, rfl, .inl (SqL.of hSp.at_), _, _, rfl, rfl, p, _, rfl, hp4, by omega, by rw [List.length_map, hSp.sp.1]; omega, fun H5 c0 hc0 hc1 hp5 k5 => ?_⟩
    rw [List.length_map, hSp.sp.1] at hc1
    obtain ⟨c, rfl⟩ : ∃ j : Nat, c0 = (j : Int) := ⟨c0.toNat, by omega⟩
    have hA : H5 a = some (.lst (ts.map V.ref)) := (But.eq k5) _ _ ne4.1 hSp.at_
    have hsp : SpsAt H5 ts ss := ⟨hSp.sp.1, fun i t q' x y => (But.eq k5) _ _ (ne4.2 t (List.mem_of_getElem? x)) (hSp.sp.2 i t q' x y)⟩
    -- Net(length, many, list(spans))
    refine ⟨_, rfl, _, rfl, _, rfl, a, _, rfl, .inl (SqL.of hA), fun a2 na2 => ?_⟩
    intro x dx nx ndx nex
    have sA : Same H5 (upd H5 a2 (.lst (ts.map V.ref))) := same_upd na2
    have sB : Same (upd H5 a2 (.lst (ts.map V.ref))) (upd (upd (upd H5 a2 (.lst (ts.map V.ref))) dx (.own x)) x (.ins T.C_Net dx [])) := fun b o e => by
      rw [upd_ne (ne_of_none e nx), upd_ne (ne_of_none e ndx)]
      exact e
    have mat : Mat K (upd (upd (upd H5 a2 (.lst (ts.map V.ref))) dx (.own x)) x (.ins T.C_Net dx [])) R n a2 ts ss :=
      ⟨hR2, hR60, by omega, by omega, sB _ _ upd_same, hsp.same (sA.trans sB), hok, hfew⟩
    refine ⟨x, dx, R, n, a2, ts, ss, rfl, upd_same, mat, fun H6 t1 t10 hN1 ht1 k6 => ⟨rfl, ?_⟩⟩
    have s56 : Same H5 H6 := fun b o e => k6 b o (ne_of_none (sA _ _ e) nx) (sB _ _ (sA _ _ e))
    -- Net(length, many, spans[:count])
    refine ⟨_, rfl, _, rfl, _, rfl, _, rfl, _, rfl, a, _, rfl, SqL.of (s56 _ _ hA), fun a3 na3 => ?_⟩
    have ect : cutV (ts.map V.ref) none (some ((c : Nat) : Int)) = (ts.take c).map V.ref := by
      rw [cut_to _ _ (by rw [List.length_map, hsp.1]; omega), List.map_take]
    rw [ect]
    intro x2 dx2 nx2 ndx2 nex2
    have sC : Same H6 (upd H6 a3 (.lst ((ts.take c).map V.ref))) := same_upd na3
    have sD : Same (upd H6 a3 (.lst ((ts.take c).map V.ref))) (upd (upd (upd H6 a3 (.lst ((ts.take c).map V.ref))) dx2 (.own x2)) x2 (.ins T.C_Net dx2 [])) := fun b o e => by
      rw [upd_ne (ne_of_none e nx2), upd_ne (ne_of_none e ndx2)]
      exact e
    have ok2 : ∀ q', q' ∈ ss.take c → Ok4 R n q' := fun q' h => hok q' (List.mem_of_mem_take h)
    have mat2 : Mat K (upd (upd (upd H6 a3 (.lst ((ts.take c).map V.ref))) dx2 (.own x2)) x2 (.ins T.C_Net dx2 [])) R n a3 (ts.take c) (ss.take c) :=
      ⟨hR2, hR60, by omega, by omega, sD _ _ upd_same, (hsp.take c).same ((s56.trans sC).trans sD), ok2, by rw [List.length_take]; omega⟩
    refine ⟨x2, dx2, R, n, a3, ts.take c, ss.take c, rfl, upd_same, mat2, fun H7 t2 t20 hN2 ht2 k7 => ⟨rfl, ?_⟩⟩
    have s67 : Same H6 H7 := fun b o e => k7 b o (ne_of_none (sC _ _ e) nx2) (sD _ _ (sC _ _ e))
    have s57 := s56.trans s67
    obtain ⟨dd1, hN1⟩ := hN1
    -- due = joined(many, spans)
    refine ⟨_, rfl, _, rfl, n, a, ts, ss, rfl, hn, s57 _ _ hA, hsp.same s57, ev, fun H8 due bs s8 hD => ?_⟩
    have s68 := s67.trans s8
    have s58 := s57.trans s8
    -- pieces_good(net, due)
    refine ⟨_, rfl, _, rfl, x, t1, due, R, n, ts, bs, ss, rfl, ⟨dd1, s68 _ _ hN1⟩, s68 _ _ ht1, hsp.same s58, ev, hn, hD, fun H9 s9 => ⟨_, rfl, iteF ?_⟩⟩
    -- pieces_good(other, joined(many, spans[:count]))
    have s59 := s58.trans s9
    refine ⟨_, rfl, _, rfl, _, rfl, _, rfl, _, rfl, a, _, rfl, SqL.of (s59 _ _ hA), fun a4 na4 => ?_⟩
    rw [ect]
    have sE : Same H9 (upd H9 a4 (.lst ((ts.take c).map V.ref))) := same_upd na4
    refine ⟨n, a4, ts.take c, ss.take c, rfl, hn, upd_same, (hsp.take c).same (s59.trans sE), Evs.of ok2, fun H10 due2 bs2 s10 hD2 => ?_⟩
    have s79 := s8.trans s9
    have s710 := (s79.trans sE).trans s10
    have s510 := s57.trans s710
    refine ⟨x2, t2, due2, R, n, ts.take c, bs2, ss.take c, rfl, hN2.imp fun _ z => s710 _ _ z, s710 _ _ ht2, (hsp.take c).same s510, Evs.of ok2, hn, hD2, fun H11 s11 => ⟨_, rfl, iteF ?_⟩⟩
    -- same(net.pieces(), due) and same(net.spans, tuple(spans))
    have s811 : Same H8 H11 := ((s9.trans sE).trans s10).trans s11
    have s611 := s68.trans s811
    have s511 := s58.trans s811
    have noP : (nf R n t1).lookup ("pieces" : Str) = none := nf_no _ _ _ (by decide +kernel) (by decide +kernel) (by decide +kernel)
    refine ⟨_, rfl, x, dd1, _, rfl, s611 _ _ hN1, noP, x, t1, R, n, ts, ss, rfl, ⟨dd1, s611 _ _ hN1⟩, s611 _ _ ht1, hsp.same s511, ev, hn, fun H12 d as s12 d0 hR => ?_⟩
    refine ⟨_, rfl, _, _, rfl, rp_rows hR.d (hD.same (s811.trans s12)) (Nat.le_trans rows_len (by omega)) (fun l h => Nat.le_trans (row_len h) (by omega)), _, rfl, iteT ?_⟩
    have s512 := s511.trans s12
    refine ⟨_, rfl, x, T.C_Net, dd1, _, _, rfl, (s611.trans s12) _ _ hN1, T.cl_Net, T.na_Net_spans, nf_spans _ _ _, ?_⟩
    refine ⟨_, rfl, a, _, rfl, .inl ⟨SqL.of (s512 _ _ hA), fun t3 nt3 => ?_⟩⟩
    have sF : Same H12 (upd H12 t3 (.tup (ts.map V.ref))) := same_upd nt3
    exact ⟨_, _, rfl, rp_spans ((s611.trans s12).trans sF _ _ ht1) upd_same (hsp.same (s512.trans sF)) (by omega), q _⟩
end
end DD

namespace DD
open PySem L2
theorem all_mk {l : PySem.W.OpenLaw} {w : World} {K : PySem.W.Frag} {h : Heap} {mg : Str → Option Value} {fa : Addr} (X : K.In h) (G : h.Ns mainGlobals mg) (hfa : mg "law" = some (.ref fa)) {f0 f1 f2 f3 f4 f5 f6 f7 f8 f9 f10 f11 f12 f13 f14 f15 f16 CNet : Addr} {od0 an0 od1 an1 od2 an2 od3 an3 od4 an4 od5 an5 od6 an6 od7 an7 od8 an8 od9 an9 od10 an10 od11 an11 od12 an12 od13 an13 od14 an14 od15 an15 od16 an16 : Option Addr} {sl0 sl1 sl2 sl3 sl4 sl5 sl6 sl7 sl8 sl9 sl10 sl11 sl12 sl13 sl14 sl15 sl16 : Array (Option Value)} {oc0 kV0 dc0 pm0 cd0 ct0 oc1 kV1 dc1 pm1 cd1 ct1 oc2 kV2 dc2 pm2 cd2 ct2 oc3 kV3 dc3 pm3 cd3 ct3 oc4 kV4 dc4 pm4 cd4 ct4 oc5 kV5 dc5 pm5 cd5 ct5 oc6 kV6 dc6 pm6 cd6 ct6 oc7 kV7 dc7 pm7 cd7 ct7 oc8 kV8 dc8 pm8 cd8 ct8 oc9 kV9 dc9 pm9 cd9 ct9 oc10 kV10 dc10 pm10 cd10 ct10 oc11 kV11 dc11 pm11 cd11 ct11 oc12 kV12 dc12 pm12 cd12 ct12 oc13 kV13 dc13 pm13 cd13 ct13 oc14 kV14 dc14 pm14 cd14 ct14 oc15 kV15 dc15 pm15 cd15 ct15 oc16 kV16 dc16 pm16 cd16 ct16 : Value} {u_LEAST_ROUND u_MOST_ROUND u_MOST_EVENTS u_MOST_SPANS u_MOST_ON_SPAN : Tok}
    (k_LEAST_ROUND : PySem.W.nsIn K mainGlobals "LEAST_ROUND" = some (some (.int 2 u_LEAST_ROUND)))
    (k_MOST_ROUND : PySem.W.nsIn K mainGlobals "MOST_ROUND" = some (some (.int 60 u_MOST_ROUND)))
    (k_MOST_EVENTS : PySem.W.nsIn K mainGlobals "MOST_EVENTS" = some (some (.int 12 u_MOST_EVENTS)))
    (k_MOST_SPANS : PySem.W.nsIn K mainGlobals "MOST_SPANS" = some (some (.int 24 u_MOST_SPANS)))
    (k_MOST_ON_SPAN : PySem.W.nsIn K mainGlobals "MOST_ON_SPAN" = some (some (.int 999 u_MOST_ON_SPAN)))
    (z_len : PySem.W.nsIn K mainGlobals "len" = some none)
    (z_min : PySem.W.nsIn K mainGlobals "min" = some none)
    (z_enumerate : PySem.W.nsIn K mainGlobals "enumerate" = some none)
    (z_tuple : PySem.W.nsIn K mainGlobals "tuple" = some none)
    (z_list : PySem.W.nsIn K mainGlobals "list" = some none)
    (z_range : PySem.W.nsIn K mainGlobals "range" = some none)
    (z_sorted : PySem.W.nsIn K mainGlobals "sorted" = some none)
    (z_set : PySem.W.nsIn K mainGlobals "set" = some none)
    (z_abs : PySem.W.nsIn K mainGlobals "abs" = some none)
    (z_int : PySem.W.nsIn K mainGlobals "int" = some none)
    (z_bool : PySem.W.nsIn K mainGlobals "bool" = some none)
    (z_str : PySem.W.nsIn K mainGlobals "str" = some none)
    (z_isinstance : PySem.W.nsIn K mainGlobals "isinstance" = some none)
    (a_Net : PySem.W.nsIn K mainGlobals "Net" = some (some (.ref CNet)))
    (pg_Net : PySem.W.plainGet K CNet Str.empty = true)
    (hd_Net : PySem.W.hasDictIn K CNet = true)
    (po_Net : PySem.W.plainOver K CNet = true)
    (sa_Net : PySem.W.findIn K (.ref CNet) "__setattr__" = some (some (.builtin "object.__setattr__")))
    (mk_Net : PySem.W.makesIn K CNet = true)
    (kc_Net : PySem.W.keepIn K (.ref CNet) = true)
    (na_Net_round_length : PySem.W.findIn K (.ref CNet) "round_length" = some none)
    (na_Net_events : PySem.W.findIn K (.ref CNet) "events" = some none)
    (na_Net_spans : PySem.W.findIn K (.ref CNet) "spans" = some none)
    (a0 : PySem.W.nsIn K mainGlobals "is_span" = some (some (.ref f0)))
    (l0 : K.lookup f0 = some ⟨oc0, od0, .func (PySem.W.fnOf "is_span" "is_span" (defArgs sSpan) (defBody sSpan) (defScope sSpan) .none kV0 dc0 pm0 an0 cd0 ct0), sl0⟩)
    (c0 : PySem.W.codeIn K cd0 "is_span" = true)
    (k0 : PySem.W.keepIn K (.ref f0) = true)
    (a1 : PySem.W.nsIn K mainGlobals "check_net" = some (some (.ref f1)))
    (l1 : K.lookup f1 = some ⟨oc1, od1, .func (PySem.W.fnOf "check_net" "check_net" (defArgs sChk) (defBody sChk) (defScope sChk) .none kV1 dc1 pm1 an1 cd1 ct1), sl1⟩)
    (c1 : PySem.W.codeIn K cd1 "check_net" = true)
    (k1 : PySem.W.keepIn K (.ref f1) = true)
    (a2 : PySem.W.findIn K (.ref CNet) "__init__" = some (some (.ref f2)))
    (i2 : PySem.W.isFn K (.ref f2) = true)
    (l2 : K.lookup f2 = some ⟨oc2, od2, .func (PySem.W.fnOf "__init__" "Net.__init__" (defArgs sInit) (defBody sInit) (defScope sInit) .none kV2 dc2 pm2 an2 cd2 ct2), sl2⟩)
    (c2 : PySem.W.codeIn K cd2 "Net.__init__" = true)
    (k2 : PySem.W.keepIn K (.ref f2) = true)
    (a3 : PySem.W.findIn K (.ref CNet) "pieces" = some (some (.ref f3)))
    (i3 : PySem.W.isFn K (.ref f3) = true)
    (l3 : K.lookup f3 = some ⟨oc3, od3, .func (PySem.W.fnOf "pieces" "Net.pieces" (defArgs sPie) (defBody sPie) (defScope sPie) .none kV3 dc3 pm3 an3 cd3 ct3), sl3⟩)
    (c3 : PySem.W.codeIn K cd3 "Net.pieces" = true)
    (k3 : PySem.W.keepIn K (.ref f3) = true)
    (a4 : PySem.W.nsIn K mainGlobals "_law_cell" = some (some (.ref f4)))
    (l4 : K.lookup f4 = some ⟨oc4, od4, .func (PySem.W.fnOf "_law_cell" "_law_cell" (defArgs sCell) (defBody sCell) (defScope sCell) .none kV4 dc4 pm4 an4 cd4 ct4), sl4⟩)
    (c4 : PySem.W.codeIn K cd4 "_law_cell" = true)
    (k4 : PySem.W.keepIn K (.ref f4) = true)
    (a5 : PySem.W.nsIn K mainGlobals "_law_pool" = some (some (.ref f5)))
    (l5 : K.lookup f5 = some ⟨oc5, od5, .func (PySem.W.fnOf "_law_pool" "_law_pool" (defArgs sPool) (defBody sPool) (defScope sPool) .none kV5 dc5 pm5 an5 cd5 ct5), sl5⟩)
    (c5 : PySem.W.codeIn K cd5 "_law_pool" = true)
    (k5 : PySem.W.keepIn K (.ref f5) = true)
    (a6 : PySem.W.nsIn K mainGlobals "_law_take" = some (some (.ref f6)))
    (l6 : K.lookup f6 = some ⟨oc6, od6, .func (PySem.W.fnOf "_law_take" "_law_take" (defArgs sTake) (defBody sTake) (defScope sTake) .none kV6 dc6 pm6 an6 cd6 ct6), sl6⟩)
    (c6 : PySem.W.codeIn K cd6 "_law_take" = true)
    (k6 : PySem.W.keepIn K (.ref f6) = true)
    (a7 : PySem.W.nsIn K mainGlobals "_law_same" = some (some (.ref f7)))
    (l7 : K.lookup f7 = some ⟨oc7, od7, .func (PySem.W.fnOf "_law_same" "_law_same" (defArgs sSame) (defBody sSame) (defScope sSame) .none kV7 dc7 pm7 an7 cd7 ct7), sl7⟩)
    (c7 : PySem.W.codeIn K cd7 "_law_same" = true)
    (k7 : PySem.W.keepIn K (.ref f7) = true)
    (a8 : PySem.W.nsIn K mainGlobals "_law_length" = some (some (.ref f8)))
    (l8 : K.lookup f8 = some ⟨oc8, od8, .func (PySem.W.fnOf "_law_length" "_law_length" (defArgs sLen) (defBody sLen) (defScope sLen) .none kV8 dc8 pm8 an8 cd8 ct8), sl8⟩)
    (c8 : PySem.W.codeIn K cd8 "_law_length" = true)
    (k8 : PySem.W.keepIn K (.ref f8) = true)
    (a9 : PySem.W.nsIn K mainGlobals "_law_perm" = some (some (.ref f9)))
    (l9 : K.lookup f9 = some ⟨oc9, od9, .func (PySem.W.fnOf "_law_perm" "_law_perm" (defArgs sPerm) (defBody sPerm) (defScope sPerm) .none kV9 dc9 pm9 an9 cd9 ct9), sl9⟩)
    (c9 : PySem.W.codeIn K cd9 "_law_perm" = true)
    (k9 : PySem.W.keepIn K (.ref f9) = true)
    (a10 : PySem.W.nsIn K mainGlobals "_law_span" = some (some (.ref f10)))
    (l10 : K.lookup f10 = some ⟨oc10, od10, .func (PySem.W.fnOf "_law_span" "_law_span" (defArgs sSpn) (defBody sSpn) (defScope sSpn) .none kV10 dc10 pm10 an10 cd10 ct10), sl10⟩)
    (c10 : PySem.W.codeIn K cd10 "_law_span" = true)
    (k10 : PySem.W.keepIn K (.ref f10) = true)
    (a11 : PySem.W.nsIn K mainGlobals "_law_any_spans" = some (some (.ref f11)))
    (l11 : K.lookup f11 = some ⟨oc11, od11, .func (PySem.W.fnOf "_law_any_spans" "_law_any_spans" (defArgs sAny) (defBody sAny) (defScope sAny) .none kV11 dc11 pm11 an11 cd11 ct11), sl11⟩)
    (c11 : PySem.W.codeIn K cd11 "_law_any_spans" = true)
    (k11 : PySem.W.keepIn K (.ref f11) = true)
    (a12 : PySem.W.nsIn K mainGlobals "_law_chained" = some (some (.ref f12)))
    (l12 : K.lookup f12 = some ⟨oc12, od12, .func (PySem.W.fnOf "_law_chained" "_law_chained" (defArgs sChd) (defBody sChd) (defScope sChd) .none kV12 dc12 pm12 an12 cd12 ct12), sl12⟩)
    (c12 : PySem.W.codeIn K cd12 "_law_chained" = true)
    (k12 : PySem.W.keepIn K (.ref f12) = true)
    (a13 : PySem.W.nsIn K mainGlobals "_law_spans_of" = some (some (.ref f13)))
    (l13 : K.lookup f13 = some ⟨oc13, od13, .func (PySem.W.fnOf "_law_spans_of" "_law_spans_of" (defArgs sSpo) (defBody sSpo) (defScope sSpo) .none kV13 dc13 pm13 an13 cd13 ct13), sl13⟩)
    (c13 : PySem.W.codeIn K cd13 "_law_spans_of" = true)
    (k13 : PySem.W.keepIn K (.ref f13) = true)
    (a14 : PySem.W.nsIn K mainGlobals "_law_joined" = some (some (.ref f14)))
    (l14 : K.lookup f14 = some ⟨oc14, od14, .func (PySem.W.fnOf "_law_joined" "_law_joined" (defArgs sJnd) (defBody sJnd) (defScope sJnd) .none kV14 dc14 pm14 an14 cd14 ct14), sl14⟩)
    (c14 : PySem.W.codeIn K cd14 "_law_joined" = true)
    (k14 : PySem.W.keepIn K (.ref f14) = true)
    (a15 : PySem.W.nsIn K mainGlobals "_law_pieces_good" = some (some (.ref f15)))
    (l15 : K.lookup f15 = some ⟨oc15, od15, .func (PySem.W.fnOf "_law_pieces_good" "_law_pieces_good" (defArgs sPgd) (defBody sPgd) (defScope sPgd) .none kV15 dc15 pm15 an15 cd15 ct15), sl15⟩)
    (c15 : PySem.W.codeIn K cd15 "_law_pieces_good" = true)
    (k15 : PySem.W.keepIn K (.ref f15) = true)
    (a16 : PySem.W.nsIn K mainGlobals "law" = some (some (.ref f16)))
    (l16 : K.lookup f16 = some ⟨oc16, od16, .func (PySem.W.fnOf "law" "law" (defArgs sLaw) (defBody sLaw) (defScope sLaw) .none kV16 dc16 pm16 an16 cd16 ct16), sl16⟩)
    (c16 : PySem.W.codeIn K cd16 "law" = true)
    (k16 : PySem.W.keepIn K (.ref f16) = true) :
    ∃ fd : FuncData, (∀ (s : Shared) (v : Value), BindsTo s fd ⟨[v], []⟩ [("_law_script", v)]) ∧ ∀ base : Heap, K.In base → base.Ns mainGlobals mg → FnOk l.prog w K mg base CX0 5 fa fd ["_law_script"] (spLaw K) := by
  have e := hfa.symm.trans (PySem.W.mg_of X G a16)
  cases e
  have F0 := fun_mk (st := sSpan) l0 c0 k0
  have b0 := F0.binds (ps := ["span", "round_length", "events"]) fun _ _ _ _ _ _ us hl => match us, hl with | [_, _, _], _ => rfl
  have F1 := fun_mk (st := sChk) l1 c1 k1
  have b1 := F1.binds (ps := ["round_length", "events", "spans"]) fun _ _ _ _ _ _ us hl => match us, hl with | [_, _, _], _ => rfl
  have F2 := fun_mk (st := sInit) l2 c2 k2
  have b2 := F2.binds (ps := ["self", "round_length", "events", "spans"]) fun _ _ _ _ _ _ us hl => match us, hl with | [_, _, _, _], _ => rfl
  have F3 := fun_mk (st := sPie) l3 c3 k3
  have b3 := F3.binds (ps := ["self"]) fun _ _ _ _ _ _ us hl => match us, hl with | [_], _ => rfl
  have F4 := fun_mk (st := sCell) l4 c4 k4
  have b4 := F4.binds (ps := ["_law_script", "_law_k"]) fun _ _ _ _ _ _ us hl => match us, hl with | [_, _], _ => rfl
  have F5 := fun_mk (st := sPool) l5 c5 k5
  have b5 := F5.binds (ps := ["_law_script", "_law_k"]) fun _ _ _ _ _ _ us hl => match us, hl with | [_, _], _ => rfl
  have F6 := fun_mk (st := sTake) l6 c6 k6
  have b6 := F6.binds (ps := ["_law_pool_here", "_law_many"]) fun _ _ _ _ _ _ us hl => match us, hl with | [_, _], _ => rfl
  have F7 := fun_mk (st := sSame) l7 c7 k7
  have b7 := F7.binds (ps := ["_law_got", "_law_due"]) fun _ _ _ _ _ _ us hl => match us, hl with | [_, _], _ => rfl
  have F8 := fun_mk (st := sLen) l8 c8 k8
  have b8 := F8.binds (ps := ["_law_pool_here"]) fun _ _ _ _ _ _ us hl => match us, hl with | [_], _ => rfl
  have F9 := fun_mk (st := sPerm) l9 c9 k9
  have b9 := F9.binds (ps := ["_law_pool_here", "_law_many"]) fun _ _ _ _ _ _ us hl => match us, hl with | [_, _], _ => rfl
  have F10 := fun_mk (st := sSpn) l10 c10 k10
  have b10 := F10.binds (ps := ["_law_pool_here", "_law_length_here", "_law_start", "_law_end"]) fun _ _ _ _ _ _ us hl => match us, hl with | [_, _, _, _], _ => rfl
  have F11 := fun_mk (st := sAny) l11 c11 k11
  have b11 := F11.binds (ps := ["_law_pool_here", "_law_length_here", "_law_many", "_law_count"]) fun _ _ _ _ _ _ us hl => match us, hl with | [_, _, _, _], _ => rfl
  have F12 := fun_mk (st := sChd) l12 c12 k12
  have b12 := F12.binds (ps := ["_law_pool_here", "_law_length_here", "_law_many"]) fun _ _ _ _ _ _ us hl => match us, hl with | [_, _, _], _ => rfl
  have F13 := fun_mk (st := sSpo) l13 c13 k13
  have b13 := F13.binds (ps := ["_law_pool_here", "_law_length_here", "_law_many"]) fun _ _ _ _ _ _ us hl => match us, hl with | [_, _, _], _ => rfl
  have F14 := fun_mk (st := sJnd) l14 c14 k14
  have b14 := F14.binds (ps := ["_law_many", "_law_spans"]) fun _ _ _ _ _ _ us hl => match us, hl with | [_, _], _ => rfl
  have F15 := fun_mk (st := sPgd) l15 c15 k15
  have b15 := F15.binds (ps := ["_law_net", "_law_due"]) fun _ _ _ _ _ _ us hl => match us, hl with | [_, _], _ => rfl
  have F16 := fun_mk (st := sLaw) l16 c16 k16
  have b16 := F16.binds (ps := ["_law_script"]) fun _ _ _ _ _ _ us hl => match us, hl with | [_], _ => rfl
  let T : Tx K mg := { t_LEAST_ROUND := _, c_LEAST_ROUND := PySem.W.mg_of X G k_LEAST_ROUND, t_MOST_ROUND := _, c_MOST_ROUND := PySem.W.mg_of X G k_MOST_ROUND, t_MOST_EVENTS := _, c_MOST_EVENTS := PySem.W.mg_of X G k_MOST_EVENTS, t_MOST_SPANS := _, c_MOST_SPANS := PySem.W.mg_of X G k_MOST_SPANS, t_MOST_ON_SPAN := _, c_MOST_ON_SPAN := PySem.W.mg_of X G k_MOST_ON_SPAN, z_len := PySem.W.mg_none_of X G z_len, z_min := PySem.W.mg_none_of X G z_min, z_enumerate := PySem.W.mg_none_of X G z_enumerate, z_tuple := PySem.W.mg_none_of X G z_tuple, z_list := PySem.W.mg_none_of X G z_list, z_range := PySem.W.mg_none_of X G z_range, z_sorted := PySem.W.mg_none_of X G z_sorted, z_set := PySem.W.mg_none_of X G z_set, z_abs := PySem.W.mg_none_of X G z_abs, z_int := PySem.W.mg_none_of X G z_int, z_bool := PySem.W.mg_none_of X G z_bool, z_str := PySem.W.mg_none_of X G z_str, z_isinstance := PySem.W.mg_none_of X G z_isinstance, C_Net := CNet, g_Net := PySem.W.mg_of X G a_Net, cl_Net := ⟨pg_Net, hd_Net, po_Net, sa_Net⟩, na_Net_round_length := na_Net_round_length, na_Net_events := na_Net_events, na_Net_spans := na_Net_spans, fis_span := f0, dis_span := _, Fis_span := F0, bis_span := b0, gis_span := PySem.W.mg_of X G a0, fcheck_net := f1, dcheck_net := _, Fcheck_net := F1, bcheck_net := b1, gcheck_net := PySem.W.mg_of X G a1, fNet_init := f2, dNet_init := _, FNet_init := F2, bNet_init := b2, M_Net := ⟨mk_Net, a2, i2, kc_Net⟩, fNet_pieces := f3, dNet_pieces := _, FNet_pieces := F3, bNet_pieces := b3, m_Net_pieces := ⟨a3, i3, k3⟩, f_law_cell := f4, d_law_cell := _, F_law_cell := F4, b_law_cell := b4, g_law_cell := PySem.W.mg_of X G a4, f_law_pool := f5, d_law_pool := _, F_law_pool := F5, b_law_pool := b5, g_law_pool := PySem.W.mg_of X G a5, f_law_take := f6, d_law_take := _, F_law_take := F6, b_law_take := b6, g_law_take := PySem.W.mg_of X G a6, f_law_same := f7, d_law_same := _, F_law_same := F7, b_law_same := b7, g_law_same := PySem.W.mg_of X G a7, f_law_length := f8, d_law_length := _, F_law_length := F8, b_law_length := b8, g_law_length := PySem.W.mg_of X G a8, f_law_perm := f9, d_law_perm := _, F_law_perm := F9, b_law_perm := b9, g_law_perm := PySem.W.mg_of X G a9, f_law_span := f10, d_law_span := _, F_law_span := F10, b_law_span := b10, g_law_span := PySem.W.mg_of X G a10, f_law_any_spans := f11, d_law_any_spans := _, F_law_any_spans := F11, b_law_any_spans := b11, g_law_any_spans := PySem.W.mg_of X G a11, f_law_chained := f12, d_law_chained := _, F_law_chained := F12, b_law_chained := b12, g_law_chained := PySem.W.mg_of X G a12, f_law_spans_of := f13, d_law_spans_of := _, F_law_spans_of := F13, b_law_spans_of := b13, g_law_spans_of := PySem.W.mg_of X G a13, f_law_joined := f14, d_law_joined := _, F_law_joined := F14, b_law_joined := b14, g_law_joined := PySem.W.mg_of X G a14, f_law_pieces_good := f15, d_law_pieces_good := _, F_law_pieces_good := F15, b_law_pieces_good := b15, g_law_pieces_good := PySem.W.mg_of X G a15, flaw := fa, dlaw := _, Flaw := F16, blaw := b16, glaw := PySem.W.mg_of X G a16 }
  exact ⟨_, fun s v => .of_eq rfl, fun base _ _ => ok_law T⟩
end DD
open PySem PySem.W PyProof.Rows
set_option maxRecDepth 100000 in
set_option maxHeartbeats 0 in
theorem PySem.Challenge.cw_depotday_k13_pieces_of_a_net_holds : PySem.Challenge.rw_depotday_k13_pieces_of_a_net.Holds := by
  w_on; o_law; k_head; (case hw => w_witness2)
  k_fill
  refine L2.walk_of (l := PySem.Challenge.rw_depotday_k13_pieces_of_a_net) (n := 63) (k := 5) (x := "_law_script") (CX := fun _ => L2.CX0) (sp := fun w => DD.spLaw _) rfl (by decide) rfl ⟨rfl, by decide, by decide⟩ (fun w h Y => PySem.W.kIn_of Y) ?F (fun _ _ a ns hl _ hS => ⟨a, ns, rfl, hS, hl, fun _ => rfl⟩) (fun _ _ _ _ _ h => h)
  case F =>
    intro w mg fa h KX G hmg
    refine' DD.all_mk KX G hmg ?k_LEAST_ROUND ?k_MOST_ROUND ?k_MOST_EVENTS ?k_MOST_SPANS ?k_MOST_ON_SPAN ?z_len ?z_min ?z_enumerate ?z_tuple ?z_list ?z_range ?z_sorted ?z_set ?z_abs ?z_int ?z_bool ?z_str ?z_isinstance ?a_Net ?pg_Net ?hd_Net ?po_Net ?sa_Net ?mk_Net ?kc_Net ?na_Net_round_length ?na_Net_events ?na_Net_spans ?a0 ?l0 ?c0 ?k0 ?a1 ?l1 ?c1 ?k1 ?a2 ?i2 ?l2 ?c2 ?k2 ?a3 ?i3 ?l3 ?c3 ?k3 ?a4 ?l4 ?c4 ?k4 ?a5 ?l5 ?c5 ?k5 ?a6 ?l6 ?c6 ?k6 ?a7 ?l7 ?c7 ?k7 ?a8 ?l8 ?c8 ?k8 ?a9 ?l9 ?c9 ?k9 ?a10 ?l10 ?c10 ?k10 ?a11 ?l11 ?c11 ?k11 ?a12 ?l12 ?c12 ?k12 ?a13 ?l13 ?c13 ?k13 ?a14 ?l14 ?c14 ?k14 ?a15 ?l15 ?c15 ?k15 ?a16 ?l16 ?c16 ?k16
    (case k_LEAST_ROUND => k_is)
    (case k_MOST_ROUND => k_is)
    (case k_MOST_EVENTS => k_is)
    (case k_MOST_SPANS => k_is)
    (case k_MOST_ON_SPAN => k_is)
    (case z_len => k_is)
    (case z_min => k_is)
    (case z_enumerate => k_is)
    (case z_tuple => k_is)
    (case z_list => k_is)
    (case z_range => k_is)
    (case z_sorted => k_is)
    (case z_set => k_is)
    (case z_abs => k_is)
    (case z_int => k_is)
    (case z_bool => k_is)
    (case z_str => k_is)
    (case z_isinstance => k_is)
    (case a_Net => k_is)
    (case pg_Net => k_is)
    (case hd_Net => k_is)
    (case po_Net => k_is)
    (case sa_Net => k_is)
    (case mk_Net => k_is)
    (case kc_Net => k_is)
    (case na_Net_round_length => k_is)
    (case na_Net_events => k_is)
    (case na_Net_spans => k_is)
    (case a0 => k_is)
    (case l0 => k_is)
    (case c0 => k_is)
    (case k0 => k_is)
    (case a1 => k_is)
    (case l1 => k_is)
    (case c1 => k_is)
    (case k1 => k_is)
    (case a2 => k_is)
    (case i2 => k_is)
    (case l2 => k_is)
    (case c2 => k_is)
    (case k2 => k_is)
    (case a3 => k_is)
    (case i3 => k_is)
    (case l3 => k_is)
    (case c3 => k_is)
    (case k3 => k_is)
    (case a4 => k_is)
    (case l4 => k_is)
    (case c4 => k_is)
    (case k4 => k_is)
    (case a5 => k_is)
    (case l5 => k_is)
    (case c5 => k_is)
    (case k5 => k_is)
    (case a6 => k_is)
    (case l6 => k_is)
    (case c6 => k_is)
    (case k6 => k_is)
    (case a7 => k_is)
    (case l7 => k_is)
    (case c7 => k_is)
    (case k7 => k_is)
    (case a8 => k_is)
    (case l8 => k_is)
    (case c8 => k_is)
    (case k8 => k_is)
    (case a9 => k_is)
    (case l9 => k_is)
    (case c9 => k_is)
    (case k9 => k_is)
    (case a10 => k_is)
    (case l10 => k_is)
    (case c10 => k_is)
    (case k10 => k_is)
    (case a11 => k_is)
    (case l11 => k_is)
    (case c11 => k_is)
    (case k11 => k_is)
    (case a12 => k_is)
    (case l12 => k_is)
    (case c12 => k_is)
    (case k12 => k_is)
    (case a13 => k_is)
    (case l13 => k_is)
    (case c13 => k_is)
    (case k13 => k_is)
    (case a14 => k_is)
    (case l14 => k_is)
    (case c14 => k_is)
    (case k14 => k_is)
    (case a15 => k_is)
    (case l15 => k_is)
    (case c15 => k_is)
    (case k15 => k_is)
    (case a16 => k_is)
    (case l16 => k_is)
    (case c16 => k_is)
    (case k16 => k_is)
#print axioms PySem.Challenge.cw_depotday_k13_pieces_of_a_net_holds
