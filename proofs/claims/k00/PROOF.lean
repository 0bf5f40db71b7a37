import PyProof.Rows.All
import Wide.All
import OpenK.AllK
import Wide.FinOn
import HandS.ForMost
import HandS.ForExc
import HandS.IsInst
import HandS.Conv
import HandS.NoneIn
import HandS.OwnEq
import HandS.OwnIter
import HandS.ExcIs
import HandS.More
import KE.KOpsOwn
import HandS.IterNext
import HandS.ExcOwn
import PyProof.WalksMore
import PySem.Challenge.RW_depotday_k00_load_counts
set_option Elab.async false
set_option linter.all false
set_option maxRecDepth 100000
set_option maxHeartbeats 8000000
namespace KO
open PySem PySem.Spec PyProof.Rows L2
/-! ### operators that the text's own classes define -/
section
variable {X : Cx} {CX : CXT} {k : Nat} {f C : Addr} {fd : FuncData} {ps : List Str} {sp : Sp} {E : L2.St → XK}
/-- a method runs, called with values, somewhere with room -/
theorem own_run {A : Around} {pins : List (Addr × Obj)} {σ : L2.St} {H : Hp} {s : Shared} {Q : VK} {us : List Value} {vs : List V} (F : FnOk X.prog X.w X.K X.mg X.base CX k f fd ps sp) (hr : Room k A) (fr : A.frames = X.A.frames) (hb : Binds X.K fd ps [])
    (hx : PassesAt CX X σ (E σ)) (I : Inv X pins σ H s) (r : Vals vs us) (h : sp vs H Q (E σ)) : wpAny (model X.prog X.w) A (call (.ref f) us) (EP X pins σ Q) X.xe s := by
  have hl : us.length = ps.length := r.length.symm.trans (F.len _ _ _ _ h)
  have b := hb s us I.kIn (by rw [List.append_nil]; exact hl)
  rw [List.append_nil] at b
  have e := I.env0
  have e2 : Env0 X.prog X.w X.K X.mg X.base A X.stack s H := ⟨by rw [fr]; exact e.frames, e.mod, e.bs, e.bsz, e.funs, e.frf, e.hok, e.bare⟩
  refine wpAny_call (codeAny_mono (F.run A X.stack s H ⟨us, []⟩ us vs Q (E σ) hr e2 b r h) fun r s' hq => ?_)
  cases r with
  | error e => exact hx pins H s e s' I hq
  | ok fl =>
    cases fl with
    | ret u => exact I.after hq
    | next => exact hq.elim
    | brk => exact hq.elim
    | cont => exact hq.elim
theorem inst_at {pins : List (Addr × Obj)} {σ : L2.St} {H : Hp} {s : Shared} {a dx : Addr} {fs : List (Str × V)} (I : Inv X pins σ H s) (ha : H a = some (.ins C dx fs)) : ∃ ox od, PySem.W.InstAt s.heap a ox C od := by
  obtain ⟨mA, J, _⟩ := ins_get I.hok ha
  obtain ⟨od, J, _⟩ := J.look
  exact ⟨_, _, J⟩
theorem vref {a : Addr} : RelV (.ref a) (Value.ref a) := rfl
/-- len(o) -/
def rLen (C : Addr) (sp : Sp) (E : XK) : List V → Hp → VK → Prop := fun xs H Q => ∃ a dx fs, xs = [.ref a] ∧ H a = some (.ins C dx fs) ∧ sp [.ref a] H (fun v H' => ∃ n : Int, v = .int n ∧ 0 ≤ n ∧ n < 2 ^ 63 ∧ Q (.int n) H') E
theorem len_own {E : XK} (m : Meth X.K C "__len__" f) (F : FnOk X.prog X.w X.K X.mg X.base CX k f fd ps sp) (hr : Room (k + 1) X.A) (hb : Binds X.K fd ps []) (hx : ∀ σ, PassesAt CX X σ E) : CallR X (.builtin "len") (rLen C sp E) := by
  intro pins s σ H xs us Q I r h
  obtain ⟨a, dx, fs, rfl, ha, q⟩ := h
  rw [Vals.ref1 r]
  obtain ⟨ox, od, J⟩ := inst_at I ha
  obtain ⟨m', hF⟩ := I.fr
  refine PySem.W.len_K hF I.ok.mod.kin J m.at_ m.fn (wpAny_mono (own_run (E := fun _ => E) (A := X.A.in1) F hr.in1 rfl hb (hx σ) I (.cons vref .nil) q) (fun u s' hu => ?_) fun _ _ x => x)
  obtain ⟨v, H', I', rv, n, rfl, n0, n1, q'⟩ := hu
  obtain ⟨t, rfl⟩ := rv
  exact ⟨⟨n0, n1⟩, .int n, H', I'.tok _, ⟨_, rfl⟩, q'⟩
/-- x in o -/
def rInO (C : Addr) (sp : Sp) (E : XK) : R2 := fun x y H Q => ∃ a dx fs, y = .ref a ∧ H a = some (.ins C dx fs) ∧ sp [.ref a, x] H (fun v H' => ∃ b, v = .bl b ∧ Q (.bl b) H') E
theorem in_own {E : XK} (m : Meth X.K C "__contains__" f) (F : FnOk X.prog X.w X.K X.mg X.base CX k f fd ps sp) (hr : Room k X.A) (hb : Binds X.K fd ps []) (hx : ∀ σ, PassesAt CX X σ E) : OpR X (compareOp .In) (rInO C sp E) := by
  intro pins s σ H x y v u Q I rx ry h
  obtain ⟨a, dx, fs, rfl, ha, q⟩ := h
  cases ry
  obtain ⟨ox, od, J⟩ := inst_at I ha
  obtain ⟨m', hF⟩ := I.fr
  refine PySem.W.in_K hF I.ok.mod.kin J m.at_ m.fn (wpAny_mono (own_run (E := fun _ => E) F hr rfl hb (hx σ) I (.cons vref (.cons rx .nil)) q) (fun u s' hu => ?_) fun _ _ x => x)
  obtain ⟨v, H', I', rv, b, rfl, q'⟩ := hu
  cases rv
  exact wpAny_truthy_bool ⟨.bl b, H', I', rfl, q'⟩
/-- o == p, both of the class -/
def rEqO (C : Addr) (sp : Sp) (E : XK) : R2 := fun x y H Q => ∃ a dx fs b dy gs, x = .ref a ∧ y = .ref b ∧ H a = some (.ins C dx fs) ∧ H b = some (.ins C dy gs) ∧ sp [.ref a, .ref b] H (fun v H' => ∃ c, v = .bl c ∧ Q (.bl c) H') E
theorem eq_own {E : XK} (m : Meth X.K C "__eq__" f) (F : FnOk X.prog X.w X.K X.mg X.base CX k f fd ps sp) (hr : Room k X.A) (hb : Binds X.K fd ps []) (hx : ∀ σ, PassesAt CX X σ E) : OpR X (compareOp .Eq) (rEqO C sp E) := by
  intro pins s σ H x y v u Q I rx ry h
  obtain ⟨a, dx, fs, b, dy, gs, rfl, rfl, ha, hb', q⟩ := h
  cases rx
  cases ry
  obtain ⟨ox, od, J⟩ := inst_at I ha
  obtain ⟨oy, od', J'⟩ := inst_at I hb'
  obtain ⟨m', hF⟩ := I.fr
  refine PySem.W.cmp_K (op := .Eq) (tb := .ref C) hr.units0 hF I.ok.mod.kin J J'.type (by simp [PySem.W.notFirst]) m.at_ m.fn (wpAny_mono (own_run (E := fun _ => E) F hr rfl hb (hx σ) I (.cons vref (.cons vref .nil)) q) (fun u s' hu => ?_) fun _ _ x => x)
  obtain ⟨v, H', I', rv, c, rfl, q'⟩ := hu
  cases rv
  exact ⟨.bl c, H', I', rfl, q'⟩
/-- o[i], in the place of an expression: the subscript is written plainly -/
def tSubO (C : Addr) (sp : Sp) (E : L2.St → XK) (ta tb : TE) : TE := fun σ H Q => ta σ H fun x H1 => tb σ H1 fun y H2 => ∃ a dx fs, x = .ref a ∧ H2 a = some (.ins C dx fs) ∧ sp [.ref a, y] H2 Q (E σ)
theorem pe_subOwn {a b : Expr} {ta tb : TE} {pos : Pos} (m : Meth X.K C "__getitem__" f) (hfn : PySem.W.fnIn X.K f = true) (F : FnOk X.prog X.w X.K X.mg X.base CX k f fd ps sp) (hr : Room (k + 1) X.A) (hb : Binds X.K fd ps []) (hx : ∀ σ, PassesAt CX X σ (E σ))
    (ha : PE X a ta) (hb' : PE X b tb) (hs : ∀ o i, subscripted b true o i = runValue (.builtin "lifetime.subscript" ⟨[o, i], []⟩) := by intro _ _; with_unfolding_all rfl) : PE X (.Subscript a b pos) (tSubO C sp E ta tb) := by
  refine ⟨fun pins s σ H Q I h => ?_⟩
  refine Subscript_ (binT ha hb' (R := fun x y H2 => ∃ a dx fs, x = .ref a ∧ H2 a = some (.ins C dx fs) ∧ sp [.ref a, y] H2 Q (E σ)) I h fun v u s2 x y H2 I2 rx ry q => ?_)
  obtain ⟨o, dx, fs, rfl, ho, q⟩ := q
  cases rx
  obtain ⟨ox, od, J⟩ := inst_at I2 ho
  obtain ⟨m', hF⟩ := I2.fr
  exact PySem.W.sub_K hF I2.ok.mod.kin J m.at_ hfn m.fn (own_run (A := X.A.in1) F hr.in1 rfl hb (hx σ) I2 (.cons vref (.cons ry .nil)) q) (hs _ _)
/-- o[i] = v -/
def rPutO (C : Addr) (sp : Sp) (E : XK) : V → V → V → Hp → (Hp → Prop) → Prop := fun o i v H Q => ∃ a dx fs, o = .ref a ∧ H a = some (.ins C dx fs) ∧ sp [.ref a, i, v] H (fun _ H' => Q H') E
theorem put_own {E : XK} (m : Meth X.K C "__setitem__" f) (hq : PySem.W.noSeq X.K C = true) (F : FnOk X.prog X.w X.K X.mg X.base CX k f fd ps sp) (hr : Room k X.A) (hb : Binds X.K fd ps []) (hx : ∀ σ, PassesAt CX X σ E) : PSet X (rPutO C sp E) := by
  intro pins s σ H o i v ov iv u Q I ro ri rv h
  obtain ⟨a, dx, fs, rfl, ha, q⟩ := h
  cases ro
  obtain ⟨ox, od, J⟩ := inst_at I ha
  obtain ⟨m', hF⟩ := I.fr
  refine PySem.W.ksp_setItem hF I.ok.mod.kin J hq m.at_ m.fn (wpAny_mono (own_run (E := fun _ => E) F hr rfl hb (hx σ) I (.cons vref (.cons ri (.cons rv .nil))) q) (fun w s' hw => ?_) fun _ _ x => x)
  obtain ⟨v', H', I', _, q'⟩ := hw
  exact ⟨H', I', q'⟩
/-- o[i] = v in a try: what is raised is wished for at the slots -/
def tPutO (C : Addr) (sp : Sp) (E : L2.St → XK) (to ti tv : TE) : TS := fun D σ H => tv σ H fun v H1 => to σ H1 fun o H2 => ti σ H2 fun i H3 => ∃ a dx fs, o = .ref a ∧ H3 a = some (.ins C dx fs) ∧ sp [.ref a, i, v] H3 (fun _ H' => D.nx σ H') (E σ)
/-- abs(o) -/
def rAbs (C : Addr) (sp : Sp) (E : XK) : List V → Hp → VK → Prop := fun xs H Q => ∃ a dx fs, xs = [.ref a] ∧ H a = some (.ins C dx fs) ∧ sp [.ref a] H Q E
theorem abs_own {E : XK} (m : Meth X.K C "__abs__" f) (F : FnOk X.prog X.w X.K X.mg X.base CX k f fd ps sp) (hr : Room (k + 1) X.A) (hb : Binds X.K fd ps []) (hx : ∀ σ, PassesAt CX X σ E) : CallR X (.builtin "abs") (rAbs C sp E) := by
  intro pins s σ H xs us Q I r h
  obtain ⟨a, dx, fs, rfl, ha, q⟩ := h
  rw [Vals.ref1 r]
  obtain ⟨ox, od, J⟩ := inst_at I ha
  refine Calls.call_function_entry kind_abs plain_abs entry_abs (args_abs _) ?_
  unfold Builtin.«abs»
  refine wpAny_bind (m := oneArg "abs" _) (wpAny_pure ?_)
  refine wpAny_bind (m := callSpecial? (.ref a) (Str.ofString "__abs__")) (PySem.W.special_fn I.kIn J m.at_ (beq_iff_eq.mp m.fn) (wpAny_mono (own_run (E := fun _ => E) (A := X.A.in1) F hr.in1 rfl hb (hx σ) I (.cons vref .nil) q) (fun u s' hu => ?_) fun _ _ x => x))
  exact wpAny_pure ⟨_, rfl, hu⟩
/-- bool(o) -/
def rBool (C : Addr) (sp : Sp) (E : XK) : List V → Hp → VK → Prop := fun xs H Q => ∃ a dx fs, xs = [.ref a] ∧ H a = some (.ins C dx fs) ∧ sp [.ref a] H (fun v H' => ∃ b, v = .bl b ∧ Q (.bl b) H') E
theorem bool_own {E : XK} (m : Meth X.K C "__bool__" f) (F : FnOk X.prog X.w X.K X.mg X.base CX k f fd ps sp) (hr : Room (k + 2) X.A) (hb : Binds X.K fd ps []) (hx : ∀ σ, PassesAt CX X σ E) : CallR X (.type "bool") (rBool C sp E) := by
  intro pins s σ H xs us Q I r h
  obtain ⟨a, dx, fs, rfl, ha, q⟩ := h
  rw [Vals.ref1 r]
  obtain ⟨ox, od, J⟩ := inst_at I ha
  obtain ⟨m', hF⟩ := I.fr
  refine callType_newIn (S := fun A' R s' => wpAny (model X.prog X.w) A'.in1 (truthy (.ref a)) (fun b s2 => R (.ok (.ret (.bool b))) s2) (fun e s2 => R (.error e) s2) s') PySem.F.called_bool PySem.F.newNe_bool (PySem.F.typeCall_bool_1 _) (PySem.F.newCall_bool_1 _) (fun obj => PySem.F.args_object_init_2 obj _) PySem.F.entry_bool_new (.of_wp fun A' R s' hs => ?_) ?_
  · obtain ⟨hp, g, d, tk, os⟩ := s'
    have f1 := PySem.F.conv_sub_bool
    unfold Builtin.«bool.__new__»
    repeat ((fail_if_success (with_reducible show wpAny _ _ (truthy _) _ _ _)); (fail_if_success (with_reducible show wpAny _ _ (truthy _ >>= _) _ _ _)); (first | assumption | wp_step))
    show wpAny _ _ (truthy (.ref a) >>= fun b => ret (.bool b)) _ _ _
    refine wpAny_bind (wpAny_mono hs (fun b s2 h2 => ?_) fun _ _ x => x)
    exact wpAny_pure ⟨_, rfl, h2⟩
  · refine PySem.W.truthy_K hF I.ok.mod.kin J m.at_ m.fn (wpAny_mono (own_run (E := fun _ => E) (A := X.A.in1.in1) F hr.in1.in1 rfl hb (hx σ) I (.cons vref .nil) q) (fun u s' hu => ?_) fun _ _ x => x)
    obtain ⟨v, H', I', rv, b, rfl, q'⟩ := hu
    cases rv
    exact ⟨PySem.typeIs_bool _ _, .bl b, H', I', rfl, q'⟩
/-- any of a list of ints -/
def rAnyI (K : PySem.W.Frag) : List V → Hp → VK → Prop := fun vs H Q => ∃ (a : Addr) (ns : List Int), vs = [V.ref a] ∧ SqL K H a (ns.map V.int) ∧ Q (.bl (ns.any fun n => n != 0)) H
theorem truth_ints {prog : Program} {w : World} {A : Around} {ns : List Int} {its : List Value} (e : IntsAre its ns) : TruthOf prog w A (fun i v => its.toArray[i]? = some v) (fun i => (ns.map fun n => n != 0).getD i false) := fun i v s Q E hv hq => by
  have hv' : its[i]? = some v := by simpa using hv
  have hi : i < ns.length := by
    have := (List.getElem?_eq_some_iff.mp hv').1
    have := IntsAre.length e
    omega
  obtain ⟨t, ht⟩ := e.get i _ (List.getElem?_eq_getElem hi)
  have ev : v = .int ns[i] t := Option.some.inj (hv'.symm.trans ht)
  subst ev
  have hg : (ns.map fun n => n != 0).getD i false = (ns[i] != 0) := by
    rw [List.getD_eq_getElem?_getD, List.getElem?_map, List.getElem?_eq_getElem hi]
    rfl
  have hq' : Q ((ns.map fun n => n != 0).getD i false) s := hq
  rw [hg] at hq'
  exact P.truthy_int hq'
theorem cr_anyI (hc : X.calm = true) : CallR X (.builtin "any") (rAnyI X.K) := by
  intro pins s σ H vs us Q I r h
  obtain ⟨a, ns, rfl, hs, q⟩ := h
  obtain ⟨its, rv, pl, _⟩ := I.list hs
  rw [Vals.ref1 r]
  have hi := ints_of_vals rv
  refine call_any_walk (iter_any pl.isList fun s2 e2 st ne => ?_)
  subst e2
  refine ⟨_, _, _, _, _, _, _, rfl, Walks.list (A := X.A.in1) (I.ok.hd hc) _ a ne its.toArray, st, truth_ints hi, fun h' tk hk => ?_⟩
  refine ⟨.bl _, H, I.kept fun b o eo => hk b o (fun z => ?_) (Heap.get?_push_of_some _ eo), ?_, q⟩
  · exact absurd (List.mem_singleton.mp z ▸ Heap.lt_size eo) (Nat.lt_irrefl _)
  · show Value.bool _ = Value.bool _
    have e1 := any_range (ns.map fun n => n != 0)
    rw [List.length_map, List.any_map] at e1
    rw [List.size_toArray, IntsAre.length hi]
    exact congrArg Value.bool e1
end
end KO

namespace KO
open PySem PySem.Spec PyProof.Rows L2
section
variable {prog : Program} {w : World} {A : Around} {E : Value → Shared → Prop} {s : Shared} {it l : Addr} {i : Nat} {items : Array Value}
theorem pyNext_item {x : Value} {Q : Option Value → Shared → Prop} (ho : s.heap.get? it = some (GNX.itObj l i)) (hl : s.heap.IsList l items) (hx : items[i]? = some x)
    (hQ : ∀ h', h'.get? it = some (GNX.itObj l (i + 1)) → Heap.SameBut it s.heap h' → Q (some x) { s with heap := h' }) : wpAny (model prog w) A (pyNext (.ref it)) Q E s := by
  have hT : s.TypeIs (.ref it) "list_iterator" := ⟨_, ho, rfl⟩
  unfold pyNext
  refine wpAny_bind (wpAny_attempt (wpAny_callSpecial?_slot (name := Str.ofString "__next__") hT slot_listiter_next
    (wpAny_call_entry slot_listiter_next hT entry_listiter_next ?_ (args_listiter_next _))))
  exact GNX.next_item ho hl hx fun h' e sb => wpAny_pure (hQ h' e sb)
theorem pyNext_end {Q : Option Value → Shared → Prop} (hh : A.handled = none) (ho : s.heap.get? it = some (GNX.itObj l i)) (hl : s.heap.IsList l items) (hx : items[i]? = none)
    (hQ : ∀ h1 h', h1.get? it = some (GNX.itEnd i) → Heap.SameBut it s.heap h1 → (∀ b o, h1.get? b = some o → h'.get? b = some o) → Q none { s with heap := h' }) : wpAny (model prog w) A (pyNext (.ref it)) Q E s := by
  have hT : s.TypeIs (.ref it) "list_iterator" := ⟨_, ho, rfl⟩
  unfold pyNext
  refine wpAny_bind (wpAny_attempt (wpAny_callSpecial?_slot (name := Str.ofString "__next__") hT slot_listiter_next
    (wpAny_call_entry slot_listiter_next hT entry_listiter_next ?_ (args_listiter_next _))))
  refine GNX.next_end hh ho hl hx fun h1 h' e vs e1 sb k ne he hv => ?_
  refine wpAny_bind (wpAny_isInstance (T := "StopIteration") (b := true) ⟨_, he, rfl⟩ isSubtype_stop ?_)
  exact wpAny_pure (hQ h1 h' e1 sb k)
end
section
variable {X : Cx} {k kl ki : Nat} {f fi fl C : Addr} {fd fdI fdL : FuncData} {ps psI psL : List Str} {sp spI spL : Sp}
/-- a method that raises nothing runs under any wish -/
theorem own_run0 {A : Around} {pins : List (Addr × Obj)} {σ : L2.St} {H : Hp} {s : Shared} {Q : VK} {us : List Value} {vs : List V} {E' : Value → Shared → Prop} (F : FnOk X.prog X.w X.K X.mg X.base CX0 k f fd ps sp) (hr : Room k A) (fr : A.frames = X.A.frames) (hb : Binds X.K fd ps [])
    (I : Inv X pins σ H s) (r : Vals vs us) (h : sp vs H Q E0) : wpAny (model X.prog X.w) A (call (.ref f) us) (EP X pins σ Q) E' s := by
  have hl : us.length = ps.length := r.length.symm.trans (F.len _ _ _ _ h)
  have b := hb s us I.kIn (by rw [List.append_nil]; exact hl)
  rw [List.append_nil] at b
  have e := I.env0
  have e2 : Env0 X.prog X.w X.K X.mg X.base A X.stack s H := ⟨by rw [fr]; exact e.frames, e.mod, e.bs, e.bsz, e.funs, e.frf, e.hok, e.bare⟩
  refine wpAny_call (codeAny_mono (F.run A X.stack s H ⟨us, []⟩ us vs Q E0 hr e2 b r h) fun r s' hq => ?_)
  cases r with
  | error e => exact hq.elim
  | ok fl =>
    cases fl with
    | ret u => exact I.after hq
    | next => exact hq.elim
    | brk => exact hq.elim
    | cont => exact hq.elim
theorem upd3 {H : Hp} {a b : Addr} {x y z : HO} (ne : a ≠ b) : upd (upd (upd H a x) b y) a z = upd (upd H a z) b y := by
  funext c
  by_cases h1 : c = a
  · rw [h1, upd_same, upd_ne ne, upd_same]
  · rw [upd_ne h1]
    by_cases h2 : c = b
    · rw [h2, upd_same, upd_same]
    · rw [upd_ne h2, upd_ne h2, upd_ne h1, upd_ne h1]
/-- the loop of extend over a list's iterator at it, whose list at l is neither the iterator nor the one that is filled -/
theorem it_loop {A1 : Around} {pins : List (Addr × Obj)} {σ : L2.St} {R : Result → Shared → Prop} {H0 : Hp} {l it S : Addr} {zs : List V} (hh : A1.in1.handled = none) (lit : l ≠ it) (itS : it ≠ S) (lS : l ≠ S)
    (hl : H0 l = some (.lst zs)) (hn : zs.length ≤ 1000)
    (hR : ∀ s, Inv X pins σ (upd (upd H0 it (ItE it zs.length)) S (.lst zs)) s → R (.ok (.ret .none)) s) :
    ∀ k i s, zs.length - i = k → i ≤ zs.length → Inv X pins σ (upd (upd H0 it (ItO l it i)) S (.lst (zs.take i))) s → codeAny (model X.prog X.w) A1 (.builtin "list.extend.loop" ⟨[.ref S, .ref it, .none], []⟩) R s := by
  intro k
  induction k with
  | zero =>
    intro i s hk hi I
    have e : i = zs.length := by omega
    subst e
    have hit : (upd (upd H0 it (ItO l it zs.length)) S (.lst (zs.take zs.length))) it = some (ItO l it zs.length) := by rw [upd_ne itS, upd_same]
    have hl1 : (upd (upd H0 it (ItO l it zs.length)) S (.lst (zs.take zs.length))) l = some (.lst zs) := by rw [upd_ne lS, upd_ne lit]; exact hl
    obtain ⟨z, its, c, rv, hlen, el⟩ := I.lstM hl1
    refine codeAny_builtin PySem.F.entry_extend_loop ?_
    rw [Around.under_plainId PySem.F.plain_extend_loop _]
    show wpAny _ A1.in1 (pyNext (.ref it) >>= _) _ _ s
    refine wpAny_bind (pyNext_end (l := l) (i := zs.length) (items := its.toArray) hh (itO_get I hit) ⟨_, el, rfl, _, rfl⟩ (by rw [List.getElem?_toArray]; exact rv.none_of (by simp)) fun h1 h' e1 sb kk => ?_)
    refine wpAny_pure (hR _ ?_)
    have mu : Mut ((upd (upd H0 it (ItO l it zs.length)) S (.lst (zs.take zs.length))) it) := by rw [hit]; exact True.intro
    have I2 := I.write (x := it) (e := it) (h' := h') (t' := s.toks) (o := ItE it zs.length) mu (.inl rfl) (fun b o nb z => kk _ _ ((sb.2 b nb).trans z)) ⟨_, kk _ _ e1⟩ (itE_ok (kk _ _ e1))
    have eH : upd (upd (upd H0 it (ItO l it zs.length)) S (.lst (zs.take zs.length))) it (ItE it zs.length) = upd (upd H0 it (ItE it zs.length)) S (.lst zs) := by
      rw [upd3 itS, List.take_length]
    rw [eH] at I2
    exact I2
  | succ k ih =>
    intro i s hk hi I
    have hlt : i < zs.length := by omega
    have hit : (upd (upd H0 it (ItO l it i)) S (.lst (zs.take i))) it = some (ItO l it i) := by rw [upd_ne itS, upd_same]
    have hl1 : (upd (upd H0 it (ItO l it i)) S (.lst (zs.take i))) l = some (.lst zs) := by rw [upd_ne lS, upd_ne lit]; exact hl
    obtain ⟨z, its, c, rv, hlen, el⟩ := I.lstM hl1
    obtain ⟨u, hu, ru⟩ := rv.get (List.getElem?_eq_getElem hlt)
    refine codeAny_builtin PySem.F.entry_extend_loop ?_
    rw [Around.under_plainId PySem.F.plain_extend_loop _]
    show wpAny _ A1.in1 (pyNext (.ref it) >>= _) _ _ s
    refine wpAny_bind (pyNext_item (l := l) (i := i) (items := its.toArray) (itO_get I hit) ⟨_, el, rfl, _, rfl⟩ (by rw [List.getElem?_toArray]; exact hu) fun h' e1 sb => ?_)
    have mu : Mut ((upd (upd H0 it (ItO l it i)) S (.lst (zs.take i))) it) := by rw [hit]; exact True.intro
    have I2 := I.write (x := it) (e := it) (h' := h') (t' := s.toks) (o := ItO l it (i + 1)) mu (.inl rfl) (fun b o nb z => (sb.2 b nb).trans z) ⟨_, e1⟩ (itO_ok e1)
    have eH : upd (upd (upd H0 it (ItO l it i)) S (.lst (zs.take i))) it (ItO l it (i + 1)) = upd (upd H0 it (ItO l it (i + 1))) S (.lst (zs.take i)) := by
      rw [upd3 itS]
    rw [eH] at I2
    have hS : (upd (upd H0 it (ItO l it (i + 1))) S (.lst (zs.take i))) S = some (.lst (zs.take i)) := upd_same
    obtain ⟨z2, its2, c2, rv2, hlen2, e2⟩ := I2.lstM hS
    show wpAny _ A1.in1 (updateSeq S (·.push u) >>= _) _ _ _
    have hl2 := rv2.length
    rw [List.length_take] at hl2
    refine wpAny_bind (wpAny_updateSeq e2 rfl (wpAny_pure ⟨plainId_quiet PySem.F.plain_extend_loop _, ?_⟩) (by rw [List.size_toArray, sizeLine_eq]; omega) (by show (its2.toArray.push u).size ≤ sizeLine + 1; rw [Array.size_push, List.size_toArray, sizeLine_eq]; omega))
    have I3 := I2.lset (f := (·.push u)) (its' := its2 ++ [u]) (ys := zs.take i ++ [zs[i]]) (t' := s.toks) hS e2 (by simp) (rv2.append (.cons ru .nil)) (by rw [List.length_append, List.length_singleton, sizeLine_eq]; omega)
    rw [upd_upd] at I3
    refine ih (i + 1) _ (by omega) hlt ?_
    rw [List.take_add_one, List.getElem?_eq_getElem hlt]
    exact I3
/-- list(o): o has its own __iter__, which hands back a list's iterator, and its own __len__; neither raises -/
def rListO (K : PySem.W.Frag) (C : Addr) (spI spL : Sp) : List V → Hp → VK → Prop := fun xs H Q => ∃ a dx fs, xs = [.ref a] ∧ H a = some (.ins C dx fs) ∧ ∀ S, H S = none →
  spI [.ref a] (upd H S (.lst [])) (fun v H1 => ∃ (it l : Addr) (zs : List V), v = .ref it ∧ H1 it = some (ItO l it 0) ∧ H1 l = some (.lst zs) ∧ H1 S = some (.lst []) ∧ H1 a = some (.ins C dx fs) ∧ zs.length ≤ 1000 ∧ it ≠ S ∧ l ≠ it ∧ l ≠ S ∧
    spL [.ref a] H1 (fun v H2 => ∃ n : Int, v = .int n ∧ 0 ≤ n ∧ n ≤ 1000 ∧ H2 = H1 ∧ Q (.ref S) (upd (upd H1 it (ItE it zs.length)) S (.lst zs))) E0) E0
theorem listOwn (mi : Meth X.K C "__iter__" fi) (ml : Meth X.K C "__len__" fl) (FI : FnOk X.prog X.w X.K X.mg X.base CX0 k fi fdI psI spI) (bI : Binds X.K fdI psI []) (FL : FnOk X.prog X.w X.K X.mg X.base CX0 k fl fdL psL spL) (bL : Binds X.K fdL psL [])
    (hc : X.calm = true) (hr : Room (k + 3) X.A) : CallR X (.type "list") (rListO X.K C spI spL) := by
  intro pins s σ H xs us Q I r h
  obtain ⟨a, dx, fs, rfl, ha, hq⟩ := h
  rw [Vals.ref1 r]
  refine callType_codes (Q₁ := fun x s1 => x = .ref s.heap.objs.size ∧ s1 = { s with heap := s.heap.push { cls := .type "list", data := .seq #[] } }) PySem.F.called_list (PySem.F.typeCall_list_1 _) PySem.F.entry_list_init (code_list_new _ ⟨rfl, rfl⟩) fun x s1 h1 => ?_
  obtain ⟨rfl, rfl⟩ := h1
  have got : (s.heap.push { cls := .type "list", data := .seq #[] }).get? s.heap.objs.size = some { cls := .type "list", data := .seq #[] } := Heap.get?_push_size _ rfl
  refine ⟨⟨_, got, rfl⟩, PySem.F.args_list_init_2 _ _, ?_⟩
  have fr : H s.heap.objs.size = none := I.hok.fresh (Nat.le_refl _)
  have hsp := hq _ fr
  have I1 : Inv X pins σ (upd H s.heap.objs.size (.lst [])) { s with heap := s.heap.push { cls := .type "list", data := .seq #[] } } := I.lnew (its := []) (t' := s.toks) .nil (Nat.zero_le _)
  generalize s.heap.objs.size = S at got fr hsp I1 ⊢
  show wpAny _ _ (do let old ← Builtin.List.listItems (.ref S); Builtin.List.listUpdate (.ref S) (fun _ => #[]); letGo old.toList.reverse; Builtin.List.listExtendWith (.ref S) (.ref a) .none) _ _ _
  refine wpAny_bind ?_
  unfold Builtin.List.listItems
  refine wpAny_bind (wpAny_seqItems got rfl (wpAny_pure ?_))
  show wpAny _ _ (updateSeq S (fun _ => #[]) >>= fun _ => letGo (#[] : Array Value).toList.reverse >>= fun _ => Builtin.List.listExtendWith (.ref S) (.ref a) .none) _ _ _
  refine wpAny_bind (wpAny_updateSeq got rfl ?_)
  have I2 := I1.lset (f := fun _ => #[]) (its := []) (its' := []) (ys := []) (t' := s.toks) upd_same got rfl .nil (Nat.zero_le _)
  rw [upd_upd] at I2
  refine wpAny_bind (wpAny_letGo ?_)
  generalize ({ s with heap := (s.heap.push { cls := .type "list", data := .seq #[] }).update S (Obj.mapSeq fun _ => #[]) } : Shared) = s2 at I2 ⊢
  have ha2 : upd H S (.lst []) a = some (.ins C dx fs) := by rw [upd_ne (ne_of_none ha fr)]; exact ha
  have ne1 : S ≠ a := fun z => by rw [← z, fr] at ha; cases ha
  obtain ⟨ox, od, J⟩ := inst_at I2 ha2
  obtain ⟨m0, hF⟩ := I2.fr
  unfold Builtin.List.listExtendWith
  refine wpAny_bind (J.type.here ?_)
  have b1 : Builtin.List.listSameRef (.ref S) (.ref a) = false := by simp [Builtin.List.listSameRef, ne1]
  have b2 : (Value.ref C == Value.type "list") = false := rfl
  have b3 : (Value.ref C == Value.type "tuple") = false := rfl
  simp only [b1, b2, b3, Bool.or_false, Bool.false_eq_true, if_false]
  refine wpAny_bind (PySem.W.owit_iter hF I2.ok.mod.kin J mi.at_ mi.fn (wpAny_mono (own_run0 (A := X.A.in1.in1) FI (hr.mono (by omega) : Room (k + 2) X.A).in1.in1 rfl bI I2 (.cons vref .nil) hsp) (fun u s3 hu => ?_) fun _ _ x => x))
  obtain ⟨v, H3, I3, rv, it, l, zs, rfl, hit, hl, hS, ha3, hz, itS, lit, lS, hlen⟩ := hu
  cases rv
  have oit := itO_get I3 hit
  unfold PySem.W.OwitIt
  refine wpAny_specialOf (show s3.TypeIs (.ref it) "list_iterator" from ⟨_, oit, rfl⟩) slot_listiter_next.lookup ?_
  show wpAny _ _ _ _ _ s3
  obtain ⟨ox3, od3, J3⟩ := inst_at I3 ha3
  obtain ⟨m3, hF3⟩ := I3.fr
  refine wpAny_bind (wpAny_holding ?_)
  unfold Builtin.List.listLengthHint
  refine wpAny_bind (wpAny_bind (J3.type.here ((PySem.W.looks_findIn I3.kIn ml.at_).here ?_)))
  refine PySem.W.KFB.if_not rfl ?_
  refine PySem.W.KFB.if_so rfl ?_
  refine wpAny_bind (wpAny_rule ?_)
  refine wpAny_bind (wpAny_attempt (PySem.W.len_K hF3 I3.ok.mod.kin J3 ml.at_ ml.fn (wpAny_mono (own_run0 (A := X.A.in1.in1.in1) FL (hr.mono (by omega) : Room (k + 3) X.A).in1.in1.in1 rfl bL I3 (.cons vref .nil) hlen) (fun u s4 hu => ?_) fun _ _ x => x)))
  obtain ⟨v, H4, I4, rv, n, rfl, n0, n1, eH, q⟩ := hu
  subst eH
  obtain ⟨t4, rfl⟩ := rv
  refine ⟨⟨n0, by omega⟩, ?_⟩
  have I5 : Inv X pins σ H4 { s4 with toks := s4.toks + 1 } := I4.tok _
  generalize ({ s4 with toks := s4.toks + 1 } : Shared) = s5 at I5 ⊢
  refine wpAny_bind (wpAny_pure ?_)
  refine PySem.W.KFB.if_not (by unfold Builtin.List.listTooLong; rw [decide_eq_false]; rw [sizeLine_eq]; omega) ?_
  refine wpAny_pure ?_
  have eH : upd (upd H4 it (ItO l it 0)) S (.lst (zs.take 0)) = H4 := by
    funext b
    by_cases hb : b = S
    · rw [hb, upd_same, hS, List.take_zero]
    · rw [upd_ne hb]
      by_cases hb2 : b = it
      · rw [hb2, upd_same, hit]
      · rw [upd_ne hb2]
  have loop : ∀ s6 : Shared, Inv X pins σ H4 s6 → codeAny (model X.prog X.w) X.A.in1 (.builtin "list.extend.loop" ⟨[.ref S, .ref it, .none], []⟩) (wants (fun r s₂ => r = Value.none ∧ EP X pins σ Q (Value.ref S) s₂) X.xe) s6 := by
    intro s6 I6
    refine it_loop (pins := pins) (σ := σ) (H0 := H4) (by simp [I.ok.hd hc]) lit itS lS hl hz (fun s7 I7 => ⟨rfl, .ref S, _, I7, vref, q⟩) zs.length 0 s6 rfl (Nat.zero_le _) ?_
    rw [eH]
    exact I6
  cases hroom : (n != 0) with
  | false => exact wpAny_pure ⟨plainId_quiet PySem.F.plain_extend_loop _, loop s5 I5⟩
  | true =>
    refine wpAny_bind (wpAny_rule ?_)
    refine wpAny_bind ?_
    show wpAny _ _ (updateSeq S (·.push .none) >>= fun _ => updateSeq S (·.pop)) _ _ _
    obtain ⟨z, its, k3, r3, hl3, e3⟩ := I5.lstM hS
    cases r3
    refine wpAny_bind (wpAny_updateSeq e3 rfl ?_)
    have I6 := I5.lset (f := (·.push Value.none)) (its' := [Value.none]) (ys := [.non]) (t' := s5.toks) hS e3 (by simp) (.cons rfl .nil) (by rw [List.length_singleton, sizeLine_eq]; decide)
    obtain ⟨z4, its4, k4, r4, hl4, e4⟩ := I6.lstM upd_same
    obtain ⟨u4, rfl, ru4⟩ := r4.one
    refine wpAny_updateSeq e4 rfl ?_ (by show 1 ≤ sizeLine; rw [sizeLine_eq]; decide) (by show 0 ≤ sizeLine + 1; exact Nat.zero_le _)
    refine wpAny_pure ⟨plainId_quiet PySem.F.plain_extend_loop _, loop _ ?_⟩
    have I7 := I6.lset (f := (·.pop)) (its := [u4]) (its' := []) (ys := []) (t' := s5.toks) upd_same e4 (by rfl) .nil (Nat.zero_le _)
    rw [upd_upd] at I7
    have hH : upd H4 S (.lst []) = H4 := by
      funext b
      by_cases hb : b = S
      · rw [hb, upd_same, hS]
      · rw [upd_ne hb]
    rw [hH] at I7
    exact I7
end
end KO

namespace KO
open PySem PySem.Spec PyProof.Rows L2
section
variable {X : Cx} {CX : CXT} {k : Nat} {f C : Addr} {fd : FuncData} {ps : List Str} {sp : Sp} {E : L2.St → XK}
/-- X(): an own class over a built-in error, without own __init__, made with nothing -/
theorem pmk_own0 {bmB : List Value} {B newId initId : String} {x : Str} {p pos : Pos} (F : ExcBaseFacts B newId initId bmB) (q : PySem.W.excIn X.K C bmB newId = true) (gC : X.mg x = some (.ref C)) (kC : PySem.W.keepIn X.K (.ref C) = true) (r : Raises X (.ref C)) (hg : Gl X x)
    (hdb : (x == ("__debug__" : Str)) = false := by decide) : PMk X (.Call (.Name x p) [] [] pos) (fun _ H Q => Q (.ref C) none H) := by
  intro pins s σ H Q I h
  refine wpAny_Call_Name_kw (ld_glob I hg gC ?_ hdb)
  refine PySem.W.callWith_K0 I.kIn kC ?_
  obtain ⟨bm, N, nm, qn, bs, hdct, sn, sub, ab, col, dd, k0, k1, k2, k3, k5, mN, hC, hN, hni, T⟩ := exc_obj I.kIn q
  refine wpAny_call_exc_subT F T hC hN hni (fun h' e hm => ?_) (by show 0 ≤ sizeLine; exact Nat.zero_le _)
  exact mk_of I hm r h (I.hok.gone hm.new)
/-- one of two ways -/
theorem cr_or {b : Value} {r1 r2 : List V → Hp → VK → Prop} (h1 : CallR X b r1) (h2 : CallR X b r2) : CallR X b (fun xs H Q => r1 xs H Q ∨ r2 xs H Q) := by
  intro pins s σ H xs us Q I r h
  rcases h with h | h
  · exact h1 pins s σ H xs us Q I r h
  · exact h2 pins s σ H xs us Q I r h
section
variable {prog : Program} {w : World} {A : Around} {E : Value → Shared → Prop} {s : Shared} {l : Addr} {xs : Array (Int × Tok)}
theorem min_tupI {Q : Value → Shared → Prop} (hh : A.handled = none) (hl : s.heap.IsTuple l (intItems xs)) (hne : 0 < xs.size)
    (h : ∀ v h' tk, (intItems xs)[argBest (fun i j => decide (numAt xs i < numAt xs j)) (xs.size - 1)]? = some v → (∀ b o, s.heap.get? b = some o → h'.get? b = some o) → Q v { s with heap := h', toks := tk }) :
    wpAny (model prog w) A (call (.builtin "min") [.ref l]) Q E s := by
  have hlt : l < s.heap.objs.size := by obtain ⟨_, e, _⟩ := hl; exact Heap.lt_size e
  refine call_min_walk (wpAny_pyIter_tuple hl ?_)
  refine ⟨_, _, _, _, _, _, _, rfl, Walks.tuple (A := A.in1) hh _ l (Nat.ne_of_lt hlt) (intItems xs), ⟨⟨_, Heap.get?_push_size _ rfl, rfl, rfl⟩, hl.push _⟩, (fun b hb => ?_), by simpa [intItems] using hne, CmpOf.ints_lt (numAt xs) (fun _ _ => intItems_at), fun v h' tk hP hk => ?_⟩
  · show b < (s.heap.push _).objs.size
    rw [Heap.size_push]
    rcases List.mem_cons.mp hb with rfl | hb
    · exact Nat.lt_succ_self _
    · rcases List.mem_cons.mp hb with rfl | hb
      · exact Nat.lt_succ_of_lt hlt
      · cases hb
  · refine h v h' tk (by simpa [intItems] using hP) fun b o e => hk b o (fun hm => ?_) (Heap.get?_push_of_some _ e)
    rcases List.mem_cons.mp hm with e1 | hm
    · exact absurd (e1 ▸ Heap.lt_size e) (Nat.lt_irrefl _)
    · cases hm
theorem min_rawT {its : List Value} {ns : List Int} {Q : Value → Shared → Prop} (hh : A.handled = none) (hl : s.heap.IsTuple l its.toArray) (hi : IntsAre its ns) (hne : 0 < ns.length)
    (h : ∀ h' tk M t', (∀ b o, s.heap.get? b = some o → h'.get? b = some o) → M ∈ ns → (∀ a, a ∈ ns → M ≤ a) → Q (.int M t') { s with heap := h', toks := tk }) : wpAny (model prog w) A (call (.builtin "min") [.ref l]) Q E s := by
  obtain ⟨xs, e⟩ := hi.allInts.items
  have hn : numsOf (intItems xs).toList = ns := by rw [← e]; exact hi.numsOf
  rw [nums_intItems] at hn
  subst hn
  rw [e] at hl
  have hsz : 0 < xs.size := by simpa using hne
  refine min_tupI hh hl hsz fun v h' tk hv hk => ?_
  obtain ⟨t, rfl⟩ := intItems_at hv
  obtain ⟨h1, h2⟩ := argBest_lt (numAt xs) (xs.size - 1)
  refine h h' tk _ t hk ?_ fun a ha => ?_
  · rw [numAt_eq]; exact PySem.getD_mem (by rw [List.length_map, Array.length_toList]; omega)
  · obtain ⟨j, hj, rfl⟩ := mem_getD ha
    rw [List.length_map, Array.length_toList] at hj
    rw [← numAt_eq]; exact h2 j (by omega)
end
/-- min(t), t a tuple of ints -/
def rMinT (K : PySem.W.Frag) : List V → Hp → VK → Prop := fun vs H Q => ∃ (a : Addr) (ns : List Int), vs = [V.ref a] ∧ SqT K H a (ns.map V.int) ∧ 0 < ns.length ∧ ∀ m, m ∈ ns → (∀ y, y ∈ ns → m ≤ y) → Q (.int m) H
theorem cr_minT (hc : X.calm = true) : CallR X (.builtin "min") (rMinT X.K) := by
  intro pins s σ H vs us Q I r h
  obtain ⟨a, ns, rfl, hs, hne, q⟩ := h
  obtain ⟨its, rv, hl, _⟩ := I.tuple hs
  rw [Vals.ref1 r]
  exact min_rawT (I.ok.hd hc) hl rv.ints hne fun h' tk m t' hk h1 h2 => ⟨.int _, H, I.kept hk, ⟨_, rfl⟩, q m h1 h2⟩
/-- min(xs), xs a list or a tuple of ints -/
def rMinS (K : PySem.W.Frag) : List V → Hp → VK → Prop := fun vs H Q => ∃ (a : Addr) (ns : List Int), vs = [V.ref a] ∧ (SqL K H a (ns.map V.int) ∨ SqT K H a (ns.map V.int)) ∧ 0 < ns.length ∧ ∀ m, m ∈ ns → (∀ y, y ∈ ns → m ≤ y) → Q (.int m) H
theorem cr_minS (hc : X.calm = true) : CallR X (.builtin "min") (rMinS X.K) := by
  intro pins s σ H vs us Q I r h
  obtain ⟨a, ns, rfl, hs, hne, q⟩ := h
  rcases hs with hs | hs
  · exact cr_min hc pins s σ H _ us Q I r ⟨a, ns, rfl, hs, hne, q⟩
  · exact cr_minT hc pins s σ H _ us Q I r ⟨a, ns, rfl, hs, hne, q⟩
/-- isinstance(e, c), e the error that the suite holds: its class is D, it has no dict -/
def rIsX (K : PySem.W.Frag) (D a : Addr) (cls : Value) (d : Option Addr) : List V → Hp → VK → Prop := fun xs H Q => cls = .ref D ∧ d = none ∧ rIsE K D a xs H Q
theorem call_isX {a D : Addr} {oe : Obj} {cls : Value} {d : Option Addr} {pn : List (Addr × Obj)} (Ce : ExcC X.K D) (hz : Zc cls d oe) (hf : ∃ vs, oe.data = .fields vs) : CallR (X.suite a ((a, oe) :: pn)) (.builtin "isinstance") (rIsX X.K D a cls d) := by
  intro pins s σ H xs us Q I r h
  obtain ⟨rfl, rfl, h⟩ := h
  exact call_isE Ce hz hf pins s σ H xs us Q I r h
/-- o.m(e, ..): what is raised is wished for at the slots -/
def tMethX (C : Addr) (m : Str) (sp : Sp) (E : L2.St → XK) (ta : TE) (t : TA) : TE := fun σ H Q => ta σ H fun x H1 => ∃ a dx fs, x = .ref a ∧ H1 a = some (.ins C dx fs) ∧ fs.lookup m = none ∧ t σ H1 fun vs H2 => sp (x :: vs) H2 Q (E σ)
theorem pe_methX {m : Str} {o e : Expr} {es : List Expr} {ta : TE} {t : TA} {apos pos : Pos} {pl : Sem Bool} (he : PE X o ta) (c : Cls X.K C) (hm : Meth X.K C m f) (F : FnOk X.prog X.w X.K X.mg X.base CX k f fd ps sp) (hr : Room k X.A) (hb : Binds X.K fd ps []) (hx : ∀ σ, PassesAt CX X σ (E σ)) (ha : PA X (e :: es) t)
    (hst : starEach (e :: es) X.env = (false, eval e X.env) :: starEach es X.env := by rfl) (hpl : (backTo pos (starEach es X.env)).any (·.1) = false := by rfl)
    (ht : eval (.Call (.Attribute o m apos) (e :: es) [] pos) X.env = (do
      let ov ← eval o X.env
      standAt apos.atName
      let (f, first) ← holding [ov] (getMethod ov m pl)
      callWith pos f first (backTo pos (starEach (e :: es) X.env)) (backToKw pos (keywordEach [] X.env))) := by rfl) :
    PE X (.Call (.Attribute o m apos) (e :: es) [] pos) (tMethX C m sp E ta t) := by
  refine ⟨fun pins s σ H Q I h => ?_⟩
  refine PySem.W.methodCall_KW (pl := pl) (thn (he.run pins s σ H _ I h) fun u s1 ⟨x, H1, I1, rx, a, dx, fs, ex, ea, l, q⟩ => ?_) ht
  subst ex
  obtain rfl : u = Value.ref a := rx
  refine getmeth_ok I1 ea c hm l ?_
  refine PySem.W.callWith_K (first := [.ref a]) (h₀ := X.base) I.ok.mod.kin hm.kp (thn (ha.run pos pins s1 σ H1 _ I1 q) fun us s2 ⟨vs, H2, I2, r, q2⟩ => ⟨I2.kIn, ?_⟩) hst hpl
  exact run_fnS (us := .ref a :: us) (vs := .ref a :: vs) F hr hb (hx σ) I2 (.cons rfl r) q2
/-- C(e, ..): what is raised is wished for at the slots -/
def tMakeX (C : Addr) (sp : Sp) (E : L2.St → XK) (t : TA) : TE := fun σ H Q => t σ H fun vs H1 => ∀ x dx, H1 x = none → H1 dx = none → dx ≠ x →
  sp (.ref x :: vs) (upd (upd H1 dx (.own x)) x (.ins C dx [])) (fun v H2 => v = .non ∧ Q (.ref x) H2) (E σ)
theorem run_makeX {pins : List (Addr × Obj)} {σ : L2.St} {H : Hp} {s : Shared} {Q : VK} {us : List Value} {vs : List V} (M : Mk X.K C f) (F : FnOk X.prog X.w X.K X.mg X.base CX k f fd ps sp) (hr : Room (k + 1) X.A) (hb : Binds X.K fd ps [])
    (hx : PassesAt CX X σ (E σ)) (I : Inv X pins σ H s) (r : Vals vs us)
    (h : ∀ x dx, H x = none → H dx = none → dx ≠ x → sp (.ref x :: vs) (upd (upd H dx (.own x)) x (.ins C dx [])) (fun v H2 => v = .non ∧ Q (.ref x) H2) (E σ)) :
    wpAny (model X.prog X.w) X.A (call (.ref C) us) (EP X pins σ Q) X.xe s := by
  have hq := h (s.heap.objs.size + 1) s.heap.objs.size (I.hok.fresh (Nat.le_succ _)) (I.hok.fresh (Nat.le_refl _)) (Nat.ne_of_lt (Nat.lt_succ_self _))
  have I2 := Inv.made (C := C) I
  have r2 : Vals (V.ref (s.heap.objs.size + 1) :: vs) (Value.ref (s.heap.objs.size + 1) :: us) := .cons rfl r
  have hl : (Value.ref (s.heap.objs.size + 1) :: us ++ []).length = ps.length := by
    have e := r2.length
    rw [F.len _ _ _ _ hq] at e
    rw [List.append_nil]
    exact e.symm
  rw [List.append_nil] at hl
  refine wpAny_call (make_map (f := f) I.kIn M.makes M.init (beq_iff_eq.mp M.fn) (codeAny_mono (F.run _ X.stack _ _ ⟨Value.ref (s.heap.objs.size + 1) :: us, []⟩ (Value.ref (s.heap.objs.size + 1) :: us) _ _ (E σ) (hr.make C us [])
    (I2.env0.make C us []) (by have b := hb _ (Value.ref (s.heap.objs.size + 1) :: us) I2.kIn (by rw [List.append_nil]; exact hl); rw [List.append_nil] at b; exact b) r2 hq) fun r s' hq' => ?_))
  cases r with
  | error e => exact hx pins _ _ e s' I2 hq'
  | ok fl =>
    cases fl with
    | ret u =>
      obtain ⟨v, H', I3, rv, ev, q3⟩ := I2.after hq'
      subst ev
      exact ⟨rv, ⟨V.ref (s.heap.objs.size + 1), H', I3, rfl, q3⟩⟩
    | next => exact False.elim hq'
    | brk => exact False.elim hq'
    | cont => exact False.elim hq'
theorem pe_makeX {x : Str} {p pos : Pos} {e : Expr} {es : List Expr} {t : TA} (M : Mk X.K C f) (F : FnOk X.prog X.w X.K X.mg X.base CX k f fd ps sp) (hr : Room (k + 1) X.A) (hg : Gl X x) (hm : X.mg x = some (.ref C)) (hb : Binds X.K fd ps []) (hx : ∀ σ, PassesAt CX X σ (E σ))
    (ha : PA X (e :: es) t) (hdb : (x == ("__debug__" : Str)) = false := by decide) (he : starEach (e :: es) X.env = (false, eval e X.env) :: starEach es X.env := by rfl) (hpl : (backTo pos (starEach es X.env)).any (·.1) = false := by rfl) :
    PE X (.Call (.Name x p) (e :: es) [] pos) (tMakeX C sp E t) := by
  refine ⟨fun pins s σ H Q I h => ?_⟩
  refine wpAny_Call_Name_kw (ld_glob I hg hm ?_ hdb)
  refine PySem.W.callWith_K (h₀ := X.base) I.ok.mod.kin M.kp (thn (ha.run pos pins s σ H _ I h) fun us s1 ⟨vs, H1, I1, r, q⟩ => ⟨I1.kIn, ?_⟩) he hpl
  exact run_makeX M F hr hb (hx σ) I1 r q
/-- o[i] = v: what is raised is wished for at the slots -/
theorem pg_putX {o i : Expr} {to ti : TE} {pos : Pos} (m : Meth X.K C "__setitem__" f) (hq : PySem.W.noSeq X.K C = true) (F : FnOk X.prog X.w X.K X.mg X.base CX k f fd ps sp) (hr : Room k X.A) (hb : Binds X.K fd ps []) (hx : ∀ σ, PassesAt CX X σ (E σ)) (ho : PE X o to) (hi : PE X i ti)
    (ha : ∀ v, assign (.Subscript o i pos) X.env v = (do
      let ov ← holding [v] (eval o X.env)
      let iv ← holding [v, ov] (eval i X.env)
      standAt pos
      holding [v, ov, iv] (setItem ov iv v)
      release [v, ov, iv] []) := by intro _; rfl) : PG X (.Subscript o i pos) (fun v σ H Q => to σ H fun o H1 => ti σ H1 fun i H2 => ∃ a dx fs, o = .ref a ∧ H2 a = some (.ins C dx fs) ∧ sp [.ref a, i, v] H2 (fun _ H3 => Q σ H3) (E σ)) := by
  refine ⟨fun pins s σ H v u Q I r h => ?_⟩
  rw [ha]
  refine wpAny_bind (wpAny_holding (thn (ho.run pins s σ H _ I h) fun ov s1 ⟨x, H1, I1, r1, q1⟩ => ?_))
  refine wpAny_bind (wpAny_holding (thn (hi.run pins s1 σ H1 _ I1 q1) fun iv s2 ⟨y, H2, I2, r2, q2⟩ => ?_))
  obtain ⟨a, dx, fs, rfl, ea, q⟩ := q2
  cases r1
  obtain ⟨ox, od, J⟩ := inst_at I2 ea
  obtain ⟨m', hF⟩ := I2.fr
  refine wpAny_bind (wpAny_standAt (wpAny_bind (wpAny_holding (PySem.W.ksp_setItem hF I2.ok.mod.kin J hq m.at_ m.fn (wpAny_mono (own_run F hr rfl hb (hx σ) I2 (.cons vref (.cons r2 (.cons r .nil))) q) (fun w s' hw => ?_) fun _ _ x => x)))))
  obtain ⟨v', H', I', _, q'⟩ := hw
  exact wpAny_release ⟨σ, H', I', q'⟩
end
end KO

namespace D0
open PySem L2
/-! the text by its places -/
def topS (i : Nat) : Stmt := PySem.Challenge.pw_depotday_k00_load_counts.main.body.getD i (.Pass ⟨0, 0, 0, 0⟩)
abbrev sClen : Stmt := topS 8
abbrev sClst : Stmt := topS 9
abbrev sInit : Stmt := inClass (topS 10) 0
abbrev sCmin : Stmt := inClass (topS 10) 3
abbrev sLen : Stmt := inClass (topS 10) 5
abbrev sIter : Stmt := inClass (topS 10) 6
abbrev sGet : Stmt := inClass (topS 10) 7
abbrev sSet : Stmt := inClass (topS 10) 8
abbrev sPut : Stmt := inClass (topS 10) 9
abbrev sCon : Stmt := inClass (topS 10) 10
abbrev sBoo : Stmt := inClass (topS 10) 11
abbrev sAbs : Stmt := inClass (topS 10) 12
abbrev sEq : Stmt := inClass (topS 10) 13
abbrev sCell : Stmt := topS 12
abbrev sPool : Stmt := topS 13
abbrev sTake : Stmt := topS 14
abbrev sSame : Stmt := topS 15
abbrev sSize : Stmt := topS 16
abbrev sCount : Stmt := topS 17
abbrev sMin : Stmt := topS 18
abbrev sShw : Stmt := topS 19
abbrev sRfc : Stmt := topS 20
abbrev sRfr : Stmt := topS 21
abbrev sLput : Stmt := topS 22
abbrev sLset : Stmt := topS 23
abbrev sDds : Stmt := topS 24
abbrev sNear : Stmt := topS 25
abbrev sLaw : Stmt := topS 26
/-- what the top has written, as the walks ask for it -/
structure Tx (K : PySem.W.Frag) (mg : Str → Option Value) where
  t_MOST_LENGTH : Tok
  c_MOST_LENGTH : mg "MOST_LENGTH" = some (.int 60 t_MOST_LENGTH)
  z_len : mg "len" = none
  z_min : mg "min" = none
  z_list : mg "list" = none
  z_iter : mg "iter" = none
  z_any : mg "any" = none
  z_sum : mg "sum" = none
  z_abs : mg "abs" = none
  z_int : mg "int" = none
  z_bool : mg "bool" = none
  z_str : mg "str" = none
  z_isinstance : mg "isinstance" = none
  z_tuple : mg "tuple" = none
  z_range : mg "range" = none
  z_ValueError : mg "ValueError" = none
  C_Load : Addr
  g_Load : mg "Load" = some (.ref C_Load)
  cl_Load : Cls K C_Load
  na_Load__counts : NoAttr K C_Load "_counts"
  fcheck_length : Addr
  dcheck_length : FuncData
  Fcheck_length : Fun K "check_length" "check_length" sClen fcheck_length dcheck_length
  bcheck_length : Binds K dcheck_length ["length"] []
  gcheck_length : mg "check_length" = some (.ref fcheck_length)
  fcheck_least : Addr
  dcheck_least : FuncData
  Fcheck_least : Fun K "check_least" "check_least" sClst fcheck_least dcheck_least
  bcheck_least : Binds K dcheck_least ["number", "least"] []
  gcheck_least : mg "check_least" = some (.ref fcheck_least)
  fLoad_init : Addr
  dLoad_init : FuncData
  FLoad_init : Fun K "__init__" "Load.__init__" sInit fLoad_init dLoad_init
  bLoad_init : Binds K dLoad_init ["self", "counts"] []
  M_Load : Mk K C_Load fLoad_init
  fLoad_check_minute : Addr
  dLoad_check_minute : FuncData
  FLoad_check_minute : Fun K "_check_minute" "Load._check_minute" sCmin fLoad_check_minute dLoad_check_minute
  bLoad_check_minute : Binds K dLoad_check_minute ["self", "minute"] []
  m_Load_check_minute : Meth K C_Load "_check_minute" fLoad_check_minute
  fLoad_len : Addr
  dLoad_len : FuncData
  FLoad_len : Fun K "__len__" "Load.__len__" sLen fLoad_len dLoad_len
  bLoad_len : Binds K dLoad_len ["self"] []
  m_Load_len : Meth K C_Load "__len__" fLoad_len
  fLoad_iter : Addr
  dLoad_iter : FuncData
  FLoad_iter : Fun K "__iter__" "Load.__iter__" sIter fLoad_iter dLoad_iter
  bLoad_iter : Binds K dLoad_iter ["self"] []
  m_Load_iter : Meth K C_Load "__iter__" fLoad_iter
  fLoad_getitem : Addr
  dLoad_getitem : FuncData
  FLoad_getitem : Fun K "__getitem__" "Load.__getitem__" sGet fLoad_getitem dLoad_getitem
  bLoad_getitem : Binds K dLoad_getitem ["self", "at"] []
  m_Load_getitem : Meth K C_Load "__getitem__" fLoad_getitem
  fLoad_setitem : Addr
  dLoad_setitem : FuncData
  FLoad_setitem : Fun K "__setitem__" "Load.__setitem__" sSet fLoad_setitem dLoad_setitem
  bLoad_setitem : Binds K dLoad_setitem ["self", "at", "worth"] []
  m_Load_setitem : Meth K C_Load "__setitem__" fLoad_setitem
  fLoad_put : Addr
  dLoad_put : FuncData
  FLoad_put : Fun K "put" "Load.put" sPut fLoad_put dLoad_put
  bLoad_put : Binds K dLoad_put ["self", "minute", "count"] []
  m_Load_put : Meth K C_Load "put" fLoad_put
  fLoad_contains : Addr
  dLoad_contains : FuncData
  FLoad_contains : Fun K "__contains__" "Load.__contains__" sCon fLoad_contains dLoad_contains
  bLoad_contains : Binds K dLoad_contains ["self", "x"] []
  m_Load_contains : Meth K C_Load "__contains__" fLoad_contains
  fLoad_bool : Addr
  dLoad_bool : FuncData
  FLoad_bool : Fun K "__bool__" "Load.__bool__" sBoo fLoad_bool dLoad_bool
  bLoad_bool : Binds K dLoad_bool ["self"] []
  m_Load_bool : Meth K C_Load "__bool__" fLoad_bool
  fLoad_abs : Addr
  dLoad_abs : FuncData
  FLoad_abs : Fun K "__abs__" "Load.__abs__" sAbs fLoad_abs dLoad_abs
  bLoad_abs : Binds K dLoad_abs ["self"] []
  m_Load_abs : Meth K C_Load "__abs__" fLoad_abs
  fLoad_eq : Addr
  dLoad_eq : FuncData
  FLoad_eq : Fun K "__eq__" "Load.__eq__" sEq fLoad_eq dLoad_eq
  bLoad_eq : Binds K dLoad_eq ["self", "other"] []
  m_Load_eq : Meth K C_Load "__eq__" fLoad_eq
  f_law_cell : Addr
  d_law_cell : FuncData
  F_law_cell : Fun K "_law_cell" "_law_cell" sCell f_law_cell d_law_cell
  b_law_cell : Binds K d_law_cell ["_law_script", "_law_k"] []
  g_law_cell : mg "_law_cell" = some (.ref f_law_cell)
  f_law_pool : Addr
  d_law_pool : FuncData
  F_law_pool : Fun K "_law_pool" "_law_pool" sPool f_law_pool d_law_pool
  b_law_pool : Binds K d_law_pool ["_law_script", "_law_k"] []
  g_law_pool : mg "_law_pool" = some (.ref f_law_pool)
  f_law_take : Addr
  d_law_take : FuncData
  F_law_take : Fun K "_law_take" "_law_take" sTake f_law_take d_law_take
  b_law_take : Binds K d_law_take ["_law_pool_here", "_law_many"] []
  g_law_take : mg "_law_take" = some (.ref f_law_take)
  f_law_same : Addr
  d_law_same : FuncData
  F_law_same : Fun K "_law_same" "_law_same" sSame f_law_same d_law_same
  b_law_same : Binds K d_law_same ["_law_got", "_law_due"] []
  g_law_same : mg "_law_same" = some (.ref f_law_same)
  f_law_size : Addr
  d_law_size : FuncData
  F_law_size : Fun K "_law_size" "_law_size" sSize f_law_size d_law_size
  b_law_size : Binds K d_law_size ["_law_pool_here"] []
  g_law_size : mg "_law_size" = some (.ref f_law_size)
  f_law_count : Addr
  d_law_count : FuncData
  F_law_count : Fun K "_law_count" "_law_count" sCount f_law_count d_law_count
  b_law_count : Binds K d_law_count ["_law_pool_here"] []
  g_law_count : mg "_law_count" = some (.ref f_law_count)
  f_law_minute : Addr
  d_law_minute : FuncData
  F_law_minute : Fun K "_law_minute" "_law_minute" sMin f_law_minute d_law_minute
  b_law_minute : Binds K d_law_minute ["_law_pool_here", "_law_size_here"] []
  g_law_minute : mg "_law_minute" = some (.ref f_law_minute)
  f_law_shows : Addr
  d_law_shows : FuncData
  F_law_shows : Fun K "_law_shows" "_law_shows" sShw f_law_shows d_law_shows
  b_law_shows : Binds K d_law_shows ["_law_load", "_law_counts"] []
  g_law_shows : mg "_law_shows" = some (.ref f_law_shows)
  f_law_refuses_counts : Addr
  d_law_refuses_counts : FuncData
  F_law_refuses_counts : Fun K "_law_refuses_counts" "_law_refuses_counts" sRfc f_law_refuses_counts d_law_refuses_counts
  b_law_refuses_counts : Binds K d_law_refuses_counts ["_law_counts"] []
  g_law_refuses_counts : mg "_law_refuses_counts" = some (.ref f_law_refuses_counts)
  f_law_refuses_read : Addr
  d_law_refuses_read : FuncData
  F_law_refuses_read : Fun K "_law_refuses_read" "_law_refuses_read" sRfr f_law_refuses_read d_law_refuses_read
  b_law_refuses_read : Binds K d_law_refuses_read ["_law_load", "_law_minute_here"] []
  g_law_refuses_read : mg "_law_refuses_read" = some (.ref f_law_refuses_read)
  f_law_put : Addr
  d_law_put : FuncData
  F_law_put : Fun K "_law_put" "_law_put" sLput f_law_put d_law_put
  b_law_put : Binds K d_law_put ["_law_load", "_law_minute_here", "_law_count_here"] []
  g_law_put : mg "_law_put" = some (.ref f_law_put)
  f_law_set : Addr
  d_law_set : FuncData
  F_law_set : Fun K "_law_set" "_law_set" sLset f_law_set d_law_set
  b_law_set : Binds K d_law_set ["_law_load", "_law_minute_here", "_law_count_here"] []
  g_law_set : mg "_law_set" = some (.ref f_law_set)
  f_law_deeds : Addr
  d_law_deeds : FuncData
  F_law_deeds : Fun K "_law_deeds" "_law_deeds" sDds f_law_deeds d_law_deeds
  b_law_deeds : Binds K d_law_deeds ["_law_load", "_law_counts", "_law_pool_here"] []
  g_law_deeds : mg "_law_deeds" = some (.ref f_law_deeds)
  f_law_near : Addr
  d_law_near : FuncData
  F_law_near : Fun K "_law_near" "_law_near" sNear f_law_near d_law_near
  b_law_near : Binds K d_law_near ["_law_counts", "_law_place"] []
  g_law_near : mg "_law_near" = some (.ref f_law_near)
  flaw : Addr
  dlaw : FuncData
  Flaw : Fun K "law" "law" sLaw flaw dlaw
  blaw : Binds K dlaw ["_law_script"] []
  glaw : mg "law" = some (.ref flaw)
  C_DepotError : Addr
  g_DepotError : mg "DepotError" = some (.ref C_DepotError)
  C_BadLoad : Addr
  g_BadLoad : mg "BadLoad" = some (.ref C_BadLoad)
  C_BadBook : Addr
  g_BadBook : mg "BadBook" = some (.ref C_BadBook)
  xo_BadLoad : PySem.W.excIn K C_BadLoad [.type "ValueError", .type "Exception", .type "BaseException", .type "object"] "ValueError.__new__" = true
  kp_BadLoad : PySem.W.keepIn K (.ref C_BadLoad) = true
  ty_DepotError : PySem.W.typeIn K (.ref C_DepotError) = some (.type "type")
  bs_DepotError : PySem.W.subIn K (.ref C_DepotError) (.type "BaseException") = some true
  hd_DepotError : PySem.W.hasDictIn K C_DepotError = true
  ty_BadLoad : PySem.W.typeIn K (.ref C_BadLoad) = some (.type "type")
  bs_BadLoad : PySem.W.subIn K (.ref C_BadLoad) (.type "BaseException") = some true
  hd_BadLoad : PySem.W.hasDictIn K C_BadLoad = true
  ty_BadBook : PySem.W.typeIn K (.ref C_BadBook) = some (.type "type")
  bs_BadBook : PySem.W.subIn K (.ref C_BadBook) (.type "BaseException") = some true
  hd_BadBook : PySem.W.hasDictIn K C_BadBook = true
  sb_BadLoad_DepotError : PySem.W.subIn K (.ref C_BadLoad) (.ref C_DepotError) = some true
  sb_BadLoad_BadBook : PySem.W.subIn K (.ref C_BadLoad) (.ref C_BadBook) = some false
  sb_BadLoad_self : PySem.W.subIn K (.ref C_BadLoad) (.ref C_BadLoad) = some true
  sb_BadLoad_ValueError : PySem.W.subIn K (.ref C_BadLoad) (.type "ValueError") = some true
  ga_BadLoad : PySem.W.findIn K (.ref C_BadLoad) "__getattribute__" = some (some (.builtin "BaseException.__getattribute__"))
  gg_BadLoad : PySem.W.findIn K (.ref C_BadLoad) "__getattr__" = some none
  cl_BadLoad : PySem.W.findIn K (.ref C_BadLoad) "__class__" = some (some (.builtin "object.__class__"))
  sp_class : PySem.W.specialIn K (.builtin "object.__class__") "__get__" = some (some (.builtin "getset_descriptor.__get__"))
  tk_class : PySem.W.takesIn K (.builtin "object.__class__") = some true
  mr_BadLoad : PySem.W.mroIn K C_BadLoad (.type "object") = some true
  ns_Load : PySem.W.noSeq K C_Load = true
  ic_Load : PySem.W.findIn K (.ref C_Load) "__class__" = some (some (.builtin "object.__class__"))
  mr_Load : PySem.W.mroIn K C_Load (.type "object") = some true
  fn_Load_getitem : PySem.W.fnIn K fLoad_getitem = true
end D0

namespace D0
open PySem PySem.Spec PyProof.Rows L2
/-! ### small words -/
theorem iteD {c A B : Prop} [Decidable c] (hc : ¬ c) (h : B) : if decide c = true then A else B := by
  rw [decide_eq_false hc]
  exact iteF h
theorem iteDT {c A B : Prop} [Decidable c] (hc : c) (h : A) : if decide c = true then A else B := by
  rw [decide_eq_true hc]
  exact iteT h
theorem iteND {c A B : Prop} [Decidable c] (hc : c) (h : B) : if (!decide c) = true then A else B := iteNS hc h
theorem iteDs {c A B : Prop} [Decidable c] (h1 : c → A) (h2 : ¬ c → B) : if decide c = true then A else B := by
  by_cases h : c
  · exact iteDT h (h1 h)
  · exact iteD h (h2 h)
/-- a op b op c op d, three comparisons -/
def tChain3 (r r' r'' : R2) (ta tb tc td : TE) : TE := fun σ H Q => ta σ H fun x H1 => tb σ H1 fun y H2 => r x y H2 fun z H3 => ∃ k, z = .bl k ∧
  (if k = true then tc σ H3 fun y' H4 => r' y y' H4 fun z' H5 => ∃ k', z' = .bl k' ∧ (if k' = true then td σ H5 fun y'' H6 => r'' y' y'' H6 Q else Q (.bl false) H5) else Q (.bl false) H3)
theorem pe_chain3 {X : Cx} {a b c d : Expr} {pos : Pos} {ta tb tc td : TE} {op op' op2 : CmpOp} {r r' r'' : R2} (ho : OpR X (compareOp op) r) (ho' : OpR X (compareOp op') r') (ho2 : OpR X (compareOp op2) r'')
    (ha : PE X a ta) (hb : PE X b tb) (hc : PE X c tc) (hd : PE X d td) (hm : lastMarks [op, op', op2] [b, c, d] = false := by with_unfolding_all rfl) : PE X (.Compare a [op, op', op2] [b, c, d] pos) (tChain3 r r' r'' ta tb tc td) := by
  refine ⟨fun pins s σ H Q I h => ?_⟩
  refine Compare_chain (thn (ha.run pins s σ H _ I h) fun v s1 ⟨x, H1, I1, r1, q1⟩ => chain_link (thn (hb.run pins s1 σ H1 _ I1 q1) fun u s2 ⟨y, H2, I2, r2, q2⟩ =>
    thn (ho pins s2 σ H2 x y v u _ I2 r1 r2 q2) fun d s3 ⟨z, H3, I3, r3, k, e, q3⟩ => ?_)) hm
  subst e
  cases r3
  refine wpAny_truthy_bool ?_
  cases k with
  | false => exact ite_ff ⟨.bl false, H3, I3, rfl, q3⟩
  | true =>
    refine ite_tt (chain_link (thn (hc.run pins s3 σ H3 _ I3 q3) fun u' s4 ⟨y', H4, I4, r4, q4⟩ => thn (ho' pins s4 σ H4 y y' u u' _ I4 r2 r4 q4) fun d' s5 ⟨z', H5, I5, r5, k', e', q5⟩ => ?_))
    subst e'
    cases r5
    refine wpAny_truthy_bool ?_
    cases k' with
    | false => exact ite_ff ⟨.bl false, H5, I5, rfl, q5⟩
    | true => exact ite_tt (chain_last (thn (hd.run pins s5 σ H5 _ I5 q5) fun w' s6 ⟨y2, H6, I6, r6, q6⟩ => ho2 pins s6 σ H6 y' y2 u' w' Q I6 r4 r6 q6))
/-- isinstance of a built-in class -/
theorem isi {K : PySem.W.Frag} {H : Hp} {x : V} {a b : String} {r : Bool} {Q : VK} (h : TyX K H x (.type a)) (k : kitB a b = some r) (q : Q (.bl r) H) : rIsi K [x, .ty b] H Q :=
  ⟨x, .ty b, _, _, r, rfl, .ty b, h, kit_ty k, q⟩
/-! ### heaps -/
def But (p : Addr) (H H' : Hp) : Prop := ∀ b o, b ≠ p → H b = some o → H' b = some o
theorem But.refl (p : Addr) (H : Hp) : But p H H := fun _ _ _ h => h
theorem But.trans {p : Addr} {H H1 H2 : Hp} (a : But p H H1) (b : But p H1 H2) : But p H H2 := fun c o n h => b c o n (a c o n h)
theorem But.of {p : Addr} {H H' : Hp} (s : Same H H') : But p H H' := fun b o _ h => s b o h
theorem But.put {p : Addr} {H : Hp} {o : HO} : But p H (upd H p o) := fun b u n h => by
  rw [upd_ne n]
  exact h
theorem same_upd {H : Hp} {p : Addr} {o : HO} (h : H p = none) : Same H (upd H p o) := fun b x e => by
  rw [upd_ne (ne_of_none e h)]
  exact e
/-- a fresh object was changed -/
theorem Same.put {H H' : Hp} {p : Addr} {o : HO} (s : Same H H') (h : H p = none) : Same H (upd H' p o) := fun b x e => by
  rw [upd_ne (ne_of_none e h)]
  exact s b x e
theorem But.put' {q : Addr} {H H' : Hp} {p : Addr} {o : HO} (s : But q H H') (h : H p = none) : But q H (upd H' p o) := fun b x n e => by
  rw [upd_ne (ne_of_none e h)]
  exact s b x n e
/-- what is free behind was free before, but for the pool -/
theorem But.free {p : Addr} {H H' : Hp} (e : But p H H') {l : Addr} (hl : l ≠ p) (h : H' l = none) : H l = none := by
  cases q : H l with
  | none => rfl
  | some o =>
    rw [e l o hl q] at h
    cases h
def Pool (H : Hp) (p : Addr) : Prop := ∃ x f c : Int, H p = some (.lst [.int x, .int f, .int c])
theorem Pool.ne {H : Hp} {p l : Addr} (h : Pool H p) (hl : H l = none) : l ≠ p := fun e => by
  obtain ⟨x, f, c, h⟩ := h
  rw [e, h] at hl
  cases hl
theorem Pool.same {H H' : Hp} {p : Addr} (h : Pool H p) (s : Same H H') : Pool H' p := by
  obtain ⟨x, f, c, h⟩ := h
  exact ⟨x, f, c, s _ _ h⟩
theorem Pool.upd {H : Hp} {p l : Addr} {o : HO} (h : Pool H p) (hl : l ≠ p) : Pool (upd H l o) p := by
  obtain ⟨x, f, c, h⟩ := h
  exact ⟨x, f, c, by rw [upd_ne hl.symm]; exact h⟩
section
variable {P : Program} {w : World} {K : PySem.W.Frag} {mg : Str → Option Value} {base : Heap}
/-! ### cell, pool, take -/
def spCell (K : PySem.W.Frag) : Sp := fun vs H Q _ => ∃ (a : Addr) (ns : List Int) (k : Nat), vs = [.ref a, .int k] ∧ SqL K H a (ns.map V.int) ∧ ∀ i : Int, Q (.int i) H
theorem scCell : FnScope ["_law_script", "_law_k"] ["_law_script", "_law_k"] (defScope sCell) := ⟨rfl, rfl, rfl, by decide +kernel, rfl, by decide +kernel, by decide +kernel⟩
theorem ok_cell (T : Tx K mg) : FnOk P w K mg base CX0 1 T.f_law_cell T.d_law_cell ["_law_script", "_law_k"] (spCell K) := by
  refine T.F_law_cell.ok scCell (fun vs H Q E h => ?_) (fun cdv A outer s H vs Q E hr h => ?_)
  · obtain ⟨a, ns, k, rfl, _⟩ := h
    rfl
  · obtain ⟨a, ns, k, rfl, hS, q⟩ := h
    refine ⟨_, pss_cons (ps_if (pt_cmpR op_lt (pv 1) (pe_callB call_len_seq (by rfl) T.z_len (by decide +kernel) (pa_cons (pv 0) pa_nil)) (nomark _)) (pss_one (ps_ret (pe_callB call_abs (by rfl) T.z_abs (by decide +kernel) (pa_cons (pe_ix ix_list (pv 0) (pv 1) (fun _ _ => rfl)) pa_nil)))) (pss_nil))
      (pss_one (ps_ret pe_int)), ?_⟩
    refine ⟨_, rfl, _, rfl, a, _, rfl, .inl hS, _, _, rfl, rfl, _, rfl, iteDs (fun h => ?_) (fun _ => q _)⟩
    have hk : k < ns.length := by
      rw [List.length_map] at h
      omega
    refine ⟨_, rfl, _, rfl, a, _, _, .int ns[k], rfl, rfl, hS, atI_nat (by rw [List.getElem?_map, List.getElem?_eq_getElem hk]; rfl), _, rfl, q _⟩
def spPool (K : PySem.W.Frag) : Sp := fun vs H Q _ => ∃ (a : Addr) (ns : List Int) (k : Nat), vs = [.ref a, .int k] ∧ SqL K H a (ns.map V.int) ∧ k ≤ 1000 ∧ ∀ H' p, H p = none → Same H H' → Pool H' p → Q (.ref p) H'
theorem scPool : FnScope ["_law_script", "_law_k", "_law_cell_here"] ["_law_script", "_law_k"] (defScope sPool) := ⟨rfl, rfl, rfl, by decide +kernel, rfl, by decide +kernel, by decide +kernel⟩
theorem ok_pool (T : Tx K mg) : FnOk P w K mg base CX0 2 T.f_law_pool T.d_law_pool ["_law_script", "_law_k"] (spPool K) := by
  have G_law_cell := ok_cell (P := P) (w := w) (base := base) T
  refine T.F_law_pool.ok scPool (fun vs H Q E h => ?_) (fun cdv A outer s H vs Q E hr h => ?_)
  · obtain ⟨a, ns, k, rfl, _⟩ := h
    rfl
  · obtain ⟨a, ns, k, rfl, hS, hk, q⟩ := h
    refine ⟨_, pss_cons (ps_set (i := 2) scPool.nd rfl (.inl rfl) (pe_call G_law_cell hr (by rfl) T.g_law_cell T.F_law_cell.kp T.b_law_cell .nil pass0 (pa_cons (pv 0) (pa_cons (pv 1) pa_nil))))
      (pss_one (ps_ret (pe_lst (pa_cons (pv 2) (pa_cons (pe_callTy call_int1 (by rfl) T.z_int (by decide +kernel) (pa_cons (pe_cmpR op_ge (pv 2) (pe_op op_pow pe_int pe_int) (nomark _)) pa_nil)) (pa_cons (pe_op op_mul pe_int (pv 1)) pa_nil)))))), ?_⟩
    refine ⟨_, rfl, _, rfl, a, ns, k, rfl, hS, fun i => ?_⟩
    refine ⟨_, rfl, _, rfl, _, _, rfl, rfl, ⟨by decide, by decide, by decide⟩, _, _, rfl, rfl, .inr ⟨_, rfl, _, rfl, _, _, rfl, rfl, .inl ⟨by decide, by decide⟩, (by show 3 ≤ sizeLine; decide), fun p hp => ?_⟩⟩
    exact q _ p hp (same_upd hp) ⟨_, _, _, upd_same⟩
def spTake : Sp := fun vs H Q _ => ∃ (p : Addr) (m : Int), vs = [.ref p, .int m] ∧ Pool H p ∧ 0 < m ∧ m < 1073741824 ∧ ∀ H' r, 0 ≤ r → r < m → Pool H' p → (∀ b, b ≠ p → H' b = H b) → Q (.int r) H'
theorem scTake : FnScope ["_law_pool_here", "_law_many", "_law_drawn", "_law_mixed"] ["_law_pool_here", "_law_many"] (defScope sTake) := ⟨rfl, rfl, rfl, by decide +kernel, rfl, by decide +kernel, by decide +kernel⟩
theorem mulOk {i j : Int} (h : 0 ≤ j) (h2 : j < 1000000) : CMul i j := .inr ⟨by omega, by omega⟩
/-- a remainder as a letter -/
theorem rmod {i j : Int} {R : Int → Prop} (hj : 0 < j) (q : ∀ r : Int, 0 ≤ r → r < j → R r) : ∃ r : Int, i % j = r ∧ 0 ≤ r ∧ r < j ∧ R r :=
  ⟨i % j, rfl, Int.emod_nonneg _ (by omega), Int.emod_lt_of_pos _ hj, q _ (Int.emod_nonneg _ (by omega)) (Int.emod_lt_of_pos _ hj)⟩
theorem emod_b (i : Int) {j : Int} (hj : 0 < j) : 0 ≤ i % j ∧ i % j < j := ⟨Int.emod_nonneg _ (by omega), Int.emod_lt_of_pos _ hj⟩
theorem ok_take (T : Tx K mg) : FnOk P w K mg base CX0 1 T.f_law_take T.d_law_take ["_law_pool_here", "_law_many"] spTake := by
  refine T.F_law_take.ok scTake (fun vs H Q E h => ?_) (fun cdv A outer s H vs Q E hr h => ?_)
  · obtain ⟨p, m, rfl, _⟩ := h
    rfl
  · obtain ⟨p, m, rfl, ⟨x, f, c, hp⟩, hm, hm2, q⟩ := h
    refine ⟨_, pss_cons (ps_if (PW.pt (pw_and (pt_cmpR op_eq (pe_ix ix_list (pv 0) pe_int (fun _ _ => rfl)) pe_int (nomark _)) (pw_and1 (pt_cmpR op_gt (pe_ix ix_list (pv 0) pe_int (fun _ _ => rfl)) pe_int (nomark _))))) (pss_cons (ps_set (i := 2) scTake.nd rfl (.inl rfl) (pe_op op_mod (pe_callTy call_int1 (by rfl) T.z_int (by decide +kernel) (pa_cons (pe_ix ix_list (pv 0) pe_int (fun _ _ => rfl)) pa_nil)) (pv 1)))
      (pss_cons (ps_asg (pe_op op_fdiv (pe_ix ix_list (pv 0) pe_int (fun _ _ => rfl)) (pv 1)) (pg_sub (pv 0) pe_int set_list))
      (pss_one (ps_ret (pv 2))))) (pss_nil))
      (pss_cons (ps_asg (pe_op op_add (pe_ix ix_list (pv 0) pe_int (fun _ _ => rfl)) pe_int) (pg_sub (pv 0) pe_int set_list))
      (pss_cons (ps_set (i := 3) scTake.nd rfl (.inl rfl) (pe_op op_mod (pe_callTy call_int1 (by rfl) T.z_int (by decide +kernel) (pa_cons (pe_op op_add (pe_op op_mul (pe_op op_add (pe_ix ix_list (pv 0) pe_int (fun _ _ => rfl)) pe_int) pe_int) (pe_op op_mul (pe_ix ix_list (pv 0) pe_int (fun _ _ => rfl)) pe_int)) pa_nil)) pe_int))
      (pss_cons (ps_set (i := 3) scTake.nd rfl (.inl rfl) (pe_op op_mod (pe_callTy call_int1 (by rfl) T.z_int (by decide +kernel) (pa_cons (pe_op op_add (pe_op op_mul (pv 3) pe_int) (pe_op op_mul (pe_ix ix_list (pv 0) pe_int (fun _ _ => rfl)) pe_int)) pa_nil)) pe_int))
      (pss_cons (ps_if (pt_cmpR op_gt (pe_ix ix_list (pv 0) pe_int (fun _ _ => rfl)) pe_int (nomark _)) (pss_one (ps_set (i := 3) scTake.nd rfl (.inl rfl) (pe_op op_mod (pe_callTy call_int1 (by rfl) T.z_int (by decide +kernel) (pa_cons (pe_op op_mul (pe_op op_fdiv (pv 3) pe_int) (pe_op op_add (pe_op op_add (pe_op op_fdiv (pv 3) pe_int) (pe_ix ix_list (pv 0) pe_int (fun _ _ => rfl))) pe_int)) pa_nil)) pe_int))) (pss_nil))
      (pss_one (ps_ret (pe_op op_mod (pe_callTy call_int1 (by rfl) T.z_int (by decide +kernel) (pa_cons (pe_op op_fdiv (pv 3) pe_int) pa_nil)) (pv 1)))))))), ?_⟩
    have hL := SqL.of (K := K) hp
    -- pool[1] == 1 and pool[0] > 1
    refine ⟨_, rfl, p, _, _, _, rfl, rfl, hL, rfl, rfl, _, rfl, ?_⟩
    refine iteDs (fun h1 => ⟨_, rfl, p, _, _, _, rfl, rfl, hL, rfl, _, _, rfl, rfl, _, rfl, iteDs (fun h2 => ?c) (fun _ => ?t1)⟩) (fun _ => ?t2)
    case c =>
      refine ⟨_, rfl, p, _, _, _, rfl, rfl, hL, rfl, .inl ⟨_, rfl, _, rfl, _, _, rfl, rfl, hm, ?_⟩⟩
      have hb := emod_b x hm
      refine ⟨_, rfl, p, _, _, _, rfl, rfl, hL, rfl, _, rfl, _, _, rfl, rfl, ⟨hm, hm2⟩, _, rfl, p, _, _, _, rfl, rfl, hp, rfl, ?_⟩
      exact ⟨_, rfl, q _ _ hb.1 hb.2 ⟨_, _, _, upd_same⟩ fun b hb => upd_ne hb⟩
    all_goals
      refine ⟨_, rfl, p, _, _, _, rfl, rfl, hL, rfl, _, _, rfl, rfl, _, rfl, p, _, _, _, rfl, rfl, hp, rfl, ?_⟩
      have hp1 : (upd H p (.lst (([.int x, .int f, .int c] : List V).set 2 (.int (c + 1))))) p = some (.lst [.int x, .int f, .int (c + 1)]) := upd_same
      have hL1 := SqL.of (K := K) hp1
      refine ⟨_, rfl, p, _, _, _, rfl, rfl, hL1, rfl, _, _, rfl, rfl, _, _, rfl, rfl, mulOk (by decide) (by decide), _, rfl, p, _, _, _, rfl, rfl, hL1, rfl, _, _, rfl, rfl, mulOk (by decide) (by decide), _, _, rfl, rfl, .inl ⟨_, rfl, _, _, rfl, rfl, (show (0 : Int) < 2147483629 by decide), ?_⟩⟩
      refine ⟨_, rfl, _, _, rfl, rfl, mulOk (by decide) (by decide), _, rfl, p, _, _, _, rfl, rfl, hL1, rfl, _, _, rfl, rfl, mulOk (by decide) (by decide), _, _, rfl, rfl, .inl ⟨_, rfl, _, _, rfl, rfl, (show (0 : Int) < 2147483587 by decide), ?_⟩⟩
      refine ⟨_, rfl, p, _, _, _, rfl, rfl, hL1, rfl, _, _, rfl, rfl, _, rfl, iteDs (fun _ => ?_) (fun _ => ?_)⟩
      · refine ⟨_, rfl, _, _, rfl, rfl, ⟨by decide, by decide⟩, _, rfl, _, _, rfl, rfl, ⟨by decide, by decide⟩, _, rfl, p, _, _, _, rfl, rfl, hL1, rfl, _, _, rfl, rfl, _, _, rfl, rfl, _, _, rfl, rfl, .inl ⟨by omega, by omega⟩, .inl ⟨_, rfl, _, _, rfl, rfl, (show (0 : Int) < 2147483563 by decide), ?_⟩⟩
        refine ⟨_, rfl, _, _, rfl, rfl, ⟨by decide, by decide⟩, .inl ⟨_, rfl, _, rfl, _, _, rfl, rfl, hm, ?_⟩⟩
        exact q _ _ (emod_b _ hm).1 (emod_b _ hm).2 ⟨_, _, _, hp1⟩ fun b hb => upd_ne hb
      · refine ⟨_, rfl, _, _, rfl, rfl, ⟨by decide, by decide⟩, .inl ⟨_, rfl, _, rfl, _, _, rfl, rfl, hm, ?_⟩⟩
        exact q _ _ (emod_b _ hm).1 (emod_b _ hm).2 ⟨_, _, _, hp1⟩ fun b hb => upd_ne hb
end
end D0

namespace D0
open PySem PySem.Spec PyProof.Rows L2
section
variable {P : Program} {w : World} {K : PySem.W.Frag} {mg : Str → Option Value} {base : Heap}
/-! ### the same datum twice -/
/-- both show one datum of depth below n; scalars are ints -/
def Rp : Nat → Hp → V → V → Prop
  | 0, _, _, _ => False
  | n + 1, H, u, v => (∃ i : Int, u = .int i ∧ v = .int i) ∨ ∃ (a b : Addr) (xs ys : List V), u = .ref a ∧ v = .ref b ∧ ((H a = some (.lst xs) ∧ H b = some (.lst ys)) ∨ (H a = some (.tup xs) ∧ H b = some (.tup ys))) ∧
      xs.length = ys.length ∧ xs.length ≤ 1000 ∧ ∀ (i : Nat) (x y : V), xs[i]? = some x → ys[i]? = some y → Rp n H x y
theorem Rp.same {H H' : Hp} (s : Same H H') : ∀ {n : Nat} {u v : V}, Rp n H u v → Rp n H' u v
  | 0, _, _, h => h.elim
  | n + 1, _, _, .inl h => .inl h
  | n + 1, _, _, .inr ⟨a, b, xs, ys, e1, e2, h, hl, hz, hr⟩ => .inr ⟨a, b, xs, ys, e1, e2, h.elim (fun q => .inl ⟨s _ _ q.1, s _ _ q.2⟩) (fun q => .inr ⟨s _ _ q.1, s _ _ q.2⟩), hl, hz, fun i x y hx hy => Rp.same s (hr i x y hx hy)⟩
def spSame (n : Nat) : Sp := fun vs H Q _ => ∃ u v : V, vs = [u, v] ∧ Rp n H u v ∧ Q (.bl true) H
theorem scSame : FnScope ["_law_got", "_law_due", "_law_k"] ["_law_got", "_law_due"] (defScope sSame) := ⟨rfl, rfl, rfl, by decide +kernel, rfl, by decide +kernel, by decide +kernel⟩
theorem ok_same (T : Tx K mg) : ∀ n : Nat, FnOk P w K mg base CX0 n T.f_law_same T.d_law_same ["_law_got", "_law_due"] (spSame n)
  | 0 => ⟨fun vs H Q E ⟨u, v, _, h, _⟩ => h.elim, fun A outer s H args us vs Q E _ _ _ _ ⟨u, v, _, h, _⟩ => h.elim⟩
  | n + 1 => by
    have G_law_same := ok_same T n
    refine T.F_law_same.ok scSame (fun vs H Q E h => ?_) (fun cdv A outer s H vs Q E hr h => ?_)
    · obtain ⟨u, v, rfl, _⟩ := h
      rfl
    · obtain ⟨u, v, rfl, hR, q⟩ := h
      rcases hR with ⟨i, rfl, rfl⟩ | ⟨a, b, xs, ys, rfl, rfl, hab, hl, hz, hr2⟩
      · refine ⟨_, pss_cons (ps_if (PW.pt (pw_or (pt_val (pe_callB call_isi (by rfl) T.z_isinstance (by decide +kernel) (pa_cons (pv 0) (pa_cons (pe_bltn (v := .ty "bool") (by rfl) T.z_bool (by decide +kernel) rfl) pa_nil)))) (pw_or1 (pt_val (pe_callB call_isi (by rfl) T.z_isinstance (by decide +kernel) (pa_cons (pv 1) (pa_cons (pe_bltn (v := .ty "bool") (by rfl) T.z_bool (by decide +kernel) rfl) pa_nil))))))) (pss_one ps_never) (pss_nil))
          (pss_cons (ps_if (PW.pt (pw_or (pt_cmpR op_isN (pv 0) pe_non (nomark _)) (pw_or1 (pt_cmpR op_isN (pv 1) pe_non (nomark _))))) (pss_one ps_never) (pss_nil))
          (pss_cons (ps_if (pt_val (pe_callB call_isi (by rfl) T.z_isinstance (by decide +kernel) (pa_cons (pv 1) (pa_cons (pe_bltn (v := .ty "int") (by rfl) T.z_int (by decide +kernel) rfl) pa_nil)))) (pss_one (ps_ret (pe_and (pe_callB call_isi (by rfl) T.z_isinstance (by decide +kernel) (pa_cons (pv 0) (pa_cons (pe_bltn (v := .ty "int") (by rfl) T.z_int (by decide +kernel) rfl) pa_nil))) (pe_one (pe_cmpR op_eq (pv 0) (pv 1) (nomark _)))))) (pss_nil))
          (pss_cons ps_never (pss_cons ps_never (pss_cons ps_never (pss_cons ps_never (pss_cons ps_never (pss_one ps_never)))))))), ?_⟩
        refine ⟨_, rfl, _, _, _, _, _, rfl, .ty _, (.base (.int i)), kit_ty (by decide +kernel), ⟨_, rfl, iteF ⟨_, rfl, _, _, _, _, _, rfl, .ty _, (.base (.int i)), kit_ty (by decide +kernel), ⟨_, rfl, iteF ?_⟩⟩⟩⟩
        refine ⟨_, rfl, rfl, _, rfl, iteD (by intro z; cases z) ⟨_, rfl, rfl, _, rfl, iteD (by intro z; cases z) ?_⟩⟩
        refine ⟨_, rfl, _, _, _, _, _, rfl, .ty _, (.base (.int i)), kit_ty (by decide +kernel), ⟨_, rfl, iteT ⟨_, rfl, _, _, _, _, _, rfl, .ty _, (.base (.int i)), kit_ty (by decide +kernel), ⟨_, rfl, iteT ⟨_, rfl, _, rfl, rfl, ?_⟩⟩⟩⟩⟩
        rw [decide_eq_true rfl]
        exact q
      · refine ⟨_, pss_cons (ps_if (PW.pt (pw_or (pt_val (pe_callB call_isi (by rfl) T.z_isinstance (by decide +kernel) (pa_cons (pv 0) (pa_cons (pe_bltn (v := .ty "bool") (by rfl) T.z_bool (by decide +kernel) rfl) pa_nil)))) (pw_or1 (pt_val (pe_callB call_isi (by rfl) T.z_isinstance (by decide +kernel) (pa_cons (pv 1) (pa_cons (pe_bltn (v := .ty "bool") (by rfl) T.z_bool (by decide +kernel) rfl) pa_nil))))))) (pss_one ps_never) (pss_nil))
          (pss_cons (ps_if (PW.pt (pw_or (pt_cmpR op_isN (pv 0) pe_non (nomark _)) (pw_or1 (pt_cmpR op_isN (pv 1) pe_non (nomark _))))) (pss_one ps_never) (pss_nil))
          (pss_cons (ps_if (pt_val (pe_callB call_isi (by rfl) T.z_isinstance (by decide +kernel) (pa_cons (pv 1) (pa_cons (pe_bltn (v := .ty "int") (by rfl) T.z_int (by decide +kernel) rfl) pa_nil)))) (pss_one ps_never) (pss_nil))
          (pss_cons (ps_if (pt_val (pe_callB call_isi (by rfl) T.z_isinstance (by decide +kernel) (pa_cons (pv 1) (pa_cons (pe_bltn (v := .ty "str") (by rfl) T.z_str (by decide +kernel) rfl) pa_nil)))) (pss_one ps_never) (pss_nil))
          (pss_cons (ps_if (PW.pt (pw_and (pt_val (pe_callB call_isi (by rfl) T.z_isinstance (by decide +kernel) (pa_cons (pv 1) (pa_cons (pe_bltn (v := .ty "list") (by rfl) T.z_list (by decide +kernel) rfl) pa_nil)))) (pw_and1 (pt_not (pt_val (pe_callB call_isi (by rfl) T.z_isinstance (by decide +kernel) (pa_cons (pv 0) (pa_cons (pe_bltn (v := .ty "list") (by rfl) T.z_list (by decide +kernel) rfl) pa_nil)))))))) (pss_one ps_never) (pss_nil))
          (pss_cons (ps_if (PW.pt (pw_and (pt_val (pe_callB call_isi (by rfl) T.z_isinstance (by decide +kernel) (pa_cons (pv 1) (pa_cons (pe_bltn (v := .ty "tuple") (by rfl) T.z_tuple (by decide +kernel) rfl) pa_nil)))) (pw_and1 (pt_not (pt_val (pe_callB call_isi (by rfl) T.z_isinstance (by decide +kernel) (pa_cons (pv 0) (pa_cons (pe_bltn (v := .ty "tuple") (by rfl) T.z_tuple (by decide +kernel) rfl) pa_nil)))))))) (pss_one ps_never) (pss_nil))
          (pss_cons (ps_if (pt_cmpR op_ne (pe_callB call_len_seq (by rfl) T.z_len (by decide +kernel) (pa_cons (pv 0) pa_nil)) (pe_callB call_len_seq (by rfl) T.z_len (by decide +kernel) (pa_cons (pv 1) pa_nil)) (nomark _)) (pss_one ps_never) (pss_nil))
          (pss_cons (ps_for PassesOwn.never rfl (pi_range1 (by rfl) T.z_range (pa_cons (pe_callB call_len_seq (by rfl) T.z_len (by decide +kernel) (pa_cons (pv 1) pa_nil)) pa_nil)) (pg_name (i := 2) scSame.nd rfl (.inl rfl))
            (pss_one (ps_if (pt_not (pt_val (pe_call G_law_same hr (by rfl) T.g_law_same T.F_law_same.kp T.b_law_same .nil pass0 (pa_cons (pe_ix ix_seq (pv 0) (pv 2) (fun _ _ => rfl)) (pa_cons (pe_ix ix_seq (pv 1) (pv 2) (fun _ _ => rfl)) pa_nil))))) (pss_one ps_never) (pss_nil))))
          (pss_one (ps_ret pe_bl))))))))), ?_⟩
        obtain ⟨t, ta, tb, kb, ks⟩ : ∃ t : String, TyX K H (.ref a) (.type t) ∧ TyX K H (.ref b) (.type t) ∧ (kitB t "bool" = some false ∧ kitB t "int" = some false ∧ kitB t "str" = some false) ∧ ((kitB t "list" = some true ∧ kitB t "tuple" = some false) ∨ (kitB t "list" = some false ∧ kitB t "tuple" = some true)) := by
          rcases hab with ⟨h1, h2⟩ | ⟨h1, h2⟩
          · exact ⟨"list", .base (.lst h1), .base (.lst h2), ⟨by decide +kernel, by decide +kernel, by decide +kernel⟩, .inl ⟨by decide +kernel, by decide +kernel⟩⟩
          · exact ⟨"tuple", .base (.tup h1), .base (.tup h2), ⟨by decide +kernel, by decide +kernel, by decide +kernel⟩, .inr ⟨by decide +kernel, by decide +kernel⟩⟩
        have sa : SqL K H a xs ∨ SqT K H a xs := hab.elim (fun q => .inl (SqL.of q.1)) (fun q => .inr (SqT.of q.1))
        have sb : SqL K H b ys ∨ SqT K H b ys := hab.elim (fun q => .inl (SqL.of q.2)) (fun q => .inr (SqT.of q.2))
        refine ⟨_, rfl, _, _, _, _, _, rfl, .ty _, ta, kit_ty kb.1, ⟨_, rfl, iteF ⟨_, rfl, _, _, _, _, _, rfl, .ty _, tb, kit_ty kb.1, ⟨_, rfl, iteF ?_⟩⟩⟩⟩
        refine ⟨_, rfl, rfl, _, rfl, iteD (by intro z; cases z) ⟨_, rfl, rfl, _, rfl, iteD (by intro z; cases z) ?_⟩⟩
        refine ⟨_, rfl, _, _, _, _, _, rfl, .ty _, tb, kit_ty kb.2.1, ⟨_, rfl, iteF ⟨_, rfl, _, _, _, _, _, rfl, .ty _, tb, kit_ty kb.2.2, ⟨_, rfl, iteF ?_⟩⟩⟩⟩
        have fin : ∀ {i : Nat} {z : Int} {x y : V}, z = (i : Int) → xs[i]? = some x → ys[i]? = some y → rIx K (.ref a) (.int z) H (fun x' H' => x' = x ∧ H' = H) ∧ rIx K (.ref b) (.int z) H (fun x' H' => x' = y ∧ H' = H) := fun {i z x y} ez hx hy => by
          rcases hab with ⟨h1, h2⟩ | ⟨h1, h2⟩
          · exact ⟨.inl ⟨a, xs, _, x, rfl, rfl, SqL.of h1, at_of ez hx, rfl, rfl⟩, .inl ⟨b, ys, _, y, rfl, rfl, SqL.of h2, at_of ez hy, rfl, rfl⟩⟩
          · exact ⟨.inr (.inl ⟨a, xs, _, x, rfl, rfl, SqT.of h1, at_of ez hx, rfl, rfl⟩), .inr (.inl ⟨b, ys, _, y, rfl, rfl, SqT.of h2, at_of ez hy, rfl, rfl⟩)⟩
        have im : ∀ {x : V} {y : V} {z : V} {Q' : VK}, Q' z H → rIx K x y H (fun x' H' => x' = z ∧ H' = H) → rIx K x y H Q' := fun {x y z Q'} k h => by
          rcases h with ⟨p, zs, i, v, e1, e2, e3, e4, rfl, _⟩ | ⟨p, zs, i, v, e1, e2, e3, e4, rfl, _⟩ | ⟨s, i, c, e1, e2, e3, e4, e5, _⟩
          · exact .inl ⟨p, zs, i, v, e1, e2, e3, e4, k⟩
          · exact .inr (.inl ⟨p, zs, i, v, e1, e2, e3, e4, k⟩)
          · exact .inr (.inr ⟨s, i, c, e1, e2, e3, e4, by rw [e5]; exact k⟩)
        rcases ks with ⟨k1, k2⟩ | ⟨k1, k2⟩
        · refine ⟨_, rfl, _, _, _, _, _, rfl, .ty _, tb, kit_ty k1, _, rfl, iteT ⟨_, rfl, _, _, _, _, _, rfl, .ty _, ta, kit_ty k1, _, rfl, iteF ?_⟩⟩
          refine ⟨_, rfl, _, _, _, _, _, rfl, .ty _, tb, kit_ty k2, _, rfl, iteF (iteF ?_)⟩
          refine ⟨_, rfl, a, _, rfl, sa, _, rfl, b, _, rfl, sb, rfl, _, rfl, iteND (by rw [hl]) ?_⟩
          refine ⟨_, rfl, b, _, rfl, sb, _, rfl, by omega, by omega, for_range (lo := 0) (n := ys.length) (fun _ σ H' => (∃ v, σ = [some (.ref a), some (.ref b), v]) ∧ H' = H) ⟨⟨none, rfl⟩, rfl⟩ ?_ ?_⟩
          · rintro i σ H' hi ⟨⟨v, rfl⟩, rfl⟩
            have hx := List.getElem?_eq_getElem (l := xs) (i := i) (by omega)
            have hy := List.getElem?_eq_getElem (l := ys) (i := i) (by omega)
            have e0 : (0 : Int) + (i : Int) = (i : Int) := by omega
            refine ⟨_, rfl, _, rfl, im ?_ (fin e0 hx hy).1⟩
            refine ⟨_, rfl, _, rfl, im ?_ (fin e0 hx hy).2⟩
            exact ⟨_, _, rfl, hr2 i _ _ hx hy, _, rfl, iteF ⟨⟨_, rfl⟩, rfl⟩⟩
          · rintro σ H' ⟨⟨v, rfl⟩, rfl⟩
            exact q
        · refine ⟨_, rfl, _, _, _, _, _, rfl, .ty _, tb, kit_ty k1, _, rfl, iteF (iteF ?_)⟩
          refine ⟨_, rfl, _, _, _, _, _, rfl, .ty _, tb, kit_ty k2, _, rfl, iteT ⟨_, rfl, _, _, _, _, _, rfl, .ty _, ta, kit_ty k2, _, rfl, iteF ?_⟩⟩
          refine ⟨_, rfl, a, _, rfl, sa, _, rfl, b, _, rfl, sb, rfl, _, rfl, iteND (by rw [hl]) ?_⟩
          refine ⟨_, rfl, b, _, rfl, sb, _, rfl, by omega, by omega, for_range (lo := 0) (n := ys.length) (fun _ σ H' => (∃ v, σ = [some (.ref a), some (.ref b), v]) ∧ H' = H) ⟨⟨none, rfl⟩, rfl⟩ ?_ ?_⟩
          · rintro i σ H' hi ⟨⟨v, rfl⟩, rfl⟩
            have hx := List.getElem?_eq_getElem (l := xs) (i := i) (by omega)
            have hy := List.getElem?_eq_getElem (l := ys) (i := i) (by omega)
            have e0 : (0 : Int) + (i : Int) = (i : Int) := by omega
            refine ⟨_, rfl, _, rfl, im ?_ (fin e0 hx hy).1⟩
            refine ⟨_, rfl, _, rfl, im ?_ (fin e0 hx hy).2⟩
            exact ⟨_, _, rfl, hr2 i _ _ hx hy, _, rfl, iteF ⟨⟨_, rfl⟩, rfl⟩⟩
          · rintro σ H' ⟨⟨v, rfl⟩, rfl⟩
            exact q
end
end D0

namespace D0
open PySem PySem.Spec PyProof.Rows L2 KO
theorem iteNDT {c A B : Prop} [Decidable c] (hc : ¬ c) (h : A) : if (!decide c) = true then A else B := by
  rw [decide_eq_false hc]
  exact iteT h
theorem iteNDs {c A B : Prop} [Decidable c] (h1 : ¬ c → A) (h2 : c → B) : if (!decide c) = true then A else B := by
  by_cases h : c
  · exact iteND h (h2 h)
  · exact iteNDT h (h1 h)
theorem pss_never {X : Cx} {l : List Stmt} : PSs X l (fun _ _ _ => False) := ⟨fun _ _ _ _ _ _ h => h.elim⟩
/-! ### lists of ints as data -/
theorem dp_ints {K : PySem.W.Frag} {H : Hp} : ∀ ns : List Int, DpAll K H (ns.map V.int) (ns.map PyData.int)
  | [] => .nil
  | n :: ns => .cons (.int n) (dp_ints ns)
theorem dp_list {K : PySem.W.Frag} {H : Hp} {a : Addr} {ns : List Int} (h : SqL K H a (ns.map V.int)) : Dp K H (.ref a) (.list (ns.map PyData.int)) := .lst h (dp_ints ns)
theorem can_ints : ∀ ns : List Int, PyData.canLayAll0 (ns.map PyData.int) = true
  | [] => by simp [PyData.canLayAll0]
  | n :: ns => by simp [PyData.canLayAll0, PyData.canLay0, can_ints ns]
theorem dep_ints : ∀ ns : List Int, PyData.depthAll (ns.map PyData.int) = 0
  | [] => by simp [PyData.depthAll]
  | n :: ns => by simp [PyData.depthAll, PyData.depth, dep_ints ns]
theorem sh_ints (ns : List Int) : SeqAt.shaped (.list (ns.map PyData.int)) = true := by
  unfold SeqAt.shaped
  simp [PyData.canLay0, PyData.depth, can_ints, dep_ints]
theorem eqv_all : ∀ ns ms : List Int, PyData.eqvAll (ns.map PyData.int) (ms.map PyData.int) = decide (ns = ms)
  | [], [] => by simp [PyData.eqvAll]
  | [], m :: ms => by simp [PyData.eqvAll]
  | n :: ns, [] => by simp [PyData.eqvAll]
  | n :: ns, m :: ms => by
    show (PyData.eqv (.int n) (.int m) && PyData.eqvAll (ns.map PyData.int) (ms.map PyData.int)) = _
    rw [eqv_all ns ms]
    show (n == m && decide (ns = ms)) = _
    by_cases h : n = m
    · subst h
      simp
    · simp [h]
theorem eqv_ints (ns ms : List Int) : PyData.eqv (.list (ns.map PyData.int)) (.list (ms.map PyData.int)) = decide (ns = ms) := by
  show PyData.eqvAll _ _ = _
  exact eqv_all ns ms
theorem rq_ints {K : PySem.W.Frag} {H : Hp} {a b : Addr} {ns ms : List Int} {Q : VK} (ha : SqL K H a (ns.map V.int)) (hb : SqL K H b (ms.map V.int)) (q : Q (.bl (decide (ns = ms))) H) : rEqD K (.ref a) (.ref b) H Q := by
  refine ⟨_, _, dp_list ha, dp_list hb, sh_ints _, sh_ints _, ?_⟩
  rw [eqv_ints]
  exact q
/-! ### a load as it stands -/
section
variable {P : Program} {w : World} {K : PySem.W.Frag} {mg : Str → Option Value} {base : Heap}
/-- at a an instance of C that shows ns; the list is at l -/
def Ld (C : Addr) (H : Hp) (a l : Addr) (ns : List Int) : Prop := ∃ dx, H a = some (.ins C dx [("_counts", .ref l)]) ∧ H l = some (.lst (ns.map V.int))
theorem Ld.same {C : Addr} {H H' : Hp} {a l : Addr} {ns : List Int} (h : Ld C H a l ns) (s : Same H H') : Ld C H' a l ns := let ⟨dx, h1, h2⟩ := h; ⟨dx, s _ _ h1, s _ _ h2⟩
theorem look_c {l : Addr} : List.lookup ("_counts" : Str) [(("_counts" : Str), V.ref l)] = some (V.ref l) := by simp [List.lookup]
/-! ### the checks -/
def spClen (C : Addr) : Sp := fun vs H Q E => ∃ n : Int, vs = [.int n] ∧ (1 ≤ n ∧ n ≤ 60 → Q .non H) ∧ (¬ (1 ≤ n ∧ n ≤ 60) → E (.ref C) none H)
theorem scClen : FnScope ["length"] ["length"] (defScope sClen) := ⟨rfl, rfl, rfl, by decide +kernel, rfl, by decide +kernel, by decide +kernel⟩
theorem ok_clen (T : Tx K mg) : FnOk P w K mg base (L2.CX P w) 1 T.fcheck_length T.dcheck_length ["length"] (spClen T.C_BadLoad) := by
  refine T.Fcheck_length.okX scClen (fun vs H Q E h => ?_) (fun cdv A outer s H vs Q E hr h => ?_)
  · obtain ⟨n, rfl, _⟩ := h
    rfl
  · obtain ⟨n, rfl, q1, q2⟩ := h
    refine ⟨_, pss_one (ps_if (pt_not (pt_chain op_le op_le pe_int (pv 0) (pe_glob (v := .int 60) rfl T.c_MOST_LENGTH ⟨_, rfl⟩))) (pss_one (ps_raise rfl (takes_of rfl rfl rfl rfl) (pmk_own0 PySem.F.excBase_ValueError T.xo_BadLoad T.g_BadLoad T.kp_BadLoad (raises_own T.bs_BadLoad T.ty_BadLoad) (by rfl)))) (pss_nil)), ?_⟩
    refine ⟨_, rfl, _, _, rfl, rfl, _, rfl, ?_⟩
    refine iteDs (fun h1 => ⟨_, _, rfl, rfl, _, rfl, ?_⟩) (fun h1 => ⟨_, rfl, ?_⟩)
    · by_cases h2 : n ≤ 60
      · exact iteND h2 (q1 ⟨h1, h2⟩)
      · refine iteNDT h2 (q2 fun h => h2 h.2)
    · exact q2 fun h => h1 h.1
def spClst (C : Addr) : Sp := fun vs H Q E => ∃ n m : Int, vs = [.int n, .int m] ∧ (m ≤ n → Q .non H) ∧ (n < m → E (.ref C) none H)
theorem scClst : FnScope ["number", "least"] ["number", "least"] (defScope sClst) := ⟨rfl, rfl, rfl, by decide +kernel, rfl, by decide +kernel, by decide +kernel⟩
theorem ok_clst (T : Tx K mg) : FnOk P w K mg base (L2.CX P w) 1 T.fcheck_least T.dcheck_least ["number", "least"] (spClst T.C_BadLoad) := by
  refine T.Fcheck_least.okX scClst (fun vs H Q E h => ?_) (fun cdv A outer s H vs Q E hr h => ?_)
  · obtain ⟨n, m, rfl, _⟩ := h
    rfl
  · obtain ⟨n, m, rfl, q1, q2⟩ := h
    refine ⟨_, pss_one (ps_if (pt_cmpR op_lt (pv 0) (pv 1) (nomark _)) (pss_one (ps_raise rfl (takes_of rfl rfl rfl rfl) (pmk_own0 PySem.F.excBase_ValueError T.xo_BadLoad T.g_BadLoad T.kp_BadLoad (raises_own T.bs_BadLoad T.ty_BadLoad) (by rfl)))) (pss_nil)), ?_⟩
    refine ⟨_, rfl, _, rfl, _, _, rfl, rfl, _, rfl, ?_⟩
    exact iteDs (fun h1 => q2 h1) (fun h1 => q1 (by omega))
/-! ### the methods that only look -/
def spLen (C : Addr) : Sp := fun vs H Q _ => ∃ a l ns, vs = [.ref a] ∧ Ld C H a l ns ∧ Q (.int ns.length) H
theorem scLen : FnScope ["self"] ["self"] (defScope sLen) := ⟨rfl, rfl, rfl, by decide +kernel, rfl, by decide +kernel, by decide +kernel⟩
theorem ok_len (T : Tx K mg) : FnOk P w K mg base CX0 1 T.fLoad_len T.dLoad_len ["self"] (spLen T.C_Load) := by
  refine T.FLoad_len.ok scLen (fun vs H Q E h => ?_) (fun cdv A outer s H vs Q E hr h => ?_)
  · obtain ⟨a, l, ns, rfl, _⟩ := h
    rfl
  · obtain ⟨a, l, ns, rfl, ⟨dx, ha, hl⟩, q⟩ := h
    refine ⟨_, pss_one (ps_ret (pe_callB call_len_seq (by rfl) T.z_len (by decide +kernel) (pa_cons (pe_fld (pv 0) rfl) pa_nil))), ?_⟩
    refine ⟨_, rfl, a, T.C_Load, dx, _, _, rfl, ha, T.cl_Load, T.na_Load__counts, look_c, l, _, rfl, .inl (SqL.of hl), ?_⟩
    rw [List.length_map]
    exact q
def spIter (C : Addr) : Sp := fun vs H Q _ => ∃ a l ns, vs = [.ref a] ∧ Ld C H a l ns ∧ ∀ it, H it = none → Q (.ref it) (upd H it (ItO l it 0))
theorem scIter : FnScope ["self"] ["self"] (defScope sIter) := ⟨rfl, rfl, rfl, by decide +kernel, rfl, by decide +kernel, by decide +kernel⟩
theorem ok_iter (T : Tx K mg) : FnOk P w K mg base CX0 1 T.fLoad_iter T.dLoad_iter ["self"] (spIter T.C_Load) := by
  refine T.FLoad_iter.ok scIter (fun vs H Q E h => ?_) (fun cdv A outer s H vs Q E hr h => ?_)
  · obtain ⟨a, l, ns, rfl, _⟩ := h
    rfl
  · obtain ⟨a, l, ns, rfl, ⟨dx, ha, hl⟩, q⟩ := h
    refine ⟨_, pss_one (ps_ret (pe_callB call_iterL (by rfl) T.z_iter (by decide +kernel) (pa_cons (pe_fld (pv 0) rfl) pa_nil))), ?_⟩
    exact ⟨_, rfl, a, T.C_Load, dx, _, _, rfl, ha, T.cl_Load, T.na_Load__counts, look_c, l, _, rfl, SqL.of hl, q⟩
/-- the count at a minute -/
def inL (ns : List Int) (i : Int) : Prop := 0 ≤ i ∧ i < ns.length
def spCon (C : Addr) : Sp := fun vs H Q _ => ∃ (a l : Addr) (ns : List Int) (i : Int), vs = [.ref a, .int i] ∧ Ld C H a l ns ∧ (¬ inL ns i → Q (.bl false) H) ∧ (inL ns i → ∀ c, ns[i.toNat]? = some c → Q (.bl (!decide (c = 0))) H)
theorem scCon : FnScope ["self", "x"] ["self", "x"] (defScope sCon) := ⟨rfl, rfl, rfl, by decide +kernel, rfl, by decide +kernel, by decide +kernel⟩
theorem at_of {ns : List Int} {i c : Int} (h : inL ns i) (hc : ns[i.toNat]? = some c) : atI (ns.map V.int) i = some (.int c) := by
  obtain ⟨n, rfl⟩ := Int.eq_ofNat_of_zero_le h.1
  exact atI_nat (by rw [List.getElem?_map]; rw [show ((n : Int).toNat) = n from rfl] at hc; rw [hc]; rfl)
theorem in_get {ns : List Int} {i : Int} (h : inL ns i) : ∃ c, ns[i.toNat]? = some c := by
  obtain ⟨h1, h2⟩ := h
  exact ⟨_, List.getElem?_eq_getElem (by omega)⟩
theorem ok_con (T : Tx K mg) : FnOk P w K mg base CX0 1 T.fLoad_contains T.dLoad_contains ["self", "x"] (spCon T.C_Load) := by
  refine T.FLoad_contains.ok scCon (fun vs H Q E h => ?_) (fun cdv A outer s H vs Q E hr h => ?_)
  · obtain ⟨a, l, ns, i, rfl, _⟩ := h
    rfl
  · obtain ⟨a, l, ns, i, rfl, ⟨dx, ha, hl⟩, q1, q2⟩ := h
    refine ⟨_, pss_one (ps_ret (pe_and (pe_chain op_le op_lt pe_int (pv 1) (pe_callB call_len_seq (by rfl) T.z_len (by decide +kernel) (pa_cons (pe_fld (pv 0) rfl) pa_nil))) (pe_one (pe_cmpR op_ne (pe_ix ix_list (pe_fld (pv 0) rfl) (pv 1) (fun _ _ => rfl)) pe_int (nomark _))))), ?_⟩
    refine ⟨_, rfl, _, _, rfl, rfl, _, rfl, ?_⟩
    refine iteDs (fun h1 => ?_) (fun h1 => ⟨_, rfl, iteF (q1 fun h => h1 h.1)⟩)
    refine ⟨_, rfl, a, T.C_Load, dx, _, _, rfl, ha, T.cl_Load, T.na_Load__counts, look_c, l, _, rfl, .inl (SqL.of hl), _, _, rfl, rfl, _, rfl, ?_⟩
    rw [List.length_map]
    refine iteDs (fun h2 => ?_) (fun h2 => q1 fun h => h2 h.2)
    obtain ⟨c, hc⟩ := in_get (ns := ns) (i := i) ⟨h1, h2⟩
    refine ⟨_, rfl, a, T.C_Load, dx, _, _, rfl, ha, T.cl_Load, T.na_Load__counts, look_c, _, rfl, l, _, _, _, rfl, rfl, SqL.of hl, at_of ⟨h1, h2⟩ hc, rfl, ?_⟩
    have e : decide (V.int c = V.int 0) = decide (c = 0) := by
      by_cases h : c = 0 <;> simp [h]
    show Q (.bl (!decide (V.int c = V.int 0))) H
    rw [e]
    exact q2 ⟨h1, h2⟩ c hc
def spBoo (C : Addr) : Sp := fun vs H Q _ => ∃ a l ns, vs = [.ref a] ∧ Ld C H a l ns ∧ Q (.bl (ns.any fun n => n != 0)) H
theorem scBoo : FnScope ["self"] ["self"] (defScope sBoo) := ⟨rfl, rfl, rfl, by decide +kernel, rfl, by decide +kernel, by decide +kernel⟩
theorem ok_boo (T : Tx K mg) : FnOk P w K mg base CX0 1 T.fLoad_bool T.dLoad_bool ["self"] (spBoo T.C_Load) := by
  refine T.FLoad_bool.ok scBoo (fun vs H Q E h => ?_) (fun cdv A outer s H vs Q E hr h => ?_)
  · obtain ⟨a, l, ns, rfl, _⟩ := h
    rfl
  · obtain ⟨a, l, ns, rfl, ⟨dx, ha, hl⟩, q⟩ := h
    refine ⟨_, pss_one (ps_ret (pe_callB (cr_anyI rfl) (by rfl) T.z_any (by decide +kernel) (pa_cons (pe_fld (pv 0) rfl) pa_nil))), ?_⟩
    exact ⟨_, rfl, a, T.C_Load, dx, _, _, rfl, ha, T.cl_Load, T.na_Load__counts, look_c, l, _, rfl, SqL.of hl, q⟩
def spAbs (C : Addr) : Sp := fun vs H Q _ => ∃ a l ns, vs = [.ref a] ∧ Ld C H a l ns ∧ Q (.int ns.sum) H
theorem scAbs : FnScope ["self"] ["self"] (defScope sAbs) := ⟨rfl, rfl, rfl, by decide +kernel, rfl, by decide +kernel, by decide +kernel⟩
theorem ok_abs (T : Tx K mg) : FnOk P w K mg base CX0 1 T.fLoad_abs T.dLoad_abs ["self"] (spAbs T.C_Load) := by
  refine T.FLoad_abs.ok scAbs (fun vs H Q E h => ?_) (fun cdv A outer s H vs Q E hr h => ?_)
  · obtain ⟨a, l, ns, rfl, _⟩ := h
    rfl
  · obtain ⟨a, l, ns, rfl, ⟨dx, ha, hl⟩, q⟩ := h
    refine ⟨_, pss_one (ps_ret (pe_callB (cr_sum rfl) (by rfl) T.z_sum (by decide +kernel) (pa_cons (pe_fld (pv 0) rfl) pa_nil))), ?_⟩
    exact ⟨_, rfl, a, T.C_Load, dx, _, _, rfl, ha, T.cl_Load, T.na_Load__counts, look_c, l, _, rfl, SqL.of hl, q⟩
def spEq (C : Addr) : Sp := fun vs H Q _ => ∃ a l ns b m ms, vs = [.ref a, .ref b] ∧ Ld C H a l ns ∧ Ld C H b m ms ∧ Q (.bl (decide (ns = ms))) H
theorem scEq : FnScope ["self", "other"] ["self", "other"] (defScope sEq) := ⟨rfl, rfl, rfl, by decide +kernel, rfl, by decide +kernel, by decide +kernel⟩
theorem ok_eq (T : Tx K mg) : FnOk P w K mg base CX0 1 T.fLoad_eq T.dLoad_eq ["self", "other"] (spEq T.C_Load) := by
  refine T.FLoad_eq.ok scEq (fun vs H Q E h => ?_) (fun cdv A outer s H vs Q E hr h => ?_)
  · obtain ⟨a, l, ns, b, m, ms, rfl, _⟩ := h
    rfl
  · obtain ⟨a, l, ns, b, m, ms, rfl, ⟨dx, ha, hl⟩, ⟨dy, hb, hm⟩, q⟩ := h
    refine ⟨_, pss_one (ps_ret (pe_and (pe_callB call_isi (by rfl) T.z_isinstance (by decide +kernel) (pa_cons (pv 1) (pa_cons (pe_glob (v := .ref T.C_Load) rfl T.g_Load rfl) pa_nil))) (pe_one (pe_cmpR (op_eqD hr.units) (pe_fld (pv 0) rfl) (pe_fld (pv 1) rfl) (nomark _))))), ?_⟩
    refine ⟨_, rfl, _, .ref T.C_Load, .ref T.C_Load, .ref T.C_Load, true, rfl, .own _, .base (.ins hb T.cl_Load T.ic_Load T.sp_class T.tk_class T.mr_Load), by unfold PySem.W.kitOne; simp, _, rfl, iteT ?_⟩
    refine ⟨_, rfl, a, T.C_Load, dx, _, _, rfl, ha, T.cl_Load, T.na_Load__counts, look_c, _, rfl, b, T.C_Load, dy, _, _, rfl, hb, T.cl_Load, T.na_Load__counts, look_c, ?_⟩
    exact rq_ints (SqL.of hl) (SqL.of hm) q
end
end D0

namespace D0
open PySem PySem.Spec PyProof.Rows L2 KO
theorem ixN_nat' {n j : Nat} (hj : j < n) : ixN n (j : Int) = some j := by
  unfold ixN
  rw [if_pos (by omega), if_pos (by omega)]
  rfl
section
variable {P : Program} {w : World} {K : PySem.W.Frag} {mg : Str → Option Value} {base : Heap}
/-! ### the methods that refuse -/
def spCmin (C B : Addr) : Sp := fun vs H Q E => ∃ (a l : Addr) (ns : List Int) (i : Int), vs = [.ref a, .int i] ∧ Ld C H a l ns ∧ (inL ns i → Q .non H) ∧ (¬ inL ns i → E (.ref B) none H)
theorem scCmin : FnScope ["self", "minute"] ["self", "minute"] (defScope sCmin) := ⟨rfl, rfl, rfl, by decide +kernel, rfl, by decide +kernel, by decide +kernel⟩
theorem ok_cmin (T : Tx K mg) : FnOk P w K mg base (L2.CX P w) 1 T.fLoad_check_minute T.dLoad_check_minute ["self", "minute"] (spCmin T.C_Load T.C_BadLoad) := by
  refine T.FLoad_check_minute.okX scCmin (fun vs H Q E h => ?_) (fun cdv A outer s H vs Q E hr h => ?_)
  · obtain ⟨a, l, ns, i, rfl, _⟩ := h
    rfl
  · obtain ⟨a, l, ns, i, rfl, ⟨dx, ha, hl⟩, q1, q2⟩ := h
    refine ⟨_, pss_one (ps_if (pt_not (pt_chain op_le op_lt pe_int (pv 1) (pe_callB call_len_seq (by rfl) T.z_len (by decide +kernel) (pa_cons (pe_fld (pv 0) rfl) pa_nil)))) (pss_one (ps_raise rfl (takes_of rfl rfl rfl rfl) (pmk_own0 PySem.F.excBase_ValueError T.xo_BadLoad T.g_BadLoad T.kp_BadLoad (raises_own T.bs_BadLoad T.ty_BadLoad) (by rfl)))) (pss_nil)), ?_⟩
    refine ⟨_, rfl, _, _, rfl, rfl, _, rfl, ?_⟩
    refine iteDs (fun h1 => ?_) (fun h1 => ⟨_, rfl, q2 fun h => h1 h.1⟩)
    refine ⟨_, rfl, a, T.C_Load, dx, _, _, rfl, ha, T.cl_Load, T.na_Load__counts, look_c, l, _, rfl, .inl (SqL.of hl), _, _, rfl, rfl, _, rfl, ?_⟩
    rw [List.length_map]
    exact iteNDs (fun h2 => q2 fun h => h2 h.2) (fun h2 => q1 ⟨h1, h2⟩)
def spGet (C B : Addr) : Sp := fun vs H Q E => ∃ (a l : Addr) (ns : List Int) (i : Int), vs = [.ref a, .int i] ∧ Ld C H a l ns ∧ (inL ns i → ∀ c, ns[i.toNat]? = some c → Q (.int c) H) ∧ (¬ inL ns i → E (.ref B) none H)
theorem scGet : FnScope ["self", "at"] ["self", "at"] (defScope sGet) := ⟨rfl, rfl, rfl, by decide +kernel, rfl, by decide +kernel, by decide +kernel⟩
theorem ok_get (T : Tx K mg) : FnOk P w K mg base (L2.CX P w) 2 T.fLoad_getitem T.dLoad_getitem ["self", "at"] (spGet T.C_Load T.C_BadLoad) := by
  have G := ok_cmin (P := P) (w := w) (base := base) T
  refine T.FLoad_getitem.okX scGet (fun vs H Q E h => ?_) (fun cdv A outer s H vs Q E hr h => ?_)
  · obtain ⟨a, l, ns, i, rfl, _⟩ := h
    rfl
  · obtain ⟨a, l, ns, i, rfl, L, q1, q2⟩ := h
    refine ⟨_, pss_cons (ps_expr (pe_meth (pv 0) T.cl_Load T.m_Load_check_minute G hr T.bLoad_check_minute .nil (passes_call (takes_of rfl rfl rfl rfl) (fun _ _ _ _ h => h)) (pa_cons (pv 1) pa_nil)))
      (pss_one (ps_ret (pe_ix ix_list (pe_fld (pv 0) rfl) (pv 1) (fun _ _ => rfl)))), ?_⟩
    obtain ⟨dx, ha, hl⟩ := id L
    refine ⟨_, rfl, a, dx, _, rfl, ha, rfl, _, rfl, a, l, ns, i, rfl, L, fun h1 => ?_, q2⟩
    obtain ⟨c, hc⟩ := in_get h1
    exact ⟨_, rfl, a, T.C_Load, dx, _, _, rfl, ha, T.cl_Load, T.na_Load__counts, look_c, _, rfl, l, _, _, _, rfl, rfl, SqL.of hl, at_of h1 hc, q1 h1 c hc⟩
def spPut (C B : Addr) : Sp := fun vs H Q E => ∃ (a l : Addr) (ns : List Int) (i c : Int), vs = [.ref a, .int i, .int c] ∧ Ld C H a l ns ∧ (inL ns i ∧ 0 ≤ c → Q .non (upd H l (.lst ((ns.set i.toNat c).map V.int)))) ∧ (¬ (inL ns i ∧ 0 ≤ c) → E (.ref B) none H)
theorem scPut : FnScope ["self", "minute", "count"] ["self", "minute", "count"] (defScope sPut) := ⟨rfl, rfl, rfl, by decide +kernel, rfl, by decide +kernel, by decide +kernel⟩
theorem ok_put (T : Tx K mg) : FnOk P w K mg base (L2.CX P w) 2 T.fLoad_put T.dLoad_put ["self", "minute", "count"] (spPut T.C_Load T.C_BadLoad) := by
  have G := ok_cmin (P := P) (w := w) (base := base) T
  have Gcheck_least := ok_clst (P := P) (w := w) (base := base) T
  refine T.FLoad_put.okX scPut (fun vs H Q E h => ?_) (fun cdv A outer s H vs Q E hr h => ?_)
  · obtain ⟨a, l, ns, i, c, rfl, _⟩ := h
    rfl
  · obtain ⟨a, l, ns, i, c, rfl, L, q1, q2⟩ := h
    refine ⟨_, pss_cons (ps_expr (pe_meth (pv 0) T.cl_Load T.m_Load_check_minute G hr T.bLoad_check_minute .nil (passes_call (takes_of rfl rfl rfl rfl) (fun _ _ _ _ h => h)) (pa_cons (pv 1) pa_nil)))
      (pss_cons (ps_expr (pe_call Gcheck_least hr (by rfl) T.gcheck_least T.Fcheck_least.kp T.bcheck_least .nil (passes_call (takes_of rfl rfl rfl rfl) (fun _ _ _ _ h => h)) (pa_cons (pv 2) (pa_cons pe_int pa_nil))))
      (pss_one (ps_asg (pv 2) (pg_sub (pe_fld (pv 0) rfl) (pv 1) set_list)))), ?_⟩
    obtain ⟨dx, ha, hl⟩ := id L
    refine ⟨_, rfl, a, dx, _, rfl, ha, rfl, _, rfl, a, l, ns, i, rfl, L, fun h1 => ?_, fun h1 => q2 fun h => h1 h.1⟩
    refine ⟨_, rfl, c, 0, rfl, fun h2 => ?_, fun h2 => q2 fun h => by have := h.2; omega⟩
    have hq := q1 ⟨h1, h2⟩
    rw [List.map_set] at hq
    obtain ⟨h3, h4⟩ := id h1
    refine ⟨_, rfl, _, rfl, a, T.C_Load, dx, _, _, rfl, ha, T.cl_Load, T.na_Load__counts, look_c, _, rfl, l, _, _, i.toNat, rfl, rfl, hl, ?_, hq⟩
    rw [List.length_map]
    obtain ⟨n, rfl⟩ := Int.eq_ofNat_of_zero_le h3
    exact ixN_nat' (by omega)
theorem scSet : FnScope ["self", "at", "worth"] ["self", "at", "worth"] (defScope sSet) := ⟨rfl, rfl, rfl, by decide +kernel, rfl, by decide +kernel, by decide +kernel⟩
theorem ok_set (T : Tx K mg) : FnOk P w K mg base (L2.CX P w) 3 T.fLoad_setitem T.dLoad_setitem ["self", "at", "worth"] (spPut T.C_Load T.C_BadLoad) := by
  have G := ok_put (P := P) (w := w) (base := base) T
  refine T.FLoad_setitem.okX scSet (fun vs H Q E h => ?_) (fun cdv A outer s H vs Q E hr h => ?_)
  · obtain ⟨a, l, ns, i, c, rfl, _⟩ := h
    rfl
  · obtain ⟨a, l, ns, i, c, rfl, L, q1, q2⟩ := h
    refine ⟨_, pss_one (ps_expr (pe_meth (pv 0) T.cl_Load T.m_Load_put G hr T.bLoad_put .nil (passes_call (takes_of rfl rfl rfl rfl) (fun _ _ _ _ h => h)) (pa_cons (pv 1) (pa_cons (pv 2) pa_nil)))), ?_⟩
    obtain ⟨dx, ha, hl⟩ := id L
    exact ⟨_, rfl, a, dx, _, rfl, ha, rfl, _, rfl, _, rfl, a, l, ns, i, c, rfl, L, q1, q2⟩
def good (ns : List Int) : Prop := (1 ≤ ns.length ∧ ns.length ≤ 60) ∧ ∀ n ∈ ns, 0 ≤ n
def spInit (K : PySem.W.Frag) (C B : Addr) : Sp := fun vs H Q E => ∃ (x dx c : Addr) (ns : List Int), vs = [.ref x, .ref c] ∧ H x = some (.ins C dx []) ∧ (SqL K H c (ns.map V.int) ∨ SqT K H c (ns.map V.int)) ∧
  (good ns → ∀ l, H l = none → Q .non (upd (upd H l (.lst (ns.map V.int))) x (.ins C dx [("_counts", .ref l)]))) ∧ (¬ good ns → E (.ref B) none H)
theorem scInit : FnScope ["self", "counts"] ["self", "counts"] (defScope sInit) := ⟨rfl, rfl, rfl, by decide +kernel, rfl, by decide +kernel, by decide +kernel⟩
theorem ok_init (T : Tx K mg) : FnOk P w K mg base (L2.CX P w) 2 T.fLoad_init T.dLoad_init ["self", "counts"] (spInit K T.C_Load T.C_BadLoad) := by
  have Gcheck_length := ok_clen (P := P) (w := w) (base := base) T
  have Gcheck_least := ok_clst (P := P) (w := w) (base := base) T
  refine T.FLoad_init.okX scInit (fun vs H Q E h => ?_) (fun cdv A outer s H vs Q E hr h => ?_)
  · obtain ⟨x, dx, c, ns, rfl, _⟩ := h
    rfl
  · obtain ⟨x, dx, c, ns, rfl, hx, hc, q1, q2⟩ := h
    refine ⟨_, pss_cons (ps_expr (pe_call Gcheck_length hr (by rfl) T.gcheck_length T.Fcheck_length.kp T.bcheck_length .nil (passes_call (takes_of rfl rfl rfl rfl) (fun _ _ _ _ h => h)) (pa_cons (pe_callB call_len_seq (by rfl) T.z_len (by decide +kernel) (pa_cons (pv 1) pa_nil)) pa_nil)))
      (pss_cons (ps_expr (pe_call Gcheck_least hr (by rfl) T.gcheck_least T.Fcheck_least.kp T.bcheck_least .nil (passes_call (takes_of rfl rfl rfl rfl) (fun _ _ _ _ h => h)) (pa_cons (pe_callB (cr_minS rfl) (by rfl) T.z_min (by decide +kernel) (pa_cons (pv 1) pa_nil)) (pa_cons pe_int pa_nil))))
      (pss_one (ps_fld (pv 0) (pe_callTy (T := "list") call_list_of (by rfl) T.z_list (by decide +kernel) (pa_cons (pv 1) pa_nil)) rfl))), ?_⟩
    refine ⟨_, rfl, c, _, rfl, hc, ns.length, ?_, fun h1 => ?_, fun h1 => q2 fun h => h1 ⟨by have := h.1.1; omega, by have := h.1.2; omega⟩⟩
    · rw [List.length_map]
      rfl
    refine ⟨_, rfl, c, ns, rfl, hc, by omega, fun m hm hle => ⟨m, 0, rfl, fun h2 => ?_, fun h2 => q2 fun h => ?_⟩⟩
    · have hg : good ns := ⟨⟨by omega, by omega⟩, fun n hn => by have := hle n hn; omega⟩
      refine ⟨_, rfl, c, _, rfl, hc, fun l hl => ⟨_, rfl, x, T.C_Load, dx, [], rfl, ?_, T.cl_Load, T.na_Load__counts, (by show 0 < 1000; decide), q1 hg l hl⟩⟩
      rw [upd_ne (ne_of_none hx hl)]
      exact hx
    · have := h.2 m hm
      omega
end
end D0

namespace D0
open PySem PySem.Spec PyProof.Rows L2 KO
theorem Pool.eq {H H' : Hp} {p l : Addr} (h : ∀ b, b ≠ p → H' b = H b) (hl : l ≠ p) {o : HO} (e : H l = some o) : H' l = some o := by
  rw [h l hl]
  exact e
theorem But.eq {H H' : Hp} {p : Addr} (h : ∀ b, b ≠ p → H' b = H b) : But p H H' := fun b o n e => by
  rw [h b n]
  exact e
/-- but for p nothing is changed, and nothing is new -/
def Eqp (p : Addr) (H H' : Hp) : Prop := ∀ b, b ≠ p → H' b = H b
theorem Eqp.refl (p : Addr) (H : Hp) : Eqp p H H := fun _ _ => rfl
theorem Eqp.trans {p : Addr} {H H1 H2 : Hp} (a : Eqp p H H1) (b : Eqp p H1 H2) : Eqp p H H2 := fun c h => (b c h).trans (a c h)
section
variable {P : Program} {w : World} {K : PySem.W.Frag} {mg : Str → Option Value} {base : Heap}
/-! ### draws -/
def spSize : Sp := fun vs H Q _ => ∃ p : Addr, vs = [.ref p] ∧ Pool H p ∧ ∀ H' (n : Int), 1 ≤ n → n ≤ 60 → Pool H' p → Eqp p H H' → Q (.int n) H'
theorem scSize : FnScope ["_law_pool_here"] ["_law_pool_here"] (defScope sSize) := ⟨rfl, rfl, rfl, by decide +kernel, rfl, by decide +kernel, by decide +kernel⟩
theorem ok_size (T : Tx K mg) : FnOk P w K mg base CX0 2 T.f_law_size T.d_law_size ["_law_pool_here"] spSize := by
  have G_law_take := ok_take (P := P) (w := w) (base := base) T
  refine T.F_law_size.ok scSize (fun vs H Q E h => ?_) (fun cdv A outer s H vs Q E hr h => ?_)
  · obtain ⟨p, rfl, _⟩ := h
    rfl
  · obtain ⟨p, rfl, hp, q⟩ := h
    refine ⟨_, pss_cons (ps_if (pt_cmpR op_eq (pe_call G_law_take hr (by rfl) T.g_law_take T.F_law_take.kp T.b_law_take .nil pass0 (pa_cons (pv 0) (pa_cons pe_int pa_nil))) pe_int (nomark _)) (pss_one (ps_ret (pe_op op_add pe_int (pe_call G_law_take hr (by rfl) T.g_law_take T.F_law_take.kp T.b_law_take .nil pass0 (pa_cons (pv 0) (pa_cons pe_int pa_nil)))))) (pss_nil))
      (pss_one (ps_ret (pe_op op_add pe_int (pe_call G_law_take hr (by rfl) T.g_law_take T.F_law_take.kp T.b_law_take .nil pass0 (pa_cons (pv 0) (pa_cons pe_int pa_nil)))))), ?_⟩
    refine ⟨_, rfl, p, _, rfl, hp, by decide, by decide, fun H1 r _ _ hp1 k1 => ⟨rfl, _, rfl, iteDs (fun _ => ?_) (fun _ => ?_)⟩⟩
    · refine ⟨_, rfl, p, _, rfl, hp1, by decide, by decide, fun H2 r2 h0 h1 hp2 k2 => ⟨_, _, rfl, rfl, ?_⟩⟩
      exact q _ _ (by omega) (by omega) hp2 (Eqp.trans k1 k2)
    · refine ⟨_, rfl, p, _, rfl, hp1, by decide, by decide, fun H2 r2 h0 h1 hp2 k2 => ⟨_, _, rfl, rfl, ?_⟩⟩
      exact q _ _ (by omega) (by omega) hp2 (Eqp.trans k1 k2)
def spCount : Sp := fun vs H Q _ => ∃ p : Addr, vs = [.ref p] ∧ Pool H p ∧ ∀ H' (n : Int), 0 ≤ n → Pool H' p → Eqp p H H' → Q (.int n) H'
theorem scCount : FnScope ["_law_pool_here"] ["_law_pool_here"] (defScope sCount) := ⟨rfl, rfl, rfl, by decide +kernel, rfl, by decide +kernel, by decide +kernel⟩
theorem ok_count (T : Tx K mg) : FnOk P w K mg base CX0 2 T.f_law_count T.d_law_count ["_law_pool_here"] spCount := by
  have G_law_take := ok_take (P := P) (w := w) (base := base) T
  refine T.F_law_count.ok scCount (fun vs H Q E h => ?_) (fun cdv A outer s H vs Q E hr h => ?_)
  · obtain ⟨p, rfl, _⟩ := h
    rfl
  · obtain ⟨p, rfl, hp, q⟩ := h
    refine ⟨_, pss_cons (ps_if (pt_cmpR op_eq (pe_call G_law_take hr (by rfl) T.g_law_take T.F_law_take.kp T.b_law_take .nil pass0 (pa_cons (pv 0) (pa_cons pe_int pa_nil))) pe_int (nomark _)) (pss_one (ps_ret (pe_call G_law_take hr (by rfl) T.g_law_take T.F_law_take.kp T.b_law_take .nil pass0 (pa_cons (pv 0) (pa_cons (pe_op op_add (pe_op op_pow pe_int pe_int) pe_int) pa_nil))))) (pss_nil))
      (pss_one (ps_ret (pe_call G_law_take hr (by rfl) T.g_law_take T.F_law_take.kp T.b_law_take .nil pass0 (pa_cons (pv 0) (pa_cons pe_int pa_nil))))), ?_⟩
    refine ⟨_, rfl, p, _, rfl, hp, by decide, by decide, fun H1 r _ _ hp1 k1 => ⟨rfl, _, rfl, iteDs (fun _ => ?_) (fun _ => ?_)⟩⟩
    · refine ⟨_, rfl, _, _, rfl, rfl, ⟨by decide, by decide, by decide⟩, _, _, rfl, rfl, p, _, rfl, hp1, by decide, by decide, fun H2 r2 h0 h1 hp2 k2 => ?_⟩
      exact q _ _ (by omega) hp2 (Eqp.trans k1 k2)
    · refine ⟨_, rfl, p, _, rfl, hp1, by decide, by decide, fun H2 r2 h0 h1 hp2 k2 => ?_⟩
      exact q _ _ (by omega) hp2 (Eqp.trans k1 k2)
def spMin : Sp := fun vs H Q _ => ∃ (p : Addr) (n : Int), vs = [.ref p, .int n] ∧ Pool H p ∧ 1 ≤ n ∧ n ≤ 60 ∧ ∀ H' (i : Int), Pool H' p → Eqp p H H' → Q (.int i) H'
theorem scMin : FnScope ["_law_pool_here", "_law_size_here", "_law_way"] ["_law_pool_here", "_law_size_here"] (defScope sMin) := ⟨rfl, rfl, rfl, by decide +kernel, rfl, by decide +kernel, by decide +kernel⟩
theorem ok_min (T : Tx K mg) : FnOk P w K mg base CX0 2 T.f_law_minute T.d_law_minute ["_law_pool_here", "_law_size_here"] spMin := by
  have G_law_take := ok_take (P := P) (w := w) (base := base) T
  refine T.F_law_minute.ok scMin (fun vs H Q E h => ?_) (fun cdv A outer s H vs Q E hr h => ?_)
  · obtain ⟨p, n, rfl, _⟩ := h
    rfl
  · obtain ⟨p, n, rfl, hp, n1, n2, q⟩ := h
    refine ⟨_, pss_cons (ps_set (i := 2) scMin.nd rfl (.inl rfl) (pe_call G_law_take hr (by rfl) T.g_law_take T.F_law_take.kp T.b_law_take .nil pass0 (pa_cons (pv 0) (pa_cons pe_int pa_nil))))
      (pss_cons (ps_if (pt_cmpR op_eq (pv 2) pe_int (nomark _)) (pss_one (ps_ret (pe_op op_sub (pe_un un_neg pe_int) (pe_call G_law_take hr (by rfl) T.g_law_take T.F_law_take.kp T.b_law_take .nil pass0 (pa_cons (pv 0) (pa_cons (pe_op op_pow pe_int pe_int) pa_nil)))))) (pss_nil))
      (pss_cons (ps_if (pt_cmpR op_eq (pv 2) pe_int (nomark _)) (pss_one (ps_ret (pe_op op_add (pv 1) (pe_call G_law_take hr (by rfl) T.g_law_take T.F_law_take.kp T.b_law_take .nil pass0 (pa_cons (pv 0) (pa_cons (pe_op op_sub (pe_op op_pow pe_int pe_int) pe_int) pa_nil)))))) (pss_nil))
      (pss_one (ps_ret (pe_op op_sub (pe_call G_law_take hr (by rfl) T.g_law_take T.F_law_take.kp T.b_law_take .nil pass0 (pa_cons (pv 0) (pa_cons (pe_op op_add (pv 1) pe_int) pa_nil))) pe_int))))), ?_⟩
    refine ⟨_, rfl, p, _, rfl, hp, by decide, by decide, fun H1 r _ _ hp1 k1 => ⟨_, rfl, rfl, _, rfl, iteDs (fun _ => ?_) (fun _ => ⟨_, rfl, rfl, _, rfl, iteDs (fun _ => ?_) (fun _ => ?_)⟩)⟩⟩
    · refine ⟨_, rfl, _, rfl, _, _, rfl, rfl, ⟨by decide, by decide, by decide⟩, p, _, rfl, hp1, by decide, by decide, fun H2 r2 h0 h1 hp2 k2 => ⟨_, _, rfl, rfl, ?_⟩⟩
      exact q _ _ hp2 (Eqp.trans k1 k2)
    · refine ⟨_, rfl, _, rfl, _, _, rfl, rfl, ⟨by decide, by decide, by decide⟩, _, _, rfl, rfl, p, _, rfl, hp1, by decide, by decide, fun H2 r2 h0 h1 hp2 k2 => ⟨_, _, rfl, rfl, ?_⟩⟩
      exact q _ _ hp2 (Eqp.trans k1 k2)
    · refine ⟨_, rfl, _, rfl, _, _, rfl, rfl, p, _, rfl, hp1, by omega, by omega, fun H2 r2 h0 h1 hp2 k2 => ⟨_, _, rfl, rfl, ?_⟩⟩
      exact q _ _ hp2 (Eqp.trans k1 k2)
/-! ### the same answer twice -/
def spSameB : Sp := fun vs H Q _ => ∃ x : Bool, vs = [.bl x, .bl x] ∧ Q (.bl true) H
theorem ok_sameB (T : Tx K mg) : FnOk P w K mg base CX0 1 T.f_law_same T.d_law_same ["_law_got", "_law_due"] spSameB := by
  refine T.F_law_same.ok scSame (fun vs H Q E h => ?_) (fun cdv A outer s H vs Q E hr h => ?_)
  · obtain ⟨x, rfl, _⟩ := h
    rfl
  · obtain ⟨x, rfl, q⟩ := h
    refine ⟨_, pss_cons (ps_if (PW.pt (pw_or (pt_val (pe_callB call_isi (by rfl) T.z_isinstance (by decide +kernel) (pa_cons (pv 0) (pa_cons (pe_bltn (v := .ty "bool") (by rfl) T.z_bool (by decide +kernel) rfl) pa_nil)))) (pw_or1 (pt_val (pe_callB call_isi (by rfl) T.z_isinstance (by decide +kernel) (pa_cons (pv 1) (pa_cons (pe_bltn (v := .ty "bool") (by rfl) T.z_bool (by decide +kernel) rfl) pa_nil)))))))
      (pss_one (ps_ret (pe_and (pe_callB call_isi (by rfl) T.z_isinstance (by decide +kernel) (pa_cons (pv 0) (pa_cons (pe_bltn (v := .ty "bool") (by rfl) T.z_bool (by decide +kernel) rfl) pa_nil))) (pe_and (pe_callB call_isi (by rfl) T.z_isinstance (by decide +kernel) (pa_cons (pv 1) (pa_cons (pe_bltn (v := .ty "bool") (by rfl) T.z_bool (by decide +kernel) rfl) pa_nil))) (pe_one (pe_cmpR op_eq (pv 0) (pv 1) (nomark _))))))) (pss_nil)) pss_never, ?_⟩
    refine ⟨_, rfl, _, _, _, _, _, rfl, .ty _, (.base (.bl x)), kit_ty (by decide +kernel), ⟨_, rfl, iteT (iteT ?_)⟩⟩
    refine ⟨_, rfl, _, _, _, _, _, rfl, .ty _, (.base (.bl x)), kit_ty (by decide +kernel), ⟨_, rfl, iteT ⟨_, rfl, _, _, _, _, _, rfl, .ty _, (.base (.bl x)), kit_ty (by decide +kernel), ⟨_, rfl, iteT ⟨_, rfl, _, rfl, rfl, ?_⟩⟩⟩⟩⟩
    rw [decide_eq_true rfl]
    exact q
theorem rp_ints {H : Hp} {a b : Addr} {ns : List Int} (ha : H a = some (.lst (ns.map V.int))) (hb : H b = some (.lst (ns.map V.int))) (hn : ns.length ≤ 1000) : Rp 2 H (.ref a) (.ref b) := by
  refine .inr ⟨a, b, _, _, rfl, rfl, .inl ⟨ha, hb⟩, rfl, by rw [List.length_map]; exact hn, fun i x y hx hy => ?_⟩
  have e : x = y := Option.some.inj (hx.symm.trans hy)
  subst e
  rw [List.getElem?_map] at hx
  cases h : ns[i]? with
  | none => rw [h] at hx; cases hx
  | some z => rw [h] at hx; exact .inl ⟨z, (Option.some.inj hx).symm, (Option.some.inj hx).symm⟩
/-! ### another list, nearly the same -/
def spNear (K : PySem.W.Frag) : Sp := fun vs H Q _ => ∃ (c : Addr) (ns : List Int) (i : Int), vs = [.ref c, .int i] ∧ SqL K H c (ns.map V.int) ∧ inL ns i ∧ (∀ n ∈ ns, 0 ≤ n) ∧
  ∀ l H' ms, H l = none → Same H H' → H' l = some (.lst (ms.map V.int)) → ms.length = ns.length → ms ≠ ns → (∀ m ∈ ms, (0 : Int) ≤ m) → Q (.ref l) H'
theorem scNear : FnScope ["_law_counts", "_law_place", "_law_near_here"] ["_law_counts", "_law_place"] (defScope sNear) := ⟨rfl, rfl, rfl, by decide +kernel, rfl, by decide +kernel, by decide +kernel⟩
theorem near_set {ns : List Int} {k : Nat} {c d : Int} (hk : k < ns.length) (hc : ns[k]? = some c) (hne : d ≠ c) (hd : 0 ≤ d) (hn : ∀ n ∈ ns, 0 ≤ n) : (ns.set k d).length = ns.length ∧ ns.set k d ≠ ns ∧ ∀ m ∈ ns.set k d, (0 : Int) ≤ m := by
  refine ⟨List.length_set, fun e => hne ?_, fun m hm => ?_⟩
  · have h1 : (ns.set k d)[k]? = some d := List.getElem?_set_self hk
    rw [e, hc] at h1
    exact (Option.some.inj h1).symm
  · rcases List.mem_or_eq_of_mem_set hm with h | h
    · exact hn m h
    · omega
theorem ok_near (T : Tx K mg) : FnOk P w K mg base CX0 1 T.f_law_near T.d_law_near ["_law_counts", "_law_place"] (spNear K) := by
  refine T.F_law_near.ok scNear (fun vs H Q E h => ?_) (fun cdv A outer s H vs Q E hr h => ?_)
  · obtain ⟨c, ns, i, rfl, _⟩ := h
    rfl
  · obtain ⟨c, ns, i, rfl, hc, hi, hn, q⟩ := h
    refine ⟨_, pss_cons (ps_set (i := 2) scNear.nd rfl (.inl rfl) (pe_callTy (T := "list") call_list_of (by rfl) T.z_list (by decide +kernel) (pa_cons (pv 0) pa_nil)))
      (pss_cons (ps_if (pt_cmpR op_eq (pe_ix ix_list (pv 2) (pv 1) (fun _ _ => rfl)) pe_int (nomark _)) (pss_one (ps_asg pe_int (pg_sub (pv 2) (pv 1) set_list))) (pss_one (ps_asg (pe_op op_sub (pe_ix ix_list (pv 2) (pv 1) (fun _ _ => rfl)) pe_int) (pg_sub (pv 2) (pv 1) set_list))))
      (pss_one (ps_ret (pv 2)))), ?_⟩
    obtain ⟨z, hz⟩ := in_get hi
    have hix := at_of hi hz
    obtain ⟨h1, h2⟩ := id hi
    obtain ⟨k, rfl⟩ := Int.eq_ofNat_of_zero_le h1
    have hk : k < ns.length := by omega
    have z0 : 0 ≤ z := hn z (List.mem_of_getElem? hz)
    have hxn : ixN (ns.map V.int).length (k : Int) = some k := ixN_nat' (by rw [List.length_map]; exact hk)
    refine ⟨_, rfl, c, _, rfl, .inl hc, fun l hl => ?_⟩
    refine ⟨_, rfl, _, rfl, l, _, _, _, rfl, rfl, SqL.of upd_same, hix, rfl, _, rfl, iteDs (fun e => ?_) (fun e => ?_)⟩
    · have ez : z = 0 := V.int.inj e
      obtain ⟨s1, s2, s3⟩ := near_set (d := 1) hk hz (by omega) (by omega) hn
      refine ⟨_, rfl, _, rfl, l, _, _, _, rfl, rfl, upd_same, hxn, ⟨_, rfl, ?_⟩⟩
      refine q l _ _ hl (Same.put (same_upd hl) hl) ?_ s1 s2 s3
      rw [List.map_set]
      exact upd_same
    · have ez : z ≠ 0 := fun h => e (by rw [h])
      obtain ⟨s1, s2, s3⟩ := near_set (d := z - 1) hk hz (by omega) (by omega) hn
      refine ⟨_, rfl, _, rfl, l, _, _, _, rfl, rfl, SqL.of upd_same, hix, _, _, rfl, rfl, _, rfl, _, rfl, l, _, _, _, rfl, rfl, upd_same, hxn, ⟨_, rfl, ?_⟩⟩
      refine q l _ _ hl (Same.put (same_upd hl) hl) ?_ s1 s2 s3
      rw [List.map_set]
      exact upd_same
end
end D0

namespace D0
open PySem PySem.Spec PyProof.Rows L2 KO
theorem at0 {X : Cx} {σ : L2.St} : PassesAt CX0 X σ E0 := fun _ _ _ _ _ _ h => h.elim
theorem atL {X : Cx} {σ : L2.St} : PassesAt (L2.CX X.prog X.w) X σ E0 := fun pins H s e s' I c => passL pins σ H s e s' I c
theorem any_sum : ∀ ns : List Int, (∀ n ∈ ns, 0 ≤ n) → 0 ≤ ns.sum ∧ (ns.any (fun n => n != 0)) = decide (ns.sum > 0)
  | [], _ => by simp
  | n :: ns, h => by
    obtain ⟨h1, h2⟩ := any_sum ns fun m hm => h m (List.mem_cons_of_mem _ hm)
    have h0 := h n List.mem_cons_self
    refine ⟨by rw [List.sum_cons]; omega, ?_⟩
    rw [List.any_cons, h2, List.sum_cons]
    by_cases e : n = 0
    · subst e
      simp
    · have e1 : (n != 0) = true := by simpa using e
      rw [e1, Bool.true_or]
      exact (decide_eq_true (by omega)).symm
section
variable {P : Program} {w : World} {K : PySem.W.Frag} {mg : Str → Option Value} {base : Heap}
def spShw (C : Addr) : Sp := fun vs H Q _ => ∃ a l c ns, vs = [.ref a, .ref c] ∧ Ld C H a l ns ∧ H c = some (.lst (ns.map V.int)) ∧ good ns ∧ ∀ H', Same H H' → Q (.bl true) H'
theorem scShw : FnScope ["_law_load", "_law_counts", "_law_size_here", "_law_k", "_law_inside"] ["_law_load", "_law_counts"] (defScope sShw) := ⟨rfl, rfl, rfl, by decide +kernel, rfl, by decide +kernel, by decide +kernel⟩
theorem ok_shw (T : Tx K mg) : FnOk P w K mg base CX0 6 T.f_law_shows T.d_law_shows ["_law_load", "_law_counts"] (spShw T.C_Load) := by
  have Glen := ok_len (P := P) (w := w) (base := base) T
  have Giter := ok_iter (P := P) (w := w) (base := base) T
  have Gabs := ok_abs (P := P) (w := w) (base := base) T
  have Gboo := ok_boo (P := P) (w := w) (base := base) T
  have Gget := ok_get (P := P) (w := w) (base := base) T
  have Gcon := ok_con (P := P) (w := w) (base := base) T
  have GsB := (ok_sameB (P := P) (w := w) (base := base) T).mono (k := 5) (by decide)
  have Gs := (ok_same (P := P) (w := w) (base := base) T 2).mono (k := 5) (by decide)
  refine T.F_law_shows.ok scShw (fun vs H Q E h => ?_) (fun cdv A outer s H vs Q E hr h => ?_)
  · obtain ⟨a, l, c, ns, rfl, _⟩ := h
    rfl
  · obtain ⟨a, l, c, ns, rfl, L, hc, hg, q⟩ := h
    have h1 : Room 1 _ := hr.mono (by decide)
    have h2 : Room 2 _ := hr.mono (by decide)
    have h3 : Room 3 _ := hr.mono (by decide)
    have h4 : Room 4 _ := hr.mono (by decide)
    refine ⟨_, pss_cons (ps_set (i := 2) scShw.nd rfl (.inl rfl) (pe_callB call_len_seq (by rfl) T.z_len (by decide +kernel) (pa_cons (pv 1) pa_nil)))
      (pss_cons (ps_if (PW.pt (pw_or (pt_cmpR op_ne (pe_callB (len_own T.m_Load_len Glen h2 T.bLoad_len (fun σ => at0)) (by rfl) T.z_len (by decide +kernel) (pa_cons (pv 0) pa_nil)) (pv 2) (nomark _))
          (pw_or1 (pt_not (pt_val (pe_call Gs hr (by rfl) T.g_law_same T.F_law_same.kp T.b_law_same .nil pass0 (pa_cons (pe_callTy (T := "list") (listOwn T.m_Load_iter T.m_Load_len Giter T.bLoad_iter Glen T.bLoad_len rfl h4) (by rfl) T.z_list (by decide +kernel) (pa_cons (pv 0) pa_nil)) (pa_cons (pv 1) pa_nil)))))))) (pss_one ps_never) (pss_nil))
      (pss_cons (ps_if (PW.pt (pw_or (pt_not (pt_val (pe_call Gs hr (by rfl) T.g_law_same T.F_law_same.kp T.b_law_same .nil pass0 (pa_cons (pe_callB (abs_own T.m_Load_abs Gabs h2 T.bLoad_abs (fun σ => at0)) (by rfl) T.z_abs (by decide +kernel) (pa_cons (pv 0) pa_nil)) (pa_cons (pe_callB (cr_sum rfl) (by rfl) T.z_sum (by decide +kernel) (pa_cons (pv 1) pa_nil)) pa_nil)))))
          (pw_or1 (pt_not (pt_val (pe_call GsB hr (by rfl) T.g_law_same T.F_law_same.kp T.b_law_same .nil pass0 (pa_cons (pe_callTy (T := "bool") (bool_own T.m_Load_bool Gboo h3 T.bLoad_bool (fun σ => at0)) (by rfl) T.z_bool (by decide +kernel) (pa_cons (pv 0) pa_nil)) (pa_cons (pe_cmpR op_gt (pe_callB (cr_sum rfl) (by rfl) T.z_sum (by decide +kernel) (pa_cons (pv 1) pa_nil)) pe_int (nomark _)) pa_nil)))))))) (pss_one ps_never) (pss_nil))
      (pss_cons (ps_for PassesOwn.never rfl (pi_range2 (by rfl) T.z_range (pa_cons (pe_un un_neg pe_int) (pa_cons (pe_op op_add (pv 2) pe_int) pa_nil))) (pg_name (i := 3) scShw.nd rfl (.inl rfl))
        (pss_cons (ps_set (i := 4) scShw.nd rfl (.inl rfl) pe_bl)
        (pss_cons (ps_if (PW.pt (pw_and (pt_cmpR op_le pe_int (pv 3) (nomark _)) (pw_and1 (pt_cmpR op_lt (pv 3) (pv 2) (nomark _)))))
          (pss_cons (ps_if (pt_not (pt_val (pe_call Gs hr (by rfl) T.g_law_same T.F_law_same.kp T.b_law_same .nil pass0 (pa_cons (pe_subOwn (E := fun _ => E0) T.m_Load_getitem T.fn_Load_getitem Gget h3 T.bLoad_getitem (fun σ => atL) (pv 0) (pv 3)) (pa_cons (pe_ix ix_list (pv 1) (pv 3) (fun _ _ => rfl)) pa_nil))))) (pss_one ps_never) (pss_nil))
          (pss_one (ps_set (i := 4) scShw.nd rfl (.inl rfl) (pe_cmpR op_gt (pe_ix ix_list (pv 1) (pv 3) (fun _ _ => rfl)) pe_int (nomark _))))) (pss_nil))
        (pss_one (ps_if (pt_not (pt_val (pe_call GsB hr (by rfl) T.g_law_same T.F_law_same.kp T.b_law_same .nil pass0 (pa_cons (pe_cmpR (in_own T.m_Load_contains Gcon h1 T.bLoad_contains (fun σ => at0)) (pv 3) (pv 0) (by rfl)) (pa_cons (pv 4) pa_nil))))) (pss_one ps_never) (pss_nil))))))
      (pss_one (ps_ret pe_bl))))), ?_⟩
    obtain ⟨dx, ha, hl⟩ := id L
    have g60 := hg.1.2
    refine ⟨_, rfl, c, _, rfl, .inl (SqL.of hc), ?_⟩
    rw [List.length_map]
    refine ⟨_, rfl, a, dx, _, rfl, ha, a, l, ns, rfl, L, ns.length, rfl, by omega, by omega, _, rfl, rfl, _, rfl, iteND rfl ?_⟩
    refine ⟨_, rfl, a, dx, _, rfl, ha, fun S hS => ⟨a, l, ns, rfl, L.same (same_upd hS), fun it hit => ?_⟩⟩
    have nS : it ≠ S := fun e => by
      rw [e, upd_same] at hit
      cases hit
    have hit0 : H it = none := by
      rw [upd_ne nS] at hit
      exact hit
    have s1 : Same H (upd (upd H S (.lst [])) it (ItO l it 0)) := Same.put (same_upd hS) hit0
    refine ⟨it, l, ns.map V.int, rfl, upd_same, s1 _ _ hl, ?_, s1 _ _ ha, by rw [List.length_map]; omega, nS, ne_of_none hl hit0, ne_of_none hl hS, ?_⟩
    · rw [upd_ne (Ne.symm nS), upd_same]
    refine ⟨a, l, ns, rfl, L.same s1, ns.length, rfl, by omega, by omega, rfl, ?_⟩
    have s2 : Same H (upd (upd (upd (upd H S (.lst [])) it (ItO l it 0)) it (ItE it (ns.map V.int).length)) S (.lst (ns.map V.int))) := Same.put (Same.put s1 hit0) hS
    have hS2 : (upd (upd (upd (upd H S (.lst [])) it (ItO l it 0)) it (ItE it (ns.map V.int).length)) S (.lst (ns.map V.int))) S = some (.lst (ns.map V.int)) := upd_same
    generalize (upd (upd (upd (upd H S (.lst [])) it (ItO l it 0)) it (ItE it (ns.map V.int).length)) S (.lst (ns.map V.int))) = H2 at s2 hS2 ⊢
    have Lb := L.same s2
    have ha2 := s2 _ _ ha
    have hc2 := s2 _ _ hc
    refine ⟨_, rfl, _, _, rfl, rp_ints hS2 hc2 (by omega), _, rfl, iteF ?_⟩
    refine ⟨_, rfl, a, dx, _, rfl, ha2, a, l, ns, rfl, Lb, ?_⟩
    refine ⟨_, rfl, c, ns, rfl, SqL.of hc2, _, _, rfl, .inl ⟨ns.sum, rfl, rfl⟩, _, rfl, iteF ?_⟩
    refine ⟨_, rfl, a, dx, _, rfl, ha2, a, l, ns, rfl, Lb, _, rfl, ?_⟩
    refine ⟨_, rfl, c, ns, rfl, SqL.of hc2, _, _, rfl, rfl, decide (ns.sum > 0), ?_, _, rfl, iteF ?_⟩
    · rw [(any_sum ns hg.2).2]
      rfl
    refine ⟨_, rfl, _, rfl, _, _, rfl, rfl, -2, ns.length + 2, rfl, ⟨by omega, by omega, by omega, by omega⟩, for_range (fun _ σ H' => (∃ v3 v4, σ = [some (.ref a), some (.ref c), some (.int ns.length), v3, v4]) ∧ H' = H2) ⟨⟨none, none, rfl⟩, rfl⟩ ?_ ?_⟩
    · rintro i σ H' hi ⟨⟨v3, v4, rfl⟩, rfl⟩
      have no : ∀ h : ¬ inL ns (-2 + (i : Int)), inL ns (-2 + (i : Int)) → False := fun h h' => h h'
      refine ⟨_, rfl, _, _, rfl, rfl, _, rfl, iteDs (fun k1 => ?_) (fun k1 => ?_)⟩
      · refine ⟨_, rfl, _, rfl, _, _, rfl, rfl, _, rfl, iteDs (fun k2 => ?_) (fun k2 => ?_)⟩
        · have hin : inL ns (-2 + (i : Int)) := ⟨k1, k2⟩
          obtain ⟨z, hz⟩ := in_get hin
          have z0 := hg.2 z (List.mem_of_getElem? hz)
          refine ⟨_, rfl, _, rfl, a, dx, _, rfl, ha2, a, l, ns, _, rfl, Lb, fun _ z' hz' => ?_, fun h => (no h hin).elim⟩
          obtain rfl : z = z' := Option.some.inj (hz.symm.trans hz')
          refine ⟨_, rfl, _, rfl, c, _, _, _, rfl, rfl, SqL.of hc2, at_of hin hz, _, _, rfl, .inl ⟨z, rfl, rfl⟩, _, rfl, iteF ?_⟩
          refine ⟨_, rfl, _, rfl, c, _, _, _, rfl, rfl, SqL.of hc2, at_of hin hz, _, _, rfl, rfl, ?_⟩
          refine ⟨_, rfl, _, rfl, a, dx, _, rfl, ha2, a, l, ns, _, rfl, Lb, fun h => (no h hin).elim, fun _ z' hz' => ?_⟩
          obtain rfl : z = z' := Option.some.inj (hz.symm.trans hz')
          have e : (!decide (z = 0)) = decide (z > 0) := by
            by_cases h : z = 0
            · subst h
              rfl
            · rw [decide_eq_false h, decide_eq_true (by omega : z > 0)]
              rfl
          refine ⟨_, rfl, _, rfl, decide (z > 0), ?_, _, rfl, iteF ⟨⟨_, _, rfl⟩, rfl⟩⟩
          rw [e]
          rfl
        · have hin : ¬ inL ns (-2 + (i : Int)) := fun h => k2 h.2
          refine ⟨_, rfl, _, rfl, a, dx, _, rfl, ha2, a, l, ns, _, rfl, Lb, fun h => ?_, fun h => (hin h).elim⟩
          exact ⟨_, rfl, _, rfl, false, rfl, _, rfl, iteF ⟨⟨_, _, rfl⟩, rfl⟩⟩
      · have hin : ¬ inL ns (-2 + (i : Int)) := fun h => k1 h.1
        refine ⟨_, rfl, _, rfl, a, dx, _, rfl, ha2, a, l, ns, _, rfl, Lb, fun h => ?_, fun h => (hin h).elim⟩
        exact ⟨_, rfl, _, rfl, false, rfl, _, rfl, iteF ⟨⟨_, _, rfl⟩, rfl⟩⟩
    · rintro σ H' ⟨⟨v3, v4, rfl⟩, rfl⟩
      exact q _ s2
end
end D0

namespace D0
open PySem PySem.Spec PyProof.Rows L2 KO
theorem kit_own {K : PySem.W.Frag} {C : Addr} : PySem.W.kitOne K (.ref C) (.ref C) = some true := by
  unfold PySem.W.kitOne
  simp
theorem kit_oty {K : PySem.W.Frag} {C : Addr} {t : String} {b : Bool} (h : PySem.W.kitMeta t = true) (s : PySem.W.subIn K (.ref C) (.type t) = some b) : PySem.W.kitOne K (.ref C) (.type t) = some b := by
  unfold PySem.W.kitOne PySem.W.kitCls
  rw [if_neg (by simp)]
  dsimp only
  rw [if_pos h]
  exact s
theorem kit_no {K : PySem.W.Frag} {C D : Addr} (ss : PySem.W.subIn K (.ref C) (.ref C) = some true) (s : PySem.W.subIn K (.ref C) (.ref D) = some false) (hd : PySem.W.hasDictIn K D = true) (ty : PySem.W.typeIn K (.ref D) = some (.type "type")) : PySem.W.kitOne K (.ref C) (.ref D) = some false := by
  have ne : C ≠ D := fun e => by
    rw [← e, ss] at s
    cases s
  obtain ⟨cd, hc, _⟩ := PySem.W.any_some hd
  unfold PySem.W.kitOne PySem.W.kitCls
  rw [if_neg (by simpa using ne)]
  dsimp only
  rw [hc, ty]
  simpa using s
section
variable {P : Program} {w : World} {K : PySem.W.Frag} {mg : Str → Option Value} {base : Heap}
theorem excC (T : Tx K mg) : ExcC K T.C_BadLoad := ⟨T.ga_BadLoad, T.gg_BadLoad, T.bs_BadLoad, T.hd_BadLoad, T.cl_BadLoad, T.sp_class, T.tk_class, T.mr_BadLoad⟩
theorem exmB (T : Tx K mg) : PySem.W.exmOne K (.ref T.C_BadLoad) (.ref T.C_DepotError) = some true := PySem.W.exm_ref T.bs_DepotError T.hd_DepotError T.ty_DepotError T.sb_BadLoad_DepotError
theorem kit1 (T : Tx K mg) : PySem.W.kitOne K (.ref T.C_BadLoad) (.type "ValueError") = some true := kit_oty (by decide +kernel) T.sb_BadLoad_ValueError
theorem kit2 (T : Tx K mg) : PySem.W.kitOne K (.ref T.C_BadLoad) (.ref T.C_BadBook) = some false := kit_no T.sb_BadLoad_self T.sb_BadLoad_BadBook T.hd_BadBook T.ty_BadBook
/-! ### refused lists -/
def spRfc (K : PySem.W.Frag) : Sp := fun vs H Q _ => ∃ (c : Addr) (ns : List Int), vs = [.ref c] ∧ (SqL K H c (ns.map V.int) ∨ SqT K H c (ns.map V.int)) ∧ ¬ good ns ∧ ∀ H', Same H H' → Q (.bl true) H'
theorem scRfc : FnScope ["_law_counts", "_law_right", "_law_load", "e"] ["_law_counts"] (defScope sRfc) := ⟨rfl, rfl, rfl, by decide +kernel, rfl, by decide +kernel, by decide +kernel⟩
theorem ok_rfc (T : Tx K mg) : FnOk P w K mg base CX0 5 T.f_law_refuses_counts T.d_law_refuses_counts ["_law_counts"] (spRfc K) := by
  have G := ok_init (P := P) (w := w) (base := base) T
  refine T.F_law_refuses_counts.ok scRfc (fun vs H Q E h => ?_) (fun cdv A outer s H vs Q E hr h => ?_)
  · obtain ⟨c, ns, rfl, _⟩ := h
    rfl
  · obtain ⟨c, ns, rfl, hc, hb, q⟩ := h
    have h3 : Room 3 _ := hr.mono (by decide)
    refine ⟨_, pss_cons (ps_set (i := 1) scRfc.nd rfl (.inl rfl) pe_bl)
      (pss_cons (ps_try_as (i := 3) (tb := fun W => tAsg (tMakeX T.C_Load (spInit K T.C_Load T.C_BadLoad) (WE W) (tCons (tVar 0) tNil)) (gName 2)) (Wout := fun _ _ _ _ => False) rfl rfl scRfc.nd rfl rfl ⟨rfl, by decide, .inl T.g_DepotError⟩ takes0
          (fun W pn xe tk _ => pss_one (ps_set (i := 2) scRfc.nd rfl (.inl rfl) (by exact (pe_makeX T.M_Load G h3 (by rfl) T.g_Load T.bLoad_init (fun σ => passAt tk σ) (pa_cons (pv 0) pa_nil)))))
          (fun a oe cls d pn hz hf => pss_one (ps_set (i := 1) scRfc.nd rfl (.inl rfl) (pe_and (pe_callB (call_isX (excC T) hz hf) (by rfl) T.z_isinstance (by decide +kernel) (pa_cons (pv 3) (pa_cons (pe_glob (v := .ref T.C_BadLoad) rfl T.g_BadLoad rfl) pa_nil)))
            (pe_and (pe_callB (call_isX (excC T) hz hf) (by rfl) T.z_isinstance (by decide +kernel) (pa_cons (pv 3) (pa_cons (pe_bltn (v := .ty "ValueError") (by rfl) T.z_ValueError (by decide +kernel) rfl) pa_nil)))
            (pe_one (pe_not (pe_callB (call_isX (excC T) hz hf) (by rfl) T.z_isinstance (by decide +kernel) (pa_cons (pv 3) (pa_cons (pe_glob (v := .ref T.C_BadBook) rfl T.g_BadBook rfl) pa_nil))))))))))
      (pss_one (ps_ret (pv 1)))), ?_⟩
    refine ⟨_, rfl, fun x dx hx hdx ne => ⟨x, dx, c, ns, rfl, upd_same, ?_, fun hg => (hb hg).elim, fun _ => ⟨true, exmB T, fun _ a0 ha0 => ?_, fun q => Bool.noConfusion q⟩⟩⟩
    · exact hc.imp (fun h => SqL.ext h (Same.put (same_upd hdx) hx)) (fun h => SqT.ext h (Same.put (same_upd hdx) hx))
    · refine ⟨_, rfl, rfl, rfl, _, _, true, rfl, fun u r => r, kit_own, true, rfl, iteT ?_⟩
      refine ⟨_, rfl, rfl, rfl, _, _, true, rfl, fun u r => r, kit1 T, true, rfl, iteT ?_⟩
      refine ⟨_, rfl, rfl, rfl, _, _, false, rfl, fun u r => r, kit2 T, false, rfl, ?_⟩
      exact ⟨_, rfl, q _ (Same.put (same_upd hdx) hx)⟩
/-! ### a refused minute -/
def spRfr (C : Addr) : Sp := fun vs H Q _ => ∃ (a l : Addr) (ns : List Int) (i : Int), vs = [.ref a, .int i] ∧ Ld C H a l ns ∧ (inL ns i → Q (.bl false) H) ∧ (¬ inL ns i → Q (.bl true) H)
theorem scRfr : FnScope ["_law_load", "_law_minute_here", "_law_right", "_law_got", "e"] ["_law_load", "_law_minute_here"] (defScope sRfr) := ⟨rfl, rfl, rfl, by decide +kernel, rfl, by decide +kernel, by decide +kernel⟩
theorem ok_rfr (T : Tx K mg) : FnOk P w K mg base CX0 5 T.f_law_refuses_read T.d_law_refuses_read ["_law_load", "_law_minute_here"] (spRfr T.C_Load) := by
  have G := ok_get (P := P) (w := w) (base := base) T
  refine T.F_law_refuses_read.ok scRfr (fun vs H Q E h => ?_) (fun cdv A outer s H vs Q E hr h => ?_)
  · obtain ⟨a, l, ns, i, rfl, _⟩ := h
    rfl
  · obtain ⟨a, l, ns, i, rfl, L, q1, q2⟩ := h
    obtain ⟨dx, ha, hl⟩ := id L
    have h3 : Room 3 _ := hr.mono (by decide)
    refine ⟨_, pss_cons (ps_set (i := 2) scRfr.nd rfl (.inl rfl) pe_bl)
      (pss_cons (ps_try_as (i := 4) (tb := fun W => tAsg (tSubO T.C_Load (spGet T.C_Load T.C_BadLoad) (WE W) (tVar 0) (tVar 1)) (gName 3)) (Wout := fun _ _ _ _ => False) rfl rfl scRfr.nd rfl rfl ⟨rfl, by decide, .inl T.g_DepotError⟩ takes0
          (fun W pn xe tk _ => pss_one (ps_set (i := 3) scRfr.nd rfl (.inl rfl) (by exact (pe_subOwn T.m_Load_getitem T.fn_Load_getitem G h3 T.bLoad_getitem (fun σ => passAt tk σ) (pv 0) (pv 1)))))
          (fun a oe cls d pn hz hf => pss_one (ps_set (i := 2) scRfr.nd rfl (.inl rfl) (pe_and (pe_callB (call_isX (excC T) hz hf) (by rfl) T.z_isinstance (by decide +kernel) (pa_cons (pv 4) (pa_cons (pe_glob (v := .ref T.C_BadLoad) rfl T.g_BadLoad rfl) pa_nil)))
            (pe_and (pe_callB (call_isX (excC T) hz hf) (by rfl) T.z_isinstance (by decide +kernel) (pa_cons (pv 4) (pa_cons (pe_bltn (v := .ty "ValueError") (by rfl) T.z_ValueError (by decide +kernel) rfl) pa_nil)))
            (pe_one (pe_not (pe_callB (call_isX (excC T) hz hf) (by rfl) T.z_isinstance (by decide +kernel) (pa_cons (pv 4) (pa_cons (pe_glob (v := .ref T.C_BadBook) rfl T.g_BadBook rfl) pa_nil))))))))))
      (pss_one (ps_ret (pv 2)))), ?_⟩
    refine ⟨_, rfl, _, rfl, a, dx, _, rfl, ha, a, l, ns, i, rfl, L, fun h c hc => ⟨_, rfl, q1 h⟩, fun h => ⟨true, exmB T, fun _ a0 ha0 => ?_, fun q => Bool.noConfusion q⟩⟩
    · refine ⟨_, rfl, rfl, rfl, _, _, true, rfl, fun u r => r, kit_own, true, rfl, iteT ?_⟩
      refine ⟨_, rfl, rfl, rfl, _, _, true, rfl, fun u r => r, kit1 T, true, rfl, iteT ?_⟩
      refine ⟨_, rfl, rfl, rfl, _, _, false, rfl, fun u r => r, kit2 T, false, rfl, ?_⟩
      exact ⟨_, rfl, q2 h⟩
/-! ### put and [] = -/
def spLput (C : Addr) : Sp := fun vs H Q _ => ∃ (a l : Addr) (ns : List Int) (i c : Int), vs = [.ref a, .int i, .int c] ∧ Ld C H a l ns ∧ (inL ns i ∧ 0 ≤ c → Q (.int 0) (upd H l (.lst ((ns.set i.toNat c).map V.int)))) ∧ (¬ (inL ns i ∧ 0 ≤ c) → Q (.int 2) H)
theorem scLput : FnScope ["_law_load", "_law_minute_here", "_law_count_here", "_law_fell", "_law_got", "e"] ["_law_load", "_law_minute_here", "_law_count_here"] (defScope sLput) := ⟨rfl, rfl, rfl, by decide +kernel, rfl, by decide +kernel, by decide +kernel⟩
theorem ok_lput (T : Tx K mg) : FnOk P w K mg base CX0 5 T.f_law_put T.d_law_put ["_law_load", "_law_minute_here", "_law_count_here"] (spLput T.C_Load) := by
  have G := ok_put (P := P) (w := w) (base := base) T
  refine T.F_law_put.ok scLput (fun vs H Q E h => ?_) (fun cdv A outer s H vs Q E hr h => ?_)
  · obtain ⟨a, l, ns, i, c, rfl, _⟩ := h
    rfl
  · obtain ⟨a, l, ns, i, c, rfl, L, q1, q2⟩ := h
    obtain ⟨dx, ha, hl⟩ := id L
    have h2 : Room 2 _ := hr.mono (by decide)
    refine ⟨_, pss_cons (ps_set (i := 3) scLput.nd rfl (.inl rfl) pe_int)
      (pss_cons (ps_set (i := 4) scLput.nd rfl (.inl rfl) pe_non)
      (pss_cons (ps_try_as (i := 5) (tb := fun W => tAsg (tMethX T.C_Load "put" (spPut T.C_Load T.C_BadLoad) (WE W) (tVar 0) (tCons (tVar 1) (tCons (tVar 2) tNil))) (gName 4)) (Wout := fun _ _ _ _ => False) rfl rfl scLput.nd rfl rfl ⟨rfl, by decide, .inl T.g_DepotError⟩ takes0
          (fun W pn xe tk _ => pss_one (ps_set (i := 4) scLput.nd rfl (.inl rfl) (by exact (pe_methX (pv 0) T.cl_Load T.m_Load_put G h2 T.bLoad_put (fun σ => passAt tk σ) (pa_cons (pv 1) (pa_cons (pv 2) pa_nil))))))
          (fun a oe cls d pn hz hf => pss_one (ps_set (i := 3) scLput.nd rfl (.inl rfl) (pe_op op_add pe_int (pe_callTy (T := "int") call_int1 (by rfl) T.z_int (by decide +kernel) (pa_cons (pe_and (pe_callB (call_isX (excC T) hz hf) (by rfl) T.z_isinstance (by decide +kernel) (pa_cons (pv 5) (pa_cons (pe_glob (v := .ref T.C_BadLoad) rfl T.g_BadLoad rfl) pa_nil)))
            (pe_and (pe_callB (call_isX (excC T) hz hf) (by rfl) T.z_isinstance (by decide +kernel) (pa_cons (pv 5) (pa_cons (pe_bltn (v := .ty "ValueError") (by rfl) T.z_ValueError (by decide +kernel) rfl) pa_nil)))
            (pe_one (pe_not (pe_callB (call_isX (excC T) hz hf) (by rfl) T.z_isinstance (by decide +kernel) (pa_cons (pv 5) (pa_cons (pe_glob (v := .ref T.C_BadBook) rfl T.g_BadBook rfl) pa_nil))))))) pa_nil))))))
      (pss_cons (ps_if (pt_cmpR op_notN (pv 4) pe_non (nomark _)) (pss_one (ps_ret pe_int)) (pss_nil))
      (pss_one (ps_ret (pv 3)))))), ?_⟩
    refine ⟨_, rfl, a, dx, _, rfl, ha, rfl, _, rfl, _, rfl, a, l, ns, i, c, rfl, L, fun h => ?_, fun h => ⟨true, exmB T, fun _ a0 ha0 => ?_, fun q => Bool.noConfusion q⟩⟩
    · exact ⟨_, rfl, rfl, _, rfl, iteND rfl ⟨_, rfl, q1 h⟩⟩
    · refine ⟨_, rfl, rfl, rfl, _, _, true, rfl, fun u r => r, kit_own, true, rfl, iteT ?_⟩
      refine ⟨_, rfl, rfl, rfl, _, _, true, rfl, fun u r => r, kit1 T, true, rfl, iteT ?_⟩
      refine ⟨_, rfl, rfl, rfl, _, _, false, rfl, fun u r => r, kit2 T, false, rfl, ?_⟩
      refine .inr ⟨_, rfl, _, _, rfl, rfl, ?_⟩
      exact ⟨_, rfl, rfl, _, rfl, iteND rfl ⟨_, rfl, q2 h⟩⟩
theorem scLset : FnScope ["_law_load", "_law_minute_here", "_law_count_here", "_law_fell", "e"] ["_law_load", "_law_minute_here", "_law_count_here"] (defScope sLset) := ⟨rfl, rfl, rfl, by decide +kernel, rfl, by decide +kernel, by decide +kernel⟩
theorem ok_lset (T : Tx K mg) : FnOk P w K mg base CX0 6 T.f_law_set T.d_law_set ["_law_load", "_law_minute_here", "_law_count_here"] (spLput T.C_Load) := by
  have G := ok_set (P := P) (w := w) (base := base) T
  refine T.F_law_set.ok scLset (fun vs H Q E h => ?_) (fun cdv A outer s H vs Q E hr h => ?_)
  · obtain ⟨a, l, ns, i, c, rfl, _⟩ := h
    rfl
  · obtain ⟨a, l, ns, i, c, rfl, L, q1, q2⟩ := h
    obtain ⟨dx, ha, hl⟩ := id L
    have h3 : Room 3 _ := hr.mono (by decide)
    refine ⟨_, pss_cons (ps_set (i := 3) scLset.nd rfl (.inl rfl) pe_int)
      (pss_cons (ps_try_as (i := 4) (tb := fun W => tAsg (tVar 2) (fun v σ H Q => tVar 0 σ H fun o H1 => tVar 1 σ H1 fun i H2 => ∃ a dx fs, o = .ref a ∧ H2 a = some (.ins T.C_Load dx fs) ∧ spPut T.C_Load T.C_BadLoad [.ref a, i, v] H2 (fun _ H3 => Q σ H3) (WE W σ))) (Wout := fun _ _ _ _ => False) rfl rfl scLset.nd rfl rfl ⟨rfl, by decide, .inl T.g_DepotError⟩ takes0
          (fun W pn xe tk _ => pss_one (ps_asg (pv 2) (by exact (pg_putX T.m_Load_setitem T.ns_Load G h3 T.bLoad_setitem (fun σ => passAt tk σ) (pv 0) (pv 1)))))
          (fun a oe cls d pn hz hf => pss_one (ps_set (i := 3) scLset.nd rfl (.inl rfl) (pe_op op_add pe_int (pe_callTy (T := "int") call_int1 (by rfl) T.z_int (by decide +kernel) (pa_cons (pe_and (pe_callB (call_isX (excC T) hz hf) (by rfl) T.z_isinstance (by decide +kernel) (pa_cons (pv 4) (pa_cons (pe_glob (v := .ref T.C_BadLoad) rfl T.g_BadLoad rfl) pa_nil)))
            (pe_and (pe_callB (call_isX (excC T) hz hf) (by rfl) T.z_isinstance (by decide +kernel) (pa_cons (pv 4) (pa_cons (pe_bltn (v := .ty "ValueError") (by rfl) T.z_ValueError (by decide +kernel) rfl) pa_nil)))
            (pe_one (pe_not (pe_callB (call_isX (excC T) hz hf) (by rfl) T.z_isinstance (by decide +kernel) (pa_cons (pv 4) (pa_cons (pe_glob (v := .ref T.C_BadBook) rfl T.g_BadBook rfl) pa_nil))))))) pa_nil))))))
      (pss_one (ps_ret (pv 3)))), ?_⟩
    refine ⟨_, rfl, _, rfl, _, rfl, a, dx, _, rfl, ha, a, l, ns, i, c, rfl, L, fun h => ?_, fun h => ⟨true, exmB T, fun _ a0 ha0 => ?_, fun q => Bool.noConfusion q⟩⟩
    · exact ⟨_, rfl, q1 h⟩
    · refine ⟨_, rfl, rfl, rfl, _, _, true, rfl, fun u r => r, kit_own, true, rfl, iteT ?_⟩
      refine ⟨_, rfl, rfl, rfl, _, _, true, rfl, fun u r => r, kit1 T, true, rfl, iteT ?_⟩
      refine ⟨_, rfl, rfl, rfl, _, _, false, rfl, fun u r => r, kit2 T, false, rfl, ?_⟩
      refine .inr ⟨_, rfl, _, _, rfl, rfl, ?_⟩
      exact ⟨_, rfl, q2 h⟩
end
end D0

namespace D0
open PySem PySem.Spec PyProof.Rows L2 KO
/-- but for the pool at p and the load's own list at l -/
def Fr (l p : Addr) (H H' : Hp) : Prop := ∀ b o, b ≠ p → b ≠ l → H b = some o → H' b = some o
theorem Fr.eqp {l p : Addr} {H H1 H2 : Hp} (a : Fr l p H H1) (b : Eqp p H1 H2) : Fr l p H H2 := fun c o n1 n2 h => by
  rw [b c n1]
  exact a c o n1 n2 h
theorem Fr.same {l p : Addr} {H H1 H2 : Hp} (a : Fr l p H H1) (b : Same H1 H2) : Fr l p H H2 := fun c o n1 n2 h => b c o (a c o n1 n2 h)
theorem Fr.put {l p m : Addr} {o : HO} {H H1 : Hp} (a : Fr l p H H1) (hm : H m = none) : Fr l p H (upd H1 m o) := fun c u n1 n2 h => by
  rw [upd_ne (ne_of_none h hm)]
  exact a c u n1 n2 h
theorem Fr.putl {l p : Addr} {o : HO} {H H1 : Hp} (a : Fr l p H H1) : Fr l p H (upd H1 l o) := fun c u n1 n2 h => by
  rw [upd_ne n2]
  exact a c u n1 n2 h
theorem Ld.eqp {C : Addr} {H H' : Hp} {a l p : Addr} {ns : List Int} (h : Ld C H a l ns) (lp : l ≠ p) (hp : Pool H p) (e : Eqp p H H') : Ld C H' a l ns := by
  obtain ⟨dx, h1, h2⟩ := h
  obtain ⟨x, f, c, h3⟩ := hp
  refine ⟨dx, ?_, ?_⟩
  · rw [e a (ne_of h1 h3 (by intro z; cases z))]
    exact h1
  · rw [e l lp]
    exact h2
theorem Ld.upd {C : Addr} {H : Hp} {a l m : Addr} {o : HO} {ns : List Int} (h : Ld C H a l ns) (ma : m ≠ a) (ml : m ≠ l) : Ld C (L2.upd H m o) a l ns := by
  obtain ⟨dx, h1, h2⟩ := h
  exact ⟨dx, by rw [upd_ne ma.symm]; exact h1, by rw [upd_ne ml.symm]; exact h2⟩
theorem Ld.putl {C : Addr} {H : Hp} {a l : Addr} {ns ms : List Int} (h : Ld C H a l ns) : Ld C (L2.upd H l (.lst (ms.map V.int))) a l ms := by
  obtain ⟨dx, h1, h2⟩ := h
  exact ⟨dx, by rw [upd_ne (ne_of h1 h2 (by intro z; cases z))]; exact h1, upd_same⟩
section
variable {P : Program} {w : World} {K : PySem.W.Frag} {mg : Str → Option Value} {base : Heap}
def spDds (C : Addr) : Sp := fun vs H Q _ => ∃ (a l c p : Addr) (ns : List Int), vs = [.ref a, .ref c, .ref p] ∧ Ld C H a l ns ∧ H c = some (.lst (ns.map V.int)) ∧ Pool H p ∧ l ≠ p ∧ good ns ∧
  ∀ H' m ms, H m = none → Fr l p H H' → Ld C H' a l ms → H' m = some (.lst (ms.map V.int)) → good ms → ms.length = ns.length → Pool H' p → Q (.ref m) H'
theorem scDds : FnScope ["_law_load", "_law_counts", "_law_pool_here", "_law_model", "_law_size_here", "_law_k", "_law_minute_here", "_law_count_here", "_law_inside", "_law_due", "_law_door"] ["_law_load", "_law_counts", "_law_pool_here"] (defScope sDds) := ⟨rfl, rfl, rfl, by decide +kernel, rfl, by decide +kernel, by decide +kernel⟩
theorem good_set {ns : List Int} {k : Nat} {d : Int} (h : good ns) (hd : 0 ≤ d) : good (ns.set k d) := by
  refine ⟨by rw [List.length_set]; exact h.1, fun m hm => ?_⟩
  rcases List.mem_or_eq_of_mem_set hm with e | e
  · exact h.2 m e
  · omega
theorem ok_dds (T : Tx K mg) : FnOk P w K mg base CX0 7 T.f_law_deeds T.d_law_deeds ["_law_load", "_law_counts", "_law_pool_here"] (spDds T.C_Load) := by
  have G_law_take := (ok_take (P := P) (w := w) (base := base) T).mono (k := 6) (by decide)
  have G_law_minute := (ok_min (P := P) (w := w) (base := base) T).mono (k := 6) (by decide)
  have G_law_count := (ok_count (P := P) (w := w) (base := base) T).mono (k := 6) (by decide)
  have G_law_refuses_read := (ok_rfr (P := P) (w := w) (base := base) T).mono (k := 6) (by decide)
  have G_law_put := (ok_lput (P := P) (w := w) (base := base) T).mono (k := 6) (by decide)
  have G_law_set := (ok_lset (P := P) (w := w) (base := base) T).mono (k := 6) (by decide)
  have G_law_shows := (ok_shw (P := P) (w := w) (base := base) T).mono (k := 6) (by decide)
  have Gcon := ok_con (P := P) (w := w) (base := base) T
  refine T.F_law_deeds.ok scDds (fun vs H Q E h => ?_) (fun cdv A outer s H vs Q E hr h => ?_)
  · obtain ⟨a, l, c, p, ns, rfl, _⟩ := h
    rfl
  · obtain ⟨a, l, c, p, ns, rfl, L, hc, hp, lp, hg, q⟩ := h
    have h1 : Room 1 _ := hr.mono (by decide)
    refine ⟨_, pss_cons (ps_set (i := 3) scDds.nd rfl (.inl rfl) (pe_callTy (T := "list") call_list_of (by rfl) T.z_list (by decide +kernel) (pa_cons (pv 1) pa_nil)))
      (pss_cons (ps_set (i := 4) scDds.nd rfl (.inl rfl) (pe_callB call_len_seq (by rfl) T.z_len (by decide +kernel) (pa_cons (pv 3) pa_nil)))
      (pss_cons (ps_for PassesOwn.never rfl (pi_range1 (by rfl) T.z_range (pa_cons (pe_op op_add pe_int (pe_call G_law_take hr (by rfl) T.g_law_take T.F_law_take.kp T.b_law_take .nil pass0 (pa_cons (pv 2) (pa_cons pe_int pa_nil)))) pa_nil)) (pg_name (i := 5) scDds.nd rfl (.inl rfl))
      (pss_cons (ps_set (i := 6) scDds.nd rfl (.inl rfl) (pe_call G_law_minute hr (by rfl) T.g_law_minute T.F_law_minute.kp T.b_law_minute .nil pass0 (pa_cons (pv 2) (pa_cons (pv 4) pa_nil))))
      (pss_cons (ps_set (i := 7) scDds.nd rfl (.inl rfl) (pe_call G_law_count hr (by rfl) T.g_law_count T.F_law_count.kp T.b_law_count .nil pass0 (pa_cons (pv 2) pa_nil)))
      (pss_cons (ps_if (pt_cmpR op_eq (pe_call G_law_take hr (by rfl) T.g_law_take T.F_law_take.kp T.b_law_take .nil pass0 (pa_cons (pv 2) (pa_cons pe_int pa_nil))) pe_int (nomark _)) (pss_one (ps_set (i := 7) scDds.nd rfl (.inl rfl) (pe_op op_sub (pe_un un_neg pe_int) (pe_call G_law_take hr (by rfl) T.g_law_take T.F_law_take.kp T.b_law_take .nil pass0 (pa_cons (pv 2) (pa_cons (pe_op op_pow pe_int pe_int) pa_nil)))))) (pss_nil))
      (pss_cons (ps_set (i := 8) scDds.nd rfl (.inl rfl) (pe_and (pe_cmpR op_le pe_int (pv 6) (nomark _)) (pe_one (pe_cmpR op_lt (pv 6) (pv 4) (nomark _)))))
      (pss_cons (ps_if (PW.pt (pw_or (pt_cmpR op_eq (pe_call G_law_refuses_read hr (by rfl) T.g_law_refuses_read T.F_law_refuses_read.kp T.b_law_refuses_read .nil pass0 (pa_cons (pv 0) (pa_cons (pv 6) pa_nil))) (pv 8) (nomark _)) (pw_or1 (PW.pt (pw_and (pt_not (pt_val (pv 8))) (pw_and1 (pt_cmpR (in_own T.m_Load_contains Gcon h1 T.bLoad_contains (fun σ => at0)) (pv 6) (pv 0) (by rfl)))))))) (pss_one ps_never) (pss_nil))
      (pss_cons (ps_set (i := 9) scDds.nd rfl (.inl rfl) pe_int)
      (pss_cons (ps_if (PW.pt (pw_and (pt_val (pv 8)) (pw_and1 (pt_cmpR op_ge (pv 7) pe_int (nomark _))))) (pss_cons (ps_set (i := 9) scDds.nd rfl (.inl rfl) pe_int)
      (pss_one (ps_asg (pv 7) (pg_sub (pv 3) (pv 6) set_list)))) (pss_nil))
      (pss_cons (ps_set (i := 10) scDds.nd rfl (.inl rfl) (pe_call G_law_take hr (by rfl) T.g_law_take T.F_law_take.kp T.b_law_take .nil pass0 (pa_cons (pv 2) (pa_cons pe_int pa_nil))))
      (pss_cons (ps_if (PW.pt (pw_and (pt_cmpR op_eq (pv 10) pe_int (nomark _)) (pw_and1 (pt_cmpR op_ne (pe_call G_law_put hr (by rfl) T.g_law_put T.F_law_put.kp T.b_law_put .nil pass0 (pa_cons (pv 0) (pa_cons (pv 6) (pa_cons (pv 7) pa_nil)))) (pv 9) (nomark _))))) (pss_one ps_never) (pss_nil))
      (pss_cons (ps_if (PW.pt (pw_and (pt_cmpR op_eq (pv 10) pe_int (nomark _)) (pw_and1 (pt_cmpR op_ne (pe_call G_law_set hr (by rfl) T.g_law_set T.F_law_set.kp T.b_law_set .nil pass0 (pa_cons (pv 0) (pa_cons (pv 6) (pa_cons (pv 7) pa_nil)))) (pv 9) (nomark _))))) (pss_one ps_never) (pss_nil))
      (pss_one (ps_if (pt_not (pt_val (pe_call G_law_shows hr (by rfl) T.g_law_shows T.F_law_shows.kp T.b_law_shows .nil pass0 (pa_cons (pv 0) (pa_cons (pv 3) pa_nil))))) (pss_one ps_never) (pss_nil))))))))))))))
      (pss_one (ps_ret (pv 3))))), ?_⟩
    have g60 := hg.1.2
    have g1 := hg.1.1
    refine ⟨_, rfl, c, _, rfl, .inl (SqL.of hc), fun m hm => ⟨_, rfl, m, _, rfl, .inl (SqL.of upd_same), ?_⟩⟩
    rw [List.length_map]
    have mp : m ≠ p := hp.ne hm
    have ml : m ≠ l := by
      obtain ⟨dx, ha, hl⟩ := L
      exact (ne_of_none hl hm).symm
    have ma : m ≠ a := by
      obtain ⟨dx, ha, hl⟩ := L
      exact (ne_of_none ha hm).symm
    refine ⟨_, rfl, p, 8, rfl, hp.upd mp, by decide, by decide, fun H1 r r0 r8 p1 e1 => ⟨_, _, rfl, rfl, _, rfl, by omega, by omega, for_range (lo := 0) (n := (1 + r).toNat) (fun _ σ H' => ∃ (v5 v6 v7 v8 v9 v10 : Option V) (ms : List Int), σ = [some (.ref a), some (.ref c), some (.ref p), some (.ref m), some (.int ns.length), v5, v6, v7, v8, v9, v10] ∧
      Fr l p H H' ∧ Ld T.C_Load H' a l ms ∧ H' m = some (.lst (ms.map V.int)) ∧ good ms ∧ ms.length = ns.length ∧ Pool H' p) ?_ ?_ ?_⟩⟩
    · exact ⟨none, none, none, none, none, none, ns, rfl, (Fr.put (fun _ _ _ _ h => h) hm).eqp e1, (L.upd ma ml).eqp lp (hp.upd mp) e1, Pool.eq e1 mp upd_same, hg, rfl, p1⟩
    · rintro i σ H' hi ⟨v5, v6, v7, v8, v9, v10, ms, rfl, fr, Lm, hm', gm, em, pm⟩
      refine ⟨_, rfl, _, rfl, p, ns.length, rfl, pm, by omega, by omega, fun H2 i2 p2 e2 => ?_⟩
      refine ⟨_, rfl, p, rfl, p2, fun H3 c3 c0 p3 e3 => ?_⟩
      refine ⟨_, rfl, p, 6, rfl, p3, by decide, by decide, fun H4 r4 _ _ p4 e4 => ⟨rfl, _, rfl, iteDs (fun _ => ?_) (fun _ => ?_)⟩⟩
      · refine ⟨_, rfl, _, rfl, _, _, rfl, rfl, ⟨by decide, by decide, by decide⟩, p, _, rfl, p4, by decide, by decide, fun H4 r5 h0 h1 p4 e5 => ⟨_, _, rfl, rfl, ?_⟩⟩
        have ex : Eqp p H' H4 := ((e2.trans e3).trans e4).trans e5
        refine ⟨_, rfl, _, _, rfl, rfl, _, rfl, iteDs (fun k1 => ⟨_, rfl, _, rfl, _, _, rfl, rfl, ?_⟩) (fun k1 => ?_)⟩
        · dsimp only
          generalize hv : V.bl (decide (i2 < (ns.length : Int))) = vb
          obtain ⟨b, rfl, hb⟩ : ∃ b, vb = V.bl b ∧ (b = true ↔ inL ms i2) := ⟨_, hv.symm, by rw [decide_eq_true_iff]; unfold inL; rw [em]; omega⟩
          clear hv
          generalize (-1 - r5 : Int) = c4
          have Lx := Lm.eqp lp pm ex
          have hx := Pool.eq ex mp hm'
          obtain ⟨dx, hax, hlx⟩ := id Lx
          have Rf := fr.eqp ex
          by_cases hin : inL ms i2
          · obtain rfl : b = true := hb.mpr hin
            refine ⟨_, rfl, _, rfl, a, l, ms, i2, rfl, Lx, fun _ => ⟨_, rfl, rfl, _, rfl, iteD (by intro z; cases z) ⟨_, rfl, true, rfl, iteF (iteF ?_)⟩⟩, fun h => (h hin).elim⟩
            refine ⟨_, rfl, true, rfl, iteT ⟨_, rfl, _, _, rfl, rfl, _, rfl, iteDs (fun kc => ?_) (fun kc => ?_)⟩⟩
            · have hxn : ixN (ms.map V.int).length i2 = some i2.toNat := by
                rw [List.length_map]
                obtain ⟨k, rfl⟩ := Int.eq_ofNat_of_zero_le hin.1
                exact ixN_nat' (by have := hin.2; omega)
              refine ⟨_, rfl, _, rfl, _, rfl, m, _, _, _, rfl, rfl, hx, hxn, ?_⟩
              rw [← List.map_set]
              refine ⟨_, rfl, p, 2, rfl, p4.upd mp, by decide, by decide, fun H5 d d0 d2 p5 e5 => ?_⟩
              have L5 := (Lx.upd (o := .lst ((ms.set i2.toNat c4).map V.int)) ma ml).eqp lp (p4.upd mp) e5
              have h5 : H5 m = some (.lst ((ms.set i2.toNat c4).map V.int)) := Pool.eq e5 mp upd_same
              have R5 : Fr l p H H5 := (Fr.put Rf hm).eqp e5
              have hm6 : (upd H5 l (.lst ((ms.set i2.toNat c4).map V.int))) m = some (.lst ((ms.set i2.toNat c4).map V.int)) := by
                rw [upd_ne ml]
                exact h5
              have p6 : Pool (upd H5 l (.lst ((ms.set i2.toNat c4).map V.int))) p := p5.upd lp
              obtain ⟨d01, hd⟩ : (d = 0 ∨ d = 1) ∧ True := ⟨by omega, trivial⟩
              refine ⟨_, rfl, rfl, _, rfl, iteDs (fun d0 => ?_) (fun d0 => ?_)⟩
              · refine ⟨_, rfl, _, rfl, _, rfl, a, l, ms, i2, c4, rfl, L5, fun h => ?_, fun h => (h ⟨hin, kc⟩).elim⟩
                refine ⟨_, rfl, rfl, _, rfl, iteND rfl ?_⟩
                refine ⟨_, rfl, rfl, _, rfl, iteD (by rw [d0]; intro z; cases z) (iteF ?_)⟩
                exact ⟨_, rfl, _, rfl, a, l, m, ms.set i2.toNat c4, rfl, L5.putl, hm6, good_set gm kc, fun H7 s7 => ⟨_, rfl, iteF ⟨_, _, _, _, _, _, ms.set i2.toNat c4, rfl, Fr.same (Fr.putl R5) s7, L5.putl.same s7, s7 _ _ hm6, good_set gm kc, by rw [List.length_set]; exact em, p6.same s7⟩⟩⟩
              · refine iteF ⟨_, rfl, rfl, _, rfl, iteDs (fun d1 => ?_) (fun d1 => (d01.elim (fun e => d0 (by rw [e])) (fun e => d1 (by rw [e]))).elim)⟩
                refine ⟨_, rfl, _, rfl, _, rfl, a, l, ms, i2, c4, rfl, L5, fun h => ?_, fun h => (h ⟨hin, kc⟩).elim⟩
                refine ⟨_, rfl, rfl, _, rfl, iteND rfl ?_⟩
                exact ⟨_, rfl, _, rfl, a, l, m, ms.set i2.toNat c4, rfl, L5.putl, hm6, good_set gm kc, fun H7 s7 => ⟨_, rfl, iteF ⟨_, _, _, _, _, _, ms.set i2.toNat c4, rfl, Fr.same (Fr.putl R5) s7, L5.putl.same s7, s7 _ _ hm6, good_set gm kc, by rw [List.length_set]; exact em, p6.same s7⟩⟩⟩
            · have kn : ¬ (inL ms i2 ∧ 0 ≤ c4) := fun h => kc h.2
              refine ⟨_, rfl, p, 2, rfl, p4, by decide, by decide, fun H5 d d0 d2 p5 e5 => ?_⟩
              have L5 := Lx.eqp lp p4 e5
              have h5 : H5 m = some (.lst (ms.map V.int)) := Pool.eq e5 mp hx
              have R5 : Fr l p H H5 := Rf.eqp e5
              obtain ⟨d01, hd⟩ : (d = 0 ∨ d = 1) ∧ True := ⟨by omega, trivial⟩
              refine ⟨_, rfl, rfl, _, rfl, iteDs (fun d0 => ?_) (fun d0 => ?_)⟩
              · refine ⟨_, rfl, _, rfl, _, rfl, a, l, ms, i2, c4, rfl, L5, fun h => (kn h).elim, fun h => ?_⟩
                refine ⟨_, rfl, rfl, _, rfl, iteND rfl ?_⟩
                refine ⟨_, rfl, rfl, _, rfl, iteD (by rw [d0]; intro z; cases z) (iteF ?_)⟩
                exact ⟨_, rfl, _, rfl, a, l, m, ms, rfl, L5, h5, gm, fun H7 s7 => ⟨_, rfl, iteF ⟨_, _, _, _, _, _, ms, rfl, Fr.same R5 s7, L5.same s7, s7 _ _ h5, gm, em, p5.same s7⟩⟩⟩
              · refine iteF ⟨_, rfl, rfl, _, rfl, iteDs (fun d1 => ?_) (fun d1 => (d01.elim (fun e => d0 (by rw [e])) (fun e => d1 (by rw [e]))).elim)⟩
                refine ⟨_, rfl, _, rfl, _, rfl, a, l, ms, i2, c4, rfl, L5, fun h => (kn h).elim, fun h => ?_⟩
                refine ⟨_, rfl, rfl, _, rfl, iteND rfl ?_⟩
                exact ⟨_, rfl, _, rfl, a, l, m, ms, rfl, L5, h5, gm, fun H7 s7 => ⟨_, rfl, iteF ⟨_, _, _, _, _, _, ms, rfl, Fr.same R5 s7, L5.same s7, s7 _ _ h5, gm, em, p5.same s7⟩⟩⟩
          · obtain rfl : b = false := by
              cases b with
              | false => rfl
              | true => exact (hin (hb.mp rfl)).elim
            have kn : ¬ (inL ms i2 ∧ 0 ≤ c4) := fun h => hin h.1
            refine ⟨_, rfl, _, rfl, a, l, ms, i2, rfl, Lx, fun h => (hin h).elim, fun _ => ⟨_, rfl, rfl, _, rfl, iteD (by intro z; cases z) ⟨_, rfl, false, rfl, iteT ?_⟩⟩⟩
            refine ⟨_, rfl, _, rfl, a, dx, _, rfl, hax, a, l, ms, i2, rfl, Lx, fun _ => ⟨_, rfl, _, rfl, iteF ?_⟩, fun h => (hin h).elim⟩
            refine ⟨_, rfl, false, rfl, iteF (iteF ?_)⟩
            refine ⟨_, rfl, p, 2, rfl, p4, by decide, by decide, fun H5 d d0 d2 p5 e5 => ?_⟩
            have L5 := Lx.eqp lp p4 e5
            have h5 : H5 m = some (.lst (ms.map V.int)) := Pool.eq e5 mp hx
            have R5 : Fr l p H H5 := Rf.eqp e5
            obtain ⟨d01, hd⟩ : (d = 0 ∨ d = 1) ∧ True := ⟨by omega, trivial⟩
            refine ⟨_, rfl, rfl, _, rfl, iteDs (fun d0 => ?_) (fun d0 => ?_)⟩
            · refine ⟨_, rfl, _, rfl, _, rfl, a, l, ms, i2, c4, rfl, L5, fun h => (kn h).elim, fun h => ?_⟩
              refine ⟨_, rfl, rfl, _, rfl, iteND rfl ?_⟩
              refine ⟨_, rfl, rfl, _, rfl, iteD (by rw [d0]; intro z; cases z) (iteF ?_)⟩
              exact ⟨_, rfl, _, rfl, a, l, m, ms, rfl, L5, h5, gm, fun H7 s7 => ⟨_, rfl, iteF ⟨_, _, _, _, _, _, ms, rfl, Fr.same R5 s7, L5.same s7, s7 _ _ h5, gm, em, p5.same s7⟩⟩⟩
            · refine iteF ⟨_, rfl, rfl, _, rfl, iteDs (fun d1 => ?_) (fun d1 => (d01.elim (fun e => d0 (by rw [e])) (fun e => d1 (by rw [e]))).elim)⟩
              refine ⟨_, rfl, _, rfl, _, rfl, a, l, ms, i2, c4, rfl, L5, fun h => (kn h).elim, fun h => ?_⟩
              refine ⟨_, rfl, rfl, _, rfl, iteND rfl ?_⟩
              exact ⟨_, rfl, _, rfl, a, l, m, ms, rfl, L5, h5, gm, fun H7 s7 => ⟨_, rfl, iteF ⟨_, _, _, _, _, _, ms, rfl, Fr.same R5 s7, L5.same s7, s7 _ _ h5, gm, em, p5.same s7⟩⟩⟩
        · dsimp only
          generalize hv : V.bl false = vb
          obtain ⟨b, rfl, hb⟩ : ∃ b, vb = V.bl b ∧ (b = true ↔ inL ms i2) := ⟨_, hv.symm, by unfold inL; simp; omega⟩
          clear hv
          generalize (-1 - r5 : Int) = c4
          have Lx := Lm.eqp lp pm ex
          have hx := Pool.eq ex mp hm'
          obtain ⟨dx, hax, hlx⟩ := id Lx
          have Rf := fr.eqp ex
          by_cases hin : inL ms i2
          · obtain rfl : b = true := hb.mpr hin
            refine ⟨_, rfl, _, rfl, a, l, ms, i2, rfl, Lx, fun _ => ⟨_, rfl, rfl, _, rfl, iteD (by intro z; cases z) ⟨_, rfl, true, rfl, iteF (iteF ?_)⟩⟩, fun h => (h hin).elim⟩
            refine ⟨_, rfl, true, rfl, iteT ⟨_, rfl, _, _, rfl, rfl, _, rfl, iteDs (fun kc => ?_) (fun kc => ?_)⟩⟩
            · have hxn : ixN (ms.map V.int).length i2 = some i2.toNat := by
                rw [List.length_map]
                obtain ⟨k, rfl⟩ := Int.eq_ofNat_of_zero_le hin.1
                exact ixN_nat' (by have := hin.2; omega)
              refine ⟨_, rfl, _, rfl, _, rfl, m, _, _, _, rfl, rfl, hx, hxn, ?_⟩
              rw [← List.map_set]
              refine ⟨_, rfl, p, 2, rfl, p4.upd mp, by decide, by decide, fun H5 d d0 d2 p5 e5 => ?_⟩
              have L5 := (Lx.upd (o := .lst ((ms.set i2.toNat c4).map V.int)) ma ml).eqp lp (p4.upd mp) e5
              have h5 : H5 m = some (.lst ((ms.set i2.toNat c4).map V.int)) := Pool.eq e5 mp upd_same
              have R5 : Fr l p H H5 := (Fr.put Rf hm).eqp e5
              have hm6 : (upd H5 l (.lst ((ms.set i2.toNat c4).map V.int))) m = some (.lst ((ms.set i2.toNat c4).map V.int)) := by
                rw [upd_ne ml]
                exact h5
              have p6 : Pool (upd H5 l (.lst ((ms.set i2.toNat c4).map V.int))) p := p5.upd lp
              obtain ⟨d01, hd⟩ : (d = 0 ∨ d = 1) ∧ True := ⟨by omega, trivial⟩
              refine ⟨_, rfl, rfl, _, rfl, iteDs (fun d0 => ?_) (fun d0 => ?_)⟩
              · refine ⟨_, rfl, _, rfl, _, rfl, a, l, ms, i2, c4, rfl, L5, fun h => ?_, fun h => (h ⟨hin, kc⟩).elim⟩
                refine ⟨_, rfl, rfl, _, rfl, iteND rfl ?_⟩
                refine ⟨_, rfl, rfl, _, rfl, iteD (by rw [d0]; intro z; cases z) (iteF ?_)⟩
                exact ⟨_, rfl, _, rfl, a, l, m, ms.set i2.toNat c4, rfl, L5.putl, hm6, good_set gm kc, fun H7 s7 => ⟨_, rfl, iteF ⟨_, _, _, _, _, _, ms.set i2.toNat c4, rfl, Fr.same (Fr.putl R5) s7, L5.putl.same s7, s7 _ _ hm6, good_set gm kc, by rw [List.length_set]; exact em, p6.same s7⟩⟩⟩
              · refine iteF ⟨_, rfl, rfl, _, rfl, iteDs (fun d1 => ?_) (fun d1 => (d01.elim (fun e => d0 (by rw [e])) (fun e => d1 (by rw [e]))).elim)⟩
                refine ⟨_, rfl, _, rfl, _, rfl, a, l, ms, i2, c4, rfl, L5, fun h => ?_, fun h => (h ⟨hin, kc⟩).elim⟩
                refine ⟨_, rfl, rfl, _, rfl, iteND rfl ?_⟩
                exact ⟨_, rfl, _, rfl, a, l, m, ms.set i2.toNat c4, rfl, L5.putl, hm6, good_set gm kc, fun H7 s7 => ⟨_, rfl, iteF ⟨_, _, _, _, _, _, ms.set i2.toNat c4, rfl, Fr.same (Fr.putl R5) s7, L5.putl.same s7, s7 _ _ hm6, good_set gm kc, by rw [List.length_set]; exact em, p6.same s7⟩⟩⟩
            · have kn : ¬ (inL ms i2 ∧ 0 ≤ c4) := fun h => kc h.2
              refine ⟨_, rfl, p, 2, rfl, p4, by decide, by decide, fun H5 d d0 d2 p5 e5 => ?_⟩
              have L5 := Lx.eqp lp p4 e5
              have h5 : H5 m = some (.lst (ms.map V.int)) := Pool.eq e5 mp hx
              have R5 : Fr l p H H5 := Rf.eqp e5
              obtain ⟨d01, hd⟩ : (d = 0 ∨ d = 1) ∧ True := ⟨by omega, trivial⟩
              refine ⟨_, rfl, rfl, _, rfl, iteDs (fun d0 => ?_) (fun d0 => ?_)⟩
              · refine ⟨_, rfl, _, rfl, _, rfl, a, l, ms, i2, c4, rfl, L5, fun h => (kn h).elim, fun h => ?_⟩
                refine ⟨_, rfl, rfl, _, rfl, iteND rfl ?_⟩
                refine ⟨_, rfl, rfl, _, rfl, iteD (by rw [d0]; intro z; cases z) (iteF ?_)⟩
                exact ⟨_, rfl, _, rfl, a, l, m, ms, rfl, L5, h5, gm, fun H7 s7 => ⟨_, rfl, iteF ⟨_, _, _, _, _, _, ms, rfl, Fr.same R5 s7, L5.same s7, s7 _ _ h5, gm, em, p5.same s7⟩⟩⟩
              · refine iteF ⟨_, rfl, rfl, _, rfl, iteDs (fun d1 => ?_) (fun d1 => (d01.elim (fun e => d0 (by rw [e])) (fun e => d1 (by rw [e]))).elim)⟩
                refine ⟨_, rfl, _, rfl, _, rfl, a, l, ms, i2, c4, rfl, L5, fun h => (kn h).elim, fun h => ?_⟩
                refine ⟨_, rfl, rfl, _, rfl, iteND rfl ?_⟩
                exact ⟨_, rfl, _, rfl, a, l, m, ms, rfl, L5, h5, gm, fun H7 s7 => ⟨_, rfl, iteF ⟨_, _, _, _, _, _, ms, rfl, Fr.same R5 s7, L5.same s7, s7 _ _ h5, gm, em, p5.same s7⟩⟩⟩
          · obtain rfl : b = false := by
              cases b with
              | false => rfl
              | true => exact (hin (hb.mp rfl)).elim
            have kn : ¬ (inL ms i2 ∧ 0 ≤ c4) := fun h => hin h.1
            refine ⟨_, rfl, _, rfl, a, l, ms, i2, rfl, Lx, fun h => (hin h).elim, fun _ => ⟨_, rfl, rfl, _, rfl, iteD (by intro z; cases z) ⟨_, rfl, false, rfl, iteT ?_⟩⟩⟩
            refine ⟨_, rfl, _, rfl, a, dx, _, rfl, hax, a, l, ms, i2, rfl, Lx, fun _ => ⟨_, rfl, _, rfl, iteF ?_⟩, fun h => (hin h).elim⟩
            refine ⟨_, rfl, false, rfl, iteF (iteF ?_)⟩
            refine ⟨_, rfl, p, 2, rfl, p4, by decide, by decide, fun H5 d d0 d2 p5 e5 => ?_⟩
            have L5 := Lx.eqp lp p4 e5
            have h5 : H5 m = some (.lst (ms.map V.int)) := Pool.eq e5 mp hx
            have R5 : Fr l p H H5 := Rf.eqp e5
            obtain ⟨d01, hd⟩ : (d = 0 ∨ d = 1) ∧ True := ⟨by omega, trivial⟩
            refine ⟨_, rfl, rfl, _, rfl, iteDs (fun d0 => ?_) (fun d0 => ?_)⟩
            · refine ⟨_, rfl, _, rfl, _, rfl, a, l, ms, i2, c4, rfl, L5, fun h => (kn h).elim, fun h => ?_⟩
              refine ⟨_, rfl, rfl, _, rfl, iteND rfl ?_⟩
              refine ⟨_, rfl, rfl, _, rfl, iteD (by rw [d0]; intro z; cases z) (iteF ?_)⟩
              exact ⟨_, rfl, _, rfl, a, l, m, ms, rfl, L5, h5, gm, fun H7 s7 => ⟨_, rfl, iteF ⟨_, _, _, _, _, _, ms, rfl, Fr.same R5 s7, L5.same s7, s7 _ _ h5, gm, em, p5.same s7⟩⟩⟩
            · refine iteF ⟨_, rfl, rfl, _, rfl, iteDs (fun d1 => ?_) (fun d1 => (d01.elim (fun e => d0 (by rw [e])) (fun e => d1 (by rw [e]))).elim)⟩
              refine ⟨_, rfl, _, rfl, _, rfl, a, l, ms, i2, c4, rfl, L5, fun h => (kn h).elim, fun h => ?_⟩
              refine ⟨_, rfl, rfl, _, rfl, iteND rfl ?_⟩
              exact ⟨_, rfl, _, rfl, a, l, m, ms, rfl, L5, h5, gm, fun H7 s7 => ⟨_, rfl, iteF ⟨_, _, _, _, _, _, ms, rfl, Fr.same R5 s7, L5.same s7, s7 _ _ h5, gm, em, p5.same s7⟩⟩⟩
      · have ex : Eqp p H' H4 := (e2.trans e3).trans e4
        clear c0
        refine ⟨_, rfl, _, _, rfl, rfl, _, rfl, iteDs (fun k1 => ⟨_, rfl, _, rfl, _, _, rfl, rfl, ?_⟩) (fun k1 => ?_)⟩
        · dsimp only
          generalize hv : V.bl (decide (i2 < (ns.length : Int))) = vb
          obtain ⟨b, rfl, hb⟩ : ∃ b, vb = V.bl b ∧ (b = true ↔ inL ms i2) := ⟨_, hv.symm, by rw [decide_eq_true_iff]; unfold inL; rw [em]; omega⟩
          clear hv
          generalize (c3 : Int) = c4
          have Lx := Lm.eqp lp pm ex
          have hx := Pool.eq ex mp hm'
          obtain ⟨dx, hax, hlx⟩ := id Lx
          have Rf := fr.eqp ex
          by_cases hin : inL ms i2
          · obtain rfl : b = true := hb.mpr hin
            refine ⟨_, rfl, _, rfl, a, l, ms, i2, rfl, Lx, fun _ => ⟨_, rfl, rfl, _, rfl, iteD (by intro z; cases z) ⟨_, rfl, true, rfl, iteF (iteF ?_)⟩⟩, fun h => (h hin).elim⟩
            refine ⟨_, rfl, true, rfl, iteT ⟨_, rfl, _, _, rfl, rfl, _, rfl, iteDs (fun kc => ?_) (fun kc => ?_)⟩⟩
            · have hxn : ixN (ms.map V.int).length i2 = some i2.toNat := by
                rw [List.length_map]
                obtain ⟨k, rfl⟩ := Int.eq_ofNat_of_zero_le hin.1
                exact ixN_nat' (by have := hin.2; omega)
              refine ⟨_, rfl, _, rfl, _, rfl, m, _, _, _, rfl, rfl, hx, hxn, ?_⟩
              rw [← List.map_set]
              refine ⟨_, rfl, p, 2, rfl, p4.upd mp, by decide, by decide, fun H5 d d0 d2 p5 e5 => ?_⟩
              have L5 := (Lx.upd (o := .lst ((ms.set i2.toNat c4).map V.int)) ma ml).eqp lp (p4.upd mp) e5
              have h5 : H5 m = some (.lst ((ms.set i2.toNat c4).map V.int)) := Pool.eq e5 mp upd_same
              have R5 : Fr l p H H5 := (Fr.put Rf hm).eqp e5
              have hm6 : (upd H5 l (.lst ((ms.set i2.toNat c4).map V.int))) m = some (.lst ((ms.set i2.toNat c4).map V.int)) := by
                rw [upd_ne ml]
                exact h5
              have p6 : Pool (upd H5 l (.lst ((ms.set i2.toNat c4).map V.int))) p := p5.upd lp
              obtain ⟨d01, hd⟩ : (d = 0 ∨ d = 1) ∧ True := ⟨by omega, trivial⟩
              refine ⟨_, rfl, rfl, _, rfl, iteDs (fun d0 => ?_) (fun d0 => ?_)⟩
              · refine ⟨_, rfl, _, rfl, _, rfl, a, l, ms, i2, c4, rfl, L5, fun h => ?_, fun h => (h ⟨hin, kc⟩).elim⟩
                refine ⟨_, rfl, rfl, _, rfl, iteND rfl ?_⟩
                refine ⟨_, rfl, rfl, _, rfl, iteD (by rw [d0]; intro z; cases z) (iteF ?_)⟩
                exact ⟨_, rfl, _, rfl, a, l, m, ms.set i2.toNat c4, rfl, L5.putl, hm6, good_set gm kc, fun H7 s7 => ⟨_, rfl, iteF ⟨_, _, _, _, _, _, ms.set i2.toNat c4, rfl, Fr.same (Fr.putl R5) s7, L5.putl.same s7, s7 _ _ hm6, good_set gm kc, by rw [List.length_set]; exact em, p6.same s7⟩⟩⟩
              · refine iteF ⟨_, rfl, rfl, _, rfl, iteDs (fun d1 => ?_) (fun d1 => (d01.elim (fun e => d0 (by rw [e])) (fun e => d1 (by rw [e]))).elim)⟩
                refine ⟨_, rfl, _, rfl, _, rfl, a, l, ms, i2, c4, rfl, L5, fun h => ?_, fun h => (h ⟨hin, kc⟩).elim⟩
                refine ⟨_, rfl, rfl, _, rfl, iteND rfl ?_⟩
                exact ⟨_, rfl, _, rfl, a, l, m, ms.set i2.toNat c4, rfl, L5.putl, hm6, good_set gm kc, fun H7 s7 => ⟨_, rfl, iteF ⟨_, _, _, _, _, _, ms.set i2.toNat c4, rfl, Fr.same (Fr.putl R5) s7, L5.putl.same s7, s7 _ _ hm6, good_set gm kc, by rw [List.length_set]; exact em, p6.same s7⟩⟩⟩
            · have kn : ¬ (inL ms i2 ∧ 0 ≤ c4) := fun h => kc h.2
              refine ⟨_, rfl, p, 2, rfl, p4, by decide, by decide, fun H5 d d0 d2 p5 e5 => ?_⟩
              have L5 := Lx.eqp lp p4 e5
              have h5 : H5 m = some (.lst (ms.map V.int)) := Pool.eq e5 mp hx
              have R5 : Fr l p H H5 := Rf.eqp e5
              obtain ⟨d01, hd⟩ : (d = 0 ∨ d = 1) ∧ True := ⟨by omega, trivial⟩
              refine ⟨_, rfl, rfl, _, rfl, iteDs (fun d0 => ?_) (fun d0 => ?_)⟩
              · refine ⟨_, rfl, _, rfl, _, rfl, a, l, ms, i2, c4, rfl, L5, fun h => (kn h).elim, fun h => ?_⟩
                refine ⟨_, rfl, rfl, _, rfl, iteND rfl ?_⟩
                refine ⟨_, rfl, rfl, _, rfl, iteD (by rw [d0]; intro z; cases z) (iteF ?_)⟩
                exact ⟨_, rfl, _, rfl, a, l, m, ms, rfl, L5, h5, gm, fun H7 s7 => ⟨_, rfl, iteF ⟨_, _, _, _, _, _, ms, rfl, Fr.same R5 s7, L5.same s7, s7 _ _ h5, gm, em, p5.same s7⟩⟩⟩
              · refine iteF ⟨_, rfl, rfl, _, rfl, iteDs (fun d1 => ?_) (fun d1 => (d01.elim (fun e => d0 (by rw [e])) (fun e => d1 (by rw [e]))).elim)⟩
                refine ⟨_, rfl, _, rfl, _, rfl, a, l, ms, i2, c4, rfl, L5, fun h => (kn h).elim, fun h => ?_⟩
                refine ⟨_, rfl, rfl, _, rfl, iteND rfl ?_⟩
                exact ⟨_, rfl, _, rfl, a, l, m, ms, rfl, L5, h5, gm, fun H7 s7 => ⟨_, rfl, iteF ⟨_, _, _, _, _, _, ms, rfl, Fr.same R5 s7, L5.same s7, s7 _ _ h5, gm, em, p5.same s7⟩⟩⟩
          · obtain rfl : b = false := by
              cases b with
              | false => rfl
              | true => exact (hin (hb.mp rfl)).elim
            have kn : ¬ (inL ms i2 ∧ 0 ≤ c4) := fun h => hin h.1
            refine ⟨_, rfl, _, rfl, a, l, ms, i2, rfl, Lx, fun h => (hin h).elim, fun _ => ⟨_, rfl, rfl, _, rfl, iteD (by intro z; cases z) ⟨_, rfl, false, rfl, iteT ?_⟩⟩⟩
            refine ⟨_, rfl, _, rfl, a, dx, _, rfl, hax, a, l, ms, i2, rfl, Lx, fun _ => ⟨_, rfl, _, rfl, iteF ?_⟩, fun h => (hin h).elim⟩
            refine ⟨_, rfl, false, rfl, iteF (iteF ?_)⟩
            refine ⟨_, rfl, p, 2, rfl, p4, by decide, by decide, fun H5 d d0 d2 p5 e5 => ?_⟩
            have L5 := Lx.eqp lp p4 e5
            have h5 : H5 m = some (.lst (ms.map V.int)) := Pool.eq e5 mp hx
            have R5 : Fr l p H H5 := Rf.eqp e5
            obtain ⟨d01, hd⟩ : (d = 0 ∨ d = 1) ∧ True := ⟨by omega, trivial⟩
            refine ⟨_, rfl, rfl, _, rfl, iteDs (fun d0 => ?_) (fun d0 => ?_)⟩
            · refine ⟨_, rfl, _, rfl, _, rfl, a, l, ms, i2, c4, rfl, L5, fun h => (kn h).elim, fun h => ?_⟩
              refine ⟨_, rfl, rfl, _, rfl, iteND rfl ?_⟩
              refine ⟨_, rfl, rfl, _, rfl, iteD (by rw [d0]; intro z; cases z) (iteF ?_)⟩
              exact ⟨_, rfl, _, rfl, a, l, m, ms, rfl, L5, h5, gm, fun H7 s7 => ⟨_, rfl, iteF ⟨_, _, _, _, _, _, ms, rfl, Fr.same R5 s7, L5.same s7, s7 _ _ h5, gm, em, p5.same s7⟩⟩⟩
            · refine iteF ⟨_, rfl, rfl, _, rfl, iteDs (fun d1 => ?_) (fun d1 => (d01.elim (fun e => d0 (by rw [e])) (fun e => d1 (by rw [e]))).elim)⟩
              refine ⟨_, rfl, _, rfl, _, rfl, a, l, ms, i2, c4, rfl, L5, fun h => (kn h).elim, fun h => ?_⟩
              refine ⟨_, rfl, rfl, _, rfl, iteND rfl ?_⟩
              exact ⟨_, rfl, _, rfl, a, l, m, ms, rfl, L5, h5, gm, fun H7 s7 => ⟨_, rfl, iteF ⟨_, _, _, _, _, _, ms, rfl, Fr.same R5 s7, L5.same s7, s7 _ _ h5, gm, em, p5.same s7⟩⟩⟩
        · dsimp only
          generalize hv : V.bl false = vb
          obtain ⟨b, rfl, hb⟩ : ∃ b, vb = V.bl b ∧ (b = true ↔ inL ms i2) := ⟨_, hv.symm, by unfold inL; simp; omega⟩
          clear hv
          generalize (c3 : Int) = c4
          have Lx := Lm.eqp lp pm ex
          have hx := Pool.eq ex mp hm'
          obtain ⟨dx, hax, hlx⟩ := id Lx
          have Rf := fr.eqp ex
          by_cases hin : inL ms i2
          · obtain rfl : b = true := hb.mpr hin
            refine ⟨_, rfl, _, rfl, a, l, ms, i2, rfl, Lx, fun _ => ⟨_, rfl, rfl, _, rfl, iteD (by intro z; cases z) ⟨_, rfl, true, rfl, iteF (iteF ?_)⟩⟩, fun h => (h hin).elim⟩
            refine ⟨_, rfl, true, rfl, iteT ⟨_, rfl, _, _, rfl, rfl, _, rfl, iteDs (fun kc => ?_) (fun kc => ?_)⟩⟩
            · have hxn : ixN (ms.map V.int).length i2 = some i2.toNat := by
                rw [List.length_map]
                obtain ⟨k, rfl⟩ := Int.eq_ofNat_of_zero_le hin.1
                exact ixN_nat' (by have := hin.2; omega)
              refine ⟨_, rfl, _, rfl, _, rfl, m, _, _, _, rfl, rfl, hx, hxn, ?_⟩
              rw [← List.map_set]
              refine ⟨_, rfl, p, 2, rfl, p4.upd mp, by decide, by decide, fun H5 d d0 d2 p5 e5 => ?_⟩
              have L5 := (Lx.upd (o := .lst ((ms.set i2.toNat c4).map V.int)) ma ml).eqp lp (p4.upd mp) e5
              have h5 : H5 m = some (.lst ((ms.set i2.toNat c4).map V.int)) := Pool.eq e5 mp upd_same
              have R5 : Fr l p H H5 := (Fr.put Rf hm).eqp e5
              have hm6 : (upd H5 l (.lst ((ms.set i2.toNat c4).map V.int))) m = some (.lst ((ms.set i2.toNat c4).map V.int)) := by
                rw [upd_ne ml]
                exact h5
              have p6 : Pool (upd H5 l (.lst ((ms.set i2.toNat c4).map V.int))) p := p5.upd lp
              obtain ⟨d01, hd⟩ : (d = 0 ∨ d = 1) ∧ True := ⟨by omega, trivial⟩
              refine ⟨_, rfl, rfl, _, rfl, iteDs (fun d0 => ?_) (fun d0 => ?_)⟩
              · refine ⟨_, rfl, _, rfl, _, rfl, a, l, ms, i2, c4, rfl, L5, fun h => ?_, fun h => (h ⟨hin, kc⟩).elim⟩
                refine ⟨_, rfl, rfl, _, rfl, iteND rfl ?_⟩
                refine ⟨_, rfl, rfl, _, rfl, iteD (by rw [d0]; intro z; cases z) (iteF ?_)⟩
                exact ⟨_, rfl, _, rfl, a, l, m, ms.set i2.toNat c4, rfl, L5.putl, hm6, good_set gm kc, fun H7 s7 => ⟨_, rfl, iteF ⟨_, _, _, _, _, _, ms.set i2.toNat c4, rfl, Fr.same (Fr.putl R5) s7, L5.putl.same s7, s7 _ _ hm6, good_set gm kc, by rw [List.length_set]; exact em, p6.same s7⟩⟩⟩
              · refine iteF ⟨_, rfl, rfl, _, rfl, iteDs (fun d1 => ?_) (fun d1 => (d01.elim (fun e => d0 (by rw [e])) (fun e => d1 (by rw [e]))).elim)⟩
                refine ⟨_, rfl, _, rfl, _, rfl, a, l, ms, i2, c4, rfl, L5, fun h => ?_, fun h => (h ⟨hin, kc⟩).elim⟩
                refine ⟨_, rfl, rfl, _, rfl, iteND rfl ?_⟩
                exact ⟨_, rfl, _, rfl, a, l, m, ms.set i2.toNat c4, rfl, L5.putl, hm6, good_set gm kc, fun H7 s7 => ⟨_, rfl, iteF ⟨_, _, _, _, _, _, ms.set i2.toNat c4, rfl, Fr.same (Fr.putl R5) s7, L5.putl.same s7, s7 _ _ hm6, good_set gm kc, by rw [List.length_set]; exact em, p6.same s7⟩⟩⟩
            · have kn : ¬ (inL ms i2 ∧ 0 ≤ c4) := fun h => kc h.2
              refine ⟨_, rfl, p, 2, rfl, p4, by decide, by decide, fun H5 d d0 d2 p5 e5 => ?_⟩
              have L5 := Lx.eqp lp p4 e5
              have h5 : H5 m = some (.lst (ms.map V.int)) := Pool.eq e5 mp hx
              have R5 : Fr l p H H5 := Rf.eqp e5
              obtain ⟨d01, hd⟩ : (d = 0 ∨ d = 1) ∧ True := ⟨by omega, trivial⟩
              refine ⟨_, rfl, rfl, _, rfl, iteDs (fun d0 => ?_) (fun d0 => ?_)⟩
              · refine ⟨_, rfl, _, rfl, _, rfl, a, l, ms, i2, c4, rfl, L5, fun h => (kn h).elim, fun h => ?_⟩
                refine ⟨_, rfl, rfl, _, rfl, iteND rfl ?_⟩
                refine ⟨_, rfl, rfl, _, rfl, iteD (by rw [d0]; intro z; cases z) (iteF ?_)⟩
                exact ⟨_, rfl, _, rfl, a, l, m, ms, rfl, L5, h5, gm, fun H7 s7 => ⟨_, rfl, iteF ⟨_, _, _, _, _, _, ms, rfl, Fr.same R5 s7, L5.same s7, s7 _ _ h5, gm, em, p5.same s7⟩⟩⟩
              · refine iteF ⟨_, rfl, rfl, _, rfl, iteDs (fun d1 => ?_) (fun d1 => (d01.elim (fun e => d0 (by rw [e])) (fun e => d1 (by rw [e]))).elim)⟩
                refine ⟨_, rfl, _, rfl, _, rfl, a, l, ms, i2, c4, rfl, L5, fun h => (kn h).elim, fun h => ?_⟩
                refine ⟨_, rfl, rfl, _, rfl, iteND rfl ?_⟩
                exact ⟨_, rfl, _, rfl, a, l, m, ms, rfl, L5, h5, gm, fun H7 s7 => ⟨_, rfl, iteF ⟨_, _, _, _, _, _, ms, rfl, Fr.same R5 s7, L5.same s7, s7 _ _ h5, gm, em, p5.same s7⟩⟩⟩
          · obtain rfl : b = false := by
              cases b with
              | false => rfl
              | true => exact (hin (hb.mp rfl)).elim
            have kn : ¬ (inL ms i2 ∧ 0 ≤ c4) := fun h => hin h.1
            refine ⟨_, rfl, _, rfl, a, l, ms, i2, rfl, Lx, fun h => (hin h).elim, fun _ => ⟨_, rfl, rfl, _, rfl, iteD (by intro z; cases z) ⟨_, rfl, false, rfl, iteT ?_⟩⟩⟩
            refine ⟨_, rfl, _, rfl, a, dx, _, rfl, hax, a, l, ms, i2, rfl, Lx, fun _ => ⟨_, rfl, _, rfl, iteF ?_⟩, fun h => (hin h).elim⟩
            refine ⟨_, rfl, false, rfl, iteF (iteF ?_)⟩
            refine ⟨_, rfl, p, 2, rfl, p4, by decide, by decide, fun H5 d d0 d2 p5 e5 => ?_⟩
            have L5 := Lx.eqp lp p4 e5
            have h5 : H5 m = some (.lst (ms.map V.int)) := Pool.eq e5 mp hx
            have R5 : Fr l p H H5 := Rf.eqp e5
            obtain ⟨d01, hd⟩ : (d = 0 ∨ d = 1) ∧ True := ⟨by omega, trivial⟩
            refine ⟨_, rfl, rfl, _, rfl, iteDs (fun d0 => ?_) (fun d0 => ?_)⟩
            · refine ⟨_, rfl, _, rfl, _, rfl, a, l, ms, i2, c4, rfl, L5, fun h => (kn h).elim, fun h => ?_⟩
              refine ⟨_, rfl, rfl, _, rfl, iteND rfl ?_⟩
              refine ⟨_, rfl, rfl, _, rfl, iteD (by rw [d0]; intro z; cases z) (iteF ?_)⟩
              exact ⟨_, rfl, _, rfl, a, l, m, ms, rfl, L5, h5, gm, fun H7 s7 => ⟨_, rfl, iteF ⟨_, _, _, _, _, _, ms, rfl, Fr.same R5 s7, L5.same s7, s7 _ _ h5, gm, em, p5.same s7⟩⟩⟩
            · refine iteF ⟨_, rfl, rfl, _, rfl, iteDs (fun d1 => ?_) (fun d1 => (d01.elim (fun e => d0 (by rw [e])) (fun e => d1 (by rw [e]))).elim)⟩
              refine ⟨_, rfl, _, rfl, _, rfl, a, l, ms, i2, c4, rfl, L5, fun h => (kn h).elim, fun h => ?_⟩
              refine ⟨_, rfl, rfl, _, rfl, iteND rfl ?_⟩
              exact ⟨_, rfl, _, rfl, a, l, m, ms, rfl, L5, h5, gm, fun H7 s7 => ⟨_, rfl, iteF ⟨_, _, _, _, _, _, ms, rfl, Fr.same R5 s7, L5.same s7, s7 _ _ h5, gm, em, p5.same s7⟩⟩⟩
    · rintro σ H' ⟨v5, v6, v7, v8, v9, v10, ms, rfl, fr, Lm, hm', gm, em, pm⟩
      exact ⟨_, rfl, q H' m ms hm fr Lm hm' gm em pm⟩
end
end D0

namespace D0
open PySem PySem.Spec PyProof.Rows L2 KO
theorem cut_to (xs : List V) (i : Nat) (h : i ≤ xs.length) : cutV xs none (some (i : Int)) = xs.take i := by
  unfold cutV
  rw [HT.sIx_none, HT.sIx_nat, Nat.min_eq_left h]
  rfl
theorem cut_from (xs : List V) (i : Nat) (h : i ≤ xs.length) : cutV xs (some (i : Int)) none = xs.drop i := by
  unfold cutV
  rw [HT.sIx_none, HT.sIx_nat, Nat.min_eq_left h, List.take_of_length_le]
  rw [List.length_drop]
  exact Nat.le_refl _
section
variable {K : PySem.W.Frag}
theorem Same.eqp {p : Addr} {H H1 H2 : Hp} (s : Same H H1) (e : Eqp p H1 H2) (hp : H p = none) : Same H H2 := fun b o h => by
  rw [e b (ne_of_none h hp)]
  exact s b o h
theorem Same.fr {l p : Addr} {H H1 H2 : Hp} (s : Same H H1) (e : Fr l p H1 H2) (hl : H l = none) (hp : H p = none) : Same H H2 := fun b o h => e b o (ne_of_none h hp) (ne_of_none h hl) (s b o h)
/-- Load(c), c a good list or tuple -/
theorem make_read {C B c x dx : Addr} {ns : List Int} {H : Hp} {R : Hp → Prop} {E : XK} (nx : H x = none) (ndx : H dx = none) (ne : dx ≠ x) (hc : SqL K H c (ns.map V.int) ∨ SqT K H c (ns.map V.int)) (hg : good ns) (q : ∀ l H', H l = none → x ≠ l → Same H H' → Ld C H' x l ns → R H') :
    spInit K C B [.ref x, .ref c] (upd (upd H dx (.own x)) x (.ins C dx [])) (fun v H2 => v = .non ∧ R H2) E := by
  have s1 : Same H (upd (upd H dx (.own x)) x (.ins C dx [])) := Same.put (same_upd ndx) nx
  refine ⟨x, dx, c, ns, rfl, upd_same, hc.imp (fun h => SqL.ext h s1) (fun h => SqT.ext h s1), fun _ l nl => ⟨rfl, ?_⟩, fun h => (h hg).elim⟩
  have nlx : l ≠ x := fun e => by
    rw [e, upd_same] at nl
    cases nl
  have nl0 : H l = none := by
    rw [upd_ne nlx] at nl
    by_cases e : l = dx
    · rw [e]
      exact ndx
    · rw [upd_ne e] at nl
      exact nl
  refine q l _ nl0 (Ne.symm nlx) (Same.put (Same.put s1 nl0) nx) ⟨dx, upd_same, ?_⟩
  rw [upd_ne nlx, upd_same]
theorem Ld.fr {C : Addr} {H H' : Hp} {a l q p : Addr} {ns ms : List Int} (h : Ld C H a l ns) (e : Fr q p H H') (lq : l ≠ q) (lp : l ≠ p) (hq : H q = some (.lst (ms.map V.int))) (hp : Pool H p) : Ld C H' a l ns := by
  obtain ⟨dx, h1, h2⟩ := h
  obtain ⟨x, f, c, h3⟩ := hp
  exact ⟨dx, e _ _ (ne_of h1 h3 (by intro z; cases z)) (ne_of h1 hq (by intro z; cases z)) h1, e _ _ lp lq h2⟩
theorem Ld.eqh {C : Addr} {H H' : Hp} {a l q : Addr} {ns : List Int} {xs : List V} (h : Ld C H a l ns) (e : Eqp q H H') (lq : l ≠ q) (hq : H q = some (.lst xs)) : Ld C H' a l ns := by
  obtain ⟨dx, h1, h2⟩ := h
  exact ⟨dx, by rw [e a (ne_of h1 hq (by intro z; cases z))]; exact h1, by rw [e l lq]; exact h2⟩
theorem eq_read {C : Addr} {H : Hp} {a l b m : Addr} {ns ms : List Int} {Q : VK} {E : XK} (L : Ld C H a l ns) (M : Ld C H b m ms) (q : Q (.bl (decide (ns = ms))) H) : rEqO C (spEq C) E (.ref a) (.ref b) H Q := by
  obtain ⟨dx, h1, h2⟩ := id L
  obtain ⟨dy, g1, g2⟩ := id M
  exact ⟨a, dx, _, b, dy, _, rfl, rfl, h1, g1, a, l, ns, b, m, ms, rfl, L, M, _, rfl, q⟩
theorem Ld.at {C : Addr} {H : Hp} {a l : Addr} {ns : List Int} (h : Ld C H a l ns) : H l = some (.lst (ns.map V.int)) := let ⟨_, _, h⟩ := h; h
/-- one of the lists that are refused -/
def Bad (K : PySem.W.Frag) (H : Hp) (v : V) : Prop := ∃ (c : Addr) (ns : List Int), v = .ref c ∧ (SqL K H c (ns.map V.int) ∨ SqT K H c (ns.map V.int)) ∧ ¬ good ns
theorem keepT {σ : L2.St} {H : Hp} {te : TE} {R : V → Hp → Prop} {N : Hp → Prop} (h : te σ H R) : tYes σ H fun b H3 => if b = true then te σ H3 R else N H3 := by
  show if true = true then te σ H R else N H
  exact iteT h
theorem Bad.same {H H' : Hp} {v : V} (h : Bad K H v) (s : Same H H') : Bad K H' v := by
  obtain ⟨c, ns, rfl, hc, hb⟩ := h
  exact ⟨c, ns, rfl, hc.imp (fun h => SqL.ext h s) (fun h => SqT.ext h s), hb⟩
theorem rep_ints (n : Nat) (i : Int) : (List.replicate n [V.int i]).flatten = (List.replicate n i).map V.int := by
  induction n with
  | zero => rfl
  | succ n ih =>
    rw [List.replicate_succ, List.flatten_cons, ih, List.replicate_succ, List.map_cons]
    rfl
end
section
variable {P : Program} {w : World} {K : PySem.W.Frag} {mg : Str → Option Value} {base : Heap}
def spLaw (K : PySem.W.Frag) : Sp := fun vs H Q _ => ∃ (a : Addr) (ns : List Int), vs = [.ref a] ∧ SqL K H a (ns.map V.int) ∧ ns.length ≤ 63 ∧ ∀ H', Q (.bl true) H'
theorem scLaw : FnScope ["_law_script", "_law_pool_here", "_law_size_here", "_law_counts", "_law_place", "_law_wrong", "_law_row", "_law_handed", "_law_load", "_law_twin", "_law_other", "_law_model", "_law_longer", "_law_k"] ["_law_script"] (defScope sLaw) := ⟨rfl, rfl, rfl, by decide +kernel, rfl, by decide +kernel, by decide +kernel⟩
theorem ok_law (T : Tx K mg) : FnOk P w K mg base CX0 12 T.flaw T.dlaw ["_law_script"] (spLaw K) := by
  have G_law_pool := (ok_pool (P := P) (w := w) (base := base) T).mono (k := 10) (by decide)
  have G_law_size := (ok_size (P := P) (w := w) (base := base) T).mono (k := 10) (by decide)
  have G_law_count := (ok_count (P := P) (w := w) (base := base) T).mono (k := 10) (by decide)
  have G_law_take := (ok_take (P := P) (w := w) (base := base) T).mono (k := 10) (by decide)
  have G_law_refuses_counts := (ok_rfc (P := P) (w := w) (base := base) T).mono (k := 10) (by decide)
  have G_law_shows := (ok_shw (P := P) (w := w) (base := base) T).mono (k := 10) (by decide)
  have G_law_deeds := (ok_dds (P := P) (w := w) (base := base) T).mono (k := 10) (by decide)
  have G_law_near := (ok_near (P := P) (w := w) (base := base) T).mono (k := 10) (by decide)
  have G_law_same := (ok_same (P := P) (w := w) (base := base) T 2).mono (k := 10) (by decide)
  have GsB := (ok_sameB (P := P) (w := w) (base := base) T).mono (k := 10) (by decide)
  have G_Load := (ok_init (P := P) (w := w) (base := base) T).mono (k := 9) (by decide)
  have Glen := ok_len (P := P) (w := w) (base := base) T
  have Geq := ok_eq (P := P) (w := w) (base := base) T
  refine T.Flaw.ok scLaw (fun vs H Q E h => ?_) (fun cdv A outer s H vs Q E hr0 h => ?_)
  · obtain ⟨a, ns, rfl, _⟩ := h
    rfl
  · obtain ⟨sa, ns, rfl, hS, hlen, q⟩ := h
    have hr : Room 10 _ := hr0.mono (by decide)
    have h1 : Room 1 _ := hr0.mono (by decide)
    have h2 : Room 2 _ := hr0.mono (by decide)
    refine ⟨_, pss_cons (ps_set (i := 1) scLaw.nd rfl (.inr rfl) (pe_call G_law_pool hr (by rfl) T.g_law_pool T.F_law_pool.kp T.b_law_pool .nil pass0 (pa_cons (pv 0) (pa_cons pe_int pa_nil))))
      (pss_cons (ps_set (i := 2) scLaw.nd rfl (.inl rfl) (pe_call G_law_size hr (by rfl) T.g_law_size T.F_law_size.kp T.b_law_size .nil pass0 (pa_cons (pv 1) pa_nil)))
      (pss_cons (ps_setLc (i := 3) (own := [("_law_k", 13)]) (g := gName 13) rfl scLaw.nd rfl rfl (sw_true rfl rfl rfl (by decide +kernel)) (pi_range1 (by rfl) T.z_range (pa_cons (pv 2) pa_nil)) (blkOk_by (own := [("_law_k", 13)]) (N := ["_law_script", "_law_pool_here", "_law_size_here", "_law_counts", "_law_place", "_law_wrong", "_law_row", "_law_handed", "_law_load", "_law_twin", "_law_other", "_law_model", "_law_longer", "_law_k"]) (sc := defScope sLaw) (by decide +kernel)) (fun _ _ _ _ _ => pg_name (i := 13) scLaw.nd rfl (.inl rfl)) (fun _ _ _ _ _ => pts_nil) (fun _ _ _ _ _ => (pe_call G_law_count hr (by rfl) T.g_law_count T.F_law_count.kp T.b_law_count .nil pass0 (pa_cons (pv 1) pa_nil))))
      (pss_cons (ps_set (i := 4) scLaw.nd rfl (.inl rfl) (pe_call G_law_take hr (by rfl) T.g_law_take T.F_law_take.kp T.b_law_take .nil pass0 (pa_cons (pv 1) (pa_cons (pv 2) pa_nil))))
      (pss_cons (ps_set (i := 5) scLaw.nd rfl (.inl rfl) (pe_op op_cat (pe_op op_cat (pe_slice sl_list (pv 3) po_none (po_some (pv 4))) (pe_lst (pa_cons (pe_op op_sub (pe_un un_neg pe_int) (pe_call G_law_take hr (by rfl) T.g_law_take T.F_law_take.kp T.b_law_take .nil pass0 (pa_cons (pv 1) (pa_cons (pe_op op_pow pe_int pe_int) pa_nil)))) pa_nil))) (pe_slice sl_list (pv 3) (po_some (pe_op op_add (pv 4) pe_int)) po_none)))
      (pss_cons (ps_for PassesOwn.never rfl (pi_list (pe_lst (pa_cons (pe_lst pa_nil) (pa_cons (pe_tup pa_nil) (pa_cons (pv 5) (pa_cons (pe_callTy (T := "tuple") call_tuple_of (by rfl) T.z_tuple (by decide +kernel) (pa_cons (pv 5) pa_nil)) (pa_cons (pe_op op_rep (pe_lst (pa_cons pe_int pa_nil)) (pe_op op_add pe_int (pe_call G_law_take hr (by rfl) T.g_law_take T.F_law_take.kp T.b_law_take .nil pass0 (pa_cons (pv 1) (pa_cons pe_int pa_nil))))) (pa_cons (pe_callTy (T := "tuple") call_tuple_of (by rfl) T.z_tuple (by decide +kernel) (pa_cons (pe_op op_rep (pe_lst (pa_cons pe_int pa_nil)) pe_int) pa_nil)) pa_nil)))))))) (pg_name (i := 6) scLaw.nd rfl (.inl rfl))
      (pss_one (ps_if (pt_not (pt_val (pe_call G_law_refuses_counts hr (by rfl) T.g_law_refuses_counts T.F_law_refuses_counts.kp T.b_law_refuses_counts .nil pass0 (pa_cons (pv 6) pa_nil)))) (pss_one ps_never) (pss_nil))))
      (pss_cons (ps_set (i := 7) scLaw.nd rfl (.inl rfl) (pe_callTy (T := "list") call_list_of (by rfl) T.z_list (by decide +kernel) (pa_cons (pv 3) pa_nil)))
      (pss_cons (ps_set (i := 8) scLaw.nd rfl (.inl rfl) (pe_make T.M_Load G_Load hr (by rfl) T.g_Load T.bLoad_init .nil passL (pa_cons (pv 7) pa_nil)))
      (pss_cons (ps_set (i := 9) scLaw.nd rfl (.inl rfl) (pe_make T.M_Load G_Load hr (by rfl) T.g_Load T.bLoad_init .nil passL (pa_cons (pv 7) pa_nil)))
      (pss_cons (ps_set (i := 10) scLaw.nd rfl (.inl rfl) (pe_make T.M_Load G_Load hr (by rfl) T.g_Load T.bLoad_init .nil passL (pa_cons (pe_callTy (T := "tuple") call_tuple_of (by rfl) T.z_tuple (by decide +kernel) (pa_cons (pv 3) pa_nil)) pa_nil)))
      (pss_cons (ps_if (PW.pt (pw_or (pt_not (pt_val (pe_call G_law_shows hr (by rfl) T.g_law_shows T.F_law_shows.kp T.b_law_shows .nil pass0 (pa_cons (pv 8) (pa_cons (pv 3) pa_nil))))) (pw_or (pt_not (pt_val (pe_call G_law_shows hr (by rfl) T.g_law_shows T.F_law_shows.kp T.b_law_shows .nil pass0 (pa_cons (pv 10) (pa_cons (pv 3) pa_nil))))) (pw_or1 (pt_cmpR op_ne (pe_callB (len_own T.m_Load_len Glen h2 T.bLoad_len (fun σ => at0)) (by rfl) T.z_len (by decide +kernel) (pa_cons (pe_make T.M_Load G_Load hr (by rfl) T.g_Load T.bLoad_init .nil passL (pa_cons (pe_op op_rep (pe_lst (pa_cons pe_int pa_nil)) pe_int) pa_nil)) pa_nil)) pe_int (nomark _)))))) (pss_one ps_never) (pss_nil))
      (pss_cons (ps_set (i := 11) scLaw.nd rfl (.inl rfl) (pe_call G_law_deeds hr (by rfl) T.g_law_deeds T.F_law_deeds.kp T.b_law_deeds .nil pass0 (pa_cons (pv 8) (pa_cons (pv 3) (pa_cons (pe_call G_law_pool hr (by rfl) T.g_law_pool T.F_law_pool.kp T.b_law_pool .nil pass0 (pa_cons (pv 0) (pa_cons pe_int pa_nil))) pa_nil)))))
      (pss_cons (ps_if (PW.pt (pw_or (pt_cmpR op_isN (pv 11) pe_non (nomark _)) (pw_or1 (pt_not (pt_val (pe_call G_law_same hr (by rfl) T.g_law_same T.F_law_same.kp T.b_law_same .nil pass0 (pa_cons (pv 7) (pa_cons (pv 3) pa_nil)))))))) (pss_one ps_never) (pss_nil))
      (pss_cons (ps_asg (pe_op op_add (pe_ix ix_list (pv 7) (pv 4) (fun _ _ => rfl)) pe_int) (pg_sub (pv 7) (pv 4) set_list))
      (pss_cons (ps_expr (pe_bm PySem.F.plainAttrs_list PySem.F.slot_list_append PySem.F.type_list_append mt_append (pv 7) (pa_cons pe_int pa_nil)))
      (pss_cons (ps_if (PW.pt (pw_or (pt_not (pt_val (pe_call G_law_shows hr (by rfl) T.g_law_shows T.F_law_shows.kp T.b_law_shows .nil pass0 (pa_cons (pv 8) (pa_cons (pv 11) pa_nil))))) (pw_or (pt_not (pt_val (pe_call G_law_shows hr (by rfl) T.g_law_shows T.F_law_shows.kp T.b_law_shows .nil pass0 (pa_cons (pv 9) (pa_cons (pv 3) pa_nil))))) (pw_or1 (pt_not (pt_val (pe_call G_law_shows hr (by rfl) T.g_law_shows T.F_law_shows.kp T.b_law_shows .nil pass0 (pa_cons (pv 10) (pa_cons (pv 3) pa_nil))))))))) (pss_one ps_never) (pss_nil))
      (pss_cons (ps_set (i := 12) scLaw.nd rfl (.inl rfl) (pe_op op_cat (pv 11) (pe_lst (pa_cons pe_int pa_nil))))
      (pss_cons (ps_if (pt_cmpR op_eq (pv 2) pe_int (nomark _)) (pss_one (ps_set (i := 12) scLaw.nd rfl (.inl rfl) (pe_slice sl_list (pv 11) (po_some pe_int) po_none))) (pss_nil))
      (pss_cons (ps_if (PW.pt (pw_or (pt_not (pt_val (pe_call GsB hr (by rfl) T.g_law_same T.F_law_same.kp T.b_law_same .nil pass0 (pa_cons (pe_cmpR (eq_own T.m_Load_eq Geq h1 T.bLoad_eq (fun σ => at0)) (pv 8) (pe_make T.M_Load G_Load hr (by rfl) T.g_Load T.bLoad_init .nil passL (pa_cons (pv 12) pa_nil)) (nomark _)) (pa_cons pe_bl pa_nil))))) (pw_or1 (pt_not (pt_val (pe_call GsB hr (by rfl) T.g_law_same T.F_law_same.kp T.b_law_same .nil pass0 (pa_cons (pe_cmpR (eq_own T.m_Load_eq Geq h1 T.bLoad_eq (fun σ => at0)) (pv 8) (pe_make T.M_Load G_Load hr (by rfl) T.g_Load T.bLoad_init .nil passL (pa_cons (pe_callTy (T := "tuple") call_tuple_of (by rfl) T.z_tuple (by decide +kernel) (pa_cons (pe_call G_law_near hr (by rfl) T.g_law_near T.F_law_near.kp T.b_law_near .nil pass0 (pa_cons (pv 11) (pa_cons (pv 4) pa_nil))) pa_nil)) pa_nil)) (nomark _)) (pa_cons pe_bl pa_nil)))))))) (pss_one ps_never) (pss_nil))
      (pss_one (ps_ret (pe_and (pe_call GsB hr (by rfl) T.g_law_same T.F_law_same.kp T.b_law_same .nil pass0 (pa_cons (pe_cmpR (eq_own T.m_Load_eq Geq h1 T.bLoad_eq (fun σ => at0)) (pv 8) (pe_make T.M_Load G_Load hr (by rfl) T.g_Load T.bLoad_init .nil passL (pa_cons (pe_callTy (T := "list") call_list_of (by rfl) T.z_list (by decide +kernel) (pa_cons (pv 11) pa_nil)) pa_nil)) (nomark _)) (pa_cons pe_bl pa_nil))) (pe_one (pe_call GsB hr (by rfl) T.g_law_same T.F_law_same.kp T.b_law_same .nil pass0 (pa_cons (pe_cmpR (eq_own T.m_Load_eq Geq h1 T.bLoad_eq (fun σ => at0)) (pv 8) (pv 9) (nomark _)) (pa_cons (pe_cmpR (op_eqD hr.units) (pv 11) (pv 3) (nomark _)) pa_nil))))))))))))))))))))))))), ?_⟩
    refine ⟨_, rfl, sa, ns, 0, rfl, hS, Nat.zero_le _, fun H1 p p0 s1 hp1 => ?_⟩
    refine ⟨_, rfl, p, rfl, hp1, fun H2 n0 n1 n60 hp2 e2 => ?_⟩
    obtain ⟨n, rfl⟩ : ∃ j : Nat, n0 = (j : Int) := ⟨n0.toNat, by omega⟩
    have s2 := Same.eqp s1 e2 p0
    refine ⟨_, rfl, _, rfl, by omega, by omega, fun D nD => ?_⟩
    have Dp : D ≠ p := hp2.ne nD
    refine lc_range (lo := 0) (n := n) (fun i H' => ∃ cs : List Int, cs.length = i ∧ (∀ c ∈ cs, 0 ≤ c) ∧ H' D = some (.lst (cs.map V.int)) ∧ Pool H' p ∧ Same H H') ⟨[], rfl, by simp, upd_same, hp2.upd Dp, Same.put s2 (s2.free nD)⟩ ?_ ?_
    · rintro i H3 hi ⟨cs, ecs, hcs, hD, hp3, s3⟩
      refine ⟨rfl, keepT ?_⟩
      refine ⟨_, rfl, p, rfl, hp3, fun H4 c c0 hp4 e4 => ?_⟩
      have hD4 : H4 D = some (.lst (cs.map V.int)) := Pool.eq e4 Dp hD
      refine ⟨_, hD4, by rw [List.length_map, sizeLine_eq]; omega, cs ++ [c], by rw [List.length_append, ecs]; rfl, fun z hz => ?_, ?_, hp4.upd Dp, Same.put (Same.eqp s3 e4 p0) (s2.free nD)⟩
      · rcases List.mem_append.mp hz with h | h
        · exact hcs z h
        · rw [List.mem_singleton.mp h]
          exact c0
      · rw [upd_same, List.map_append]
        rfl
    · rintro H3 ⟨cs, ecs, hcs, hD, hp3, s3⟩
      have hg : good cs := ⟨by omega, hcs⟩
      refine ⟨_, rfl, _, rfl, p, n, rfl, hp3, by omega, by omega, fun H4 r0 r00 r1 hp4 e4 => ?_⟩
      obtain ⟨r, rfl⟩ : ∃ j : Nat, r0 = (j : Int) := ⟨r0.toNat, by omega⟩
      have hD4 : H4 D = some (.lst (cs.map V.int)) := Pool.eq e4 Dp hD
      have s4 := Same.eqp s3 e4 p0
      have szc : cs.length ≤ 60 := by omega
      -- counts[:place] + [-1 - take(..)] + counts[place + 1:]
      refine ⟨_, rfl, _, rfl, _, rfl, D, _, rfl, SqL.of hD4, fun c1 m1 => ?_⟩
      have ec1 : cutV (cs.map V.int) none (some ((r : Nat) : Int)) = (cs.take r).map V.int := by
        rw [cut_to _ _ (by rw [List.length_map]; omega), List.map_take]
      rw [ec1]
      have c1p := hp4.ne m1
      refine ⟨_, rfl, _, rfl, _, _, rfl, rfl, ⟨by decide, by decide, by decide⟩, p, _, rfl, hp4.upd c1p, by decide, by decide, fun H6 z z0 z1 hp6 e6 => ⟨_, _, rfl, rfl, ?_⟩⟩
      have hc1 : H6 c1 = some (.lst ((cs.take r).map V.int)) := Pool.eq e6 c1p upd_same
      have hD6 : H6 D = some (.lst (cs.map V.int)) := Pool.eq e6 Dp (same_upd m1 _ _ hD4)
      have s6 : Same H H6 := Same.eqp (Same.put s4 (s4.free m1)) e6 p0
      refine ⟨(by show 1 ≤ sizeLine; decide), fun c2 m2 => ?_⟩
      have t2 : Same H6 (upd H6 c2 (.lst [V.int (-1 - z)])) := same_upd m2
      refine ⟨c1, c2, _, _, rfl, rfl, t2 _ _ hc1, upd_same, ?_, fun c3 m3 => ?_⟩
      · rw [List.length_map, List.length_take, sizeLine_eq]
        show min r cs.length + 1 ≤ _
        omega
      have t3 := t2.trans (same_upd (o := .lst ((cs.take r).map V.int ++ [V.int (-1 - z)])) m3)
      refine ⟨_, rfl, _, rfl, _, _, rfl, rfl, _, rfl, D, _, rfl, SqL.of (t3 _ _ hD6), fun c4 m4 => ?_⟩
      have ec4 : cutV (cs.map V.int) (some ((r : Int) + 1)) none = (cs.drop (r + 1)).map V.int := by
        rw [show ((r : Int) + 1) = ((r + 1 : Nat) : Int) by omega, cut_from _ _ (by rw [List.length_map]; omega), List.map_drop]
      have t4 := t3.trans (same_upd (o := .lst (cutV (cs.map V.int) (some ((r : Int) + 1)) none)) m4)
      have hc3 : (upd (upd (upd H6 c2 (.lst [V.int (-1 - z)])) c3 (.lst ((cs.take r).map V.int ++ [V.int (-1 - z)]))) c4 (.lst (cutV (cs.map V.int) (some ((r : Int) + 1)) none))) c3 = some (.lst ((cs.take r).map V.int ++ [V.int (-1 - z)])) := same_upd m4 _ _ upd_same
      have hc4 : (upd (upd (upd H6 c2 (.lst [V.int (-1 - z)])) c3 (.lst ((cs.take r).map V.int ++ [V.int (-1 - z)]))) c4 (.lst (cutV (cs.map V.int) (some ((r : Int) + 1)) none))) c4 = some (.lst ((cs.drop (r + 1)).map V.int)) := by
        rw [← ec4]
        exact upd_same
      refine ⟨c3, c4, _, _, rfl, rfl, hc3, hc4, ?_, fun wq m5 => ?_⟩
      · rw [List.length_append, List.length_map, List.length_take, List.length_map, List.length_drop, sizeLine_eq]
        show min r cs.length + 1 + _ ≤ _
        omega
      -- the wrong list stands at wq
      have ews : ((cs.take r).map V.int ++ [V.int (-1 - z)]) ++ (cs.drop (r + 1)).map V.int = (cs.take r ++ [-1 - z] ++ cs.drop (r + 1)).map V.int := by
        rw [List.map_append, List.map_append]
        rfl
      have t5 := t4.trans (same_upd (o := .lst (((cs.take r).map V.int ++ [V.int (-1 - z)]) ++ (cs.drop (r + 1)).map V.int)) m5)
      have hw : (upd (upd (upd (upd H6 c2 (.lst [V.int (-1 - z)])) c3 (.lst ((cs.take r).map V.int ++ [V.int (-1 - z)]))) c4 (.lst (cutV (cs.map V.int) (some ((r : Int) + 1)) none))) wq (.lst (((cs.take r).map V.int ++ [V.int (-1 - z)]) ++ (cs.drop (r + 1)).map V.int))) wq = some (.lst ((cs.take r ++ [-1 - z] ++ cs.drop (r + 1)).map V.int)) := by
        rw [← ews]
        exact upd_same
      have bad : ¬ good (cs.take r ++ [-1 - z] ++ cs.drop (r + 1)) := fun h => by
        have := h.2 (-1 - z) (by simp)
        omega
      have wp : wq ≠ p := (hp6.same t4).ne m5
      have hD7 := t5 _ _ hD6
      have hp7 := hp6.same t5
      have s7 := s6.trans t5
      dsimp only
      generalize (upd (upd (upd (upd H6 c2 (.lst [V.int (-1 - z)])) c3 (.lst ((cs.take r).map V.int ++ [V.int (-1 - z)]))) c4 (.lst (cutV (cs.map V.int) (some ((r : Int) + 1)) none))) wq (.lst (((cs.take r).map V.int ++ [V.int (-1 - z)]) ++ (cs.drop (r + 1)).map V.int))) = H7 at hw hD7 hp7 s7 ⊢
      clear t5 t4 t3 t2 hc3 hc4 ews ec4 ec1
      generalize cs.take r ++ [-1 - z] ++ cs.drop (r + 1) = wr at hw bad
      -- the six lists
      refine ⟨Nat.zero_le _, fun q1 k1 => ⟨Nat.zero_le _, fun q2 k2 => ?_⟩⟩
      have u2 := (same_upd (o := .lst []) k1).trans (same_upd (o := .tup []) k2)
      refine ⟨_, rfl, _, rfl, wq, _, rfl, .inl ⟨SqL.of (u2 _ _ hw), fun q3 k3 => ?_⟩⟩
      have u3 := u2.trans (same_upd (o := .tup (wr.map V.int)) k3)
      refine ⟨(by show 1 ≤ sizeLine; decide), fun q4 k4 => ?_⟩
      have u4 := u3.trans (same_upd (o := .lst [V.int 0]) k4)
      have hp8 := hp7.same u4
      refine ⟨_, rfl, p, _, rfl, hp8, by decide, by decide, fun H11 y y0 y1 hp11 e11 => ⟨_, _, rfl, rfl, ?_⟩⟩
      have np : ∀ {a : Addr} {o : HO}, H7 a = some o → a ≠ p → H11 a = some o := fun h n => Pool.eq e11 n (u4 _ _ h)
      have q1p : q1 ≠ p := hp7.ne k1
      have q2p : q2 ≠ p := (hp7.same (same_upd k1)).ne k2
      have q3p : q3 ≠ p := (hp7.same u2).ne k3
      have q4p : q4 ≠ p := (hp7.same u3).ne k4
      have hD11 : H11 D = some (.lst (cs.map V.int)) := np hD7 Dp
      have hw11 : H11 wq = some (.lst (wr.map V.int)) := np hw wp
      have v1 := same_upd (H := H7) (o := .lst []) k1
      have v2 := same_upd (H := upd H7 q1 (.lst [])) (o := .tup []) k2
      have v3 := same_upd (H := upd (upd H7 q1 (.lst [])) q2 (.tup [])) (o := .tup (wr.map V.int)) k3
      have v4 := same_upd (H := upd (upd (upd H7 q1 (.lst [])) q2 (.tup [])) q3 (.tup (wr.map V.int))) (o := .lst [V.int 0]) k4
      have hq1 : H11 q1 = some (.lst []) := Pool.eq e11 q1p (v4 _ _ (v3 _ _ (v2 _ _ upd_same)))
      have hq2 : H11 q2 = some (.tup []) := Pool.eq e11 q2p (v4 _ _ (v3 _ _ upd_same))
      have hq3 : H11 q3 = some (.tup (wr.map V.int)) := Pool.eq e11 q3p (v4 _ _ upd_same)
      have hq4 : H11 q4 = some (.lst [V.int 0]) := Pool.eq e11 q4p upd_same
      have s11 : Same H H11 := Same.eqp (s7.trans u4) e11 p0
      clear v1 v2 v3 v4 u2 u3 u4 np
      clear k1 k2 k3 k4 e11 hp8
      refine ⟨q4, 61 + y, _, rfl, rfl, hq4, by omega, by omega, ?_, fun q5 k5 => ?_⟩
      · rw [sizeLine_eq]
        show 1 * (61 + y).toNat ≤ _
        omega
      rw [rep_ints]
      have u5 := same_upd (o := .lst ((List.replicate (61 + y).toNat 0).map V.int)) k5
      refine ⟨(by show 1 ≤ sizeLine; decide), fun q6 k6 => ⟨q6, 61, _, rfl, rfl, upd_same, by decide, by decide, ?_, fun q7 k7 => ?_⟩⟩
      · rw [sizeLine_eq]
        decide
      rw [rep_ints]
      have u6 := u5.trans (same_upd (o := .lst [V.int 1]) k6)
      refine ⟨q7, _, rfl, .inl ⟨SqL.of upd_same, fun q8 k8 => ?_⟩⟩
      have u7 := u6.trans (same_upd (o := .lst ((List.replicate (61 : Int).toNat 1).map V.int)) k7)
      refine ⟨(by show 6 ≤ sizeLine; decide), fun rw k9 => ?_⟩
      have u8 := u7.trans (same_upd (o := .tup ((List.replicate (61 : Int).toNat 1).map V.int)) k8)
      have u9 := u8.trans (same_upd (o := .lst [V.ref q1, V.ref q2, V.ref wq, V.ref q3, V.ref q5, V.ref q8]) k9)
      have hq5 : (upd (upd (upd (upd (upd H11 q5 (.lst ((List.replicate (61 + y).toNat 0).map V.int))) q6 (.lst [V.int 1])) q7 (.lst ((List.replicate (61 : Int).toNat 1).map V.int))) q8 (.tup ((List.replicate (61 : Int).toNat 1).map V.int))) rw (.lst [V.ref q1, V.ref q2, V.ref wq, V.ref q3, V.ref q5, V.ref q8])) q5 = some (.lst ((List.replicate (61 + y).toNat 0).map V.int)) :=
        same_upd k9 _ _ (same_upd k8 _ _ (same_upd k7 _ _ (same_upd k6 _ _ upd_same)))
      have hq8 : (upd (upd (upd (upd (upd H11 q5 (.lst ((List.replicate (61 + y).toNat 0).map V.int))) q6 (.lst [V.int 1])) q7 (.lst ((List.replicate (61 : Int).toNat 1).map V.int))) q8 (.tup ((List.replicate (61 : Int).toNat 1).map V.int))) rw (.lst [V.ref q1, V.ref q2, V.ref wq, V.ref q3, V.ref q5, V.ref q8])) q8 = some (.tup ((List.replicate (61 : Int).toNat 1).map V.int)) :=
        same_upd k9 _ _ upd_same
      have hrw : (upd (upd (upd (upd (upd H11 q5 (.lst ((List.replicate (61 + y).toNat 0).map V.int))) q6 (.lst [V.int 1])) q7 (.lst ((List.replicate (61 : Int).toNat 1).map V.int))) q8 (.tup ((List.replicate (61 : Int).toNat 1).map V.int))) rw (.lst [V.ref q1, V.ref q2, V.ref wq, V.ref q3, V.ref q5, V.ref q8])) rw = some (.lst [V.ref q1, V.ref q2, V.ref wq, V.ref q3, V.ref q5, V.ref q8]) := upd_same
      generalize (upd (upd (upd (upd (upd H11 q5 (.lst ((List.replicate (61 + y).toNat 0).map V.int))) q6 (.lst [V.int 1])) q7 (.lst ((List.replicate (61 : Int).toNat 1).map V.int))) q8 (.tup ((List.replicate (61 : Int).toNat 1).map V.int))) rw (.lst [V.ref q1, V.ref q2, V.ref wq, V.ref q3, V.ref q5, V.ref q8])) = H12 at u9 hq5 hq8 hrw ⊢
      have rows : ∀ v, v ∈ [V.ref q1, V.ref q2, V.ref wq, V.ref q3, V.ref q5, V.ref q8] → Bad K H12 v := fun v hv => by
        rcases List.mem_cons.mp hv with rfl | hv
        · exact ⟨q1, [], rfl, .inl (SqL.of (u9 _ _ hq1)), fun h => by have := h.1.1; simp at this⟩
        rcases List.mem_cons.mp hv with rfl | hv
        · exact ⟨q2, [], rfl, .inr (SqT.of (u9 _ _ hq2)), fun h => by have := h.1.1; simp at this⟩
        rcases List.mem_cons.mp hv with rfl | hv
        · exact ⟨wq, wr, rfl, .inl (SqL.of (u9 _ _ hw11)), bad⟩
        rcases List.mem_cons.mp hv with rfl | hv
        · exact ⟨q3, wr, rfl, .inr (SqT.of (u9 _ _ hq3)), bad⟩
        rcases List.mem_cons.mp hv with rfl | hv
        · exact ⟨q5, _, rfl, .inl (SqL.of hq5), fun h => by have := h.1.2; rw [List.length_replicate] at this; omega⟩
        rcases List.mem_cons.mp hv with rfl | hv
        · exact ⟨q8, _, rfl, .inr (SqT.of hq8), fun h => by have := h.1.2; rw [List.length_replicate] at this; revert this; decide⟩
        cases hv
      have hD12 := u9 _ _ hD11
      have hp12 := hp11.same u9
      have s12 := s11.trans u9
      clear u5 u6 u7 u8 hq1 hq2 hq3 hq4
      refine ⟨rw, rfl, ⟨_, SqL.of hrw⟩, for_list (K := K) (a := rw) (xs := [V.ref q1, V.ref q2, V.ref wq, V.ref q3, V.ref q5, V.ref q8]) (fun _ σ H' => (∃ v6 v13, σ = [some (.ref sa), some (.ref p), some (.int n), some (.ref D), some (.int r), some (.ref wq), v6, none, none, none, none, none, none, v13]) ∧ Same H12 H') ⟨⟨_, _, rfl⟩, Same.refl _⟩ (fun i σ H' _ h => SqL.of (h.2 _ _ hrw)) ?_ ?_⟩
      · rintro i v σ H' hi ⟨⟨v6, v13, rfl⟩, sm⟩
        obtain ⟨c, ws, rfl, hc, hbad⟩ := (rows v (List.mem_of_getElem? hi)).same sm
        exact ⟨_, rfl, c, ws, rfl, hc, hbad, fun H'' s'' => ⟨_, rfl, iteF ⟨⟨_, _, rfl⟩, sm.trans s''⟩⟩⟩
      · rintro σ H13 ⟨⟨v6, v13, rfl⟩, s1213⟩
        have hD13 := s1213 _ _ hD12
        have hp13 := hp12.same s1213
        have s13 := s12.trans s1213
        clear rows hrw hq5 hq8 hD12 hp12 s12 u9 hD11 hw11
        -- handed, load, twin, other
        refine ⟨_, rfl, D, _, rfl, .inl (SqL.of hD13), fun hd m14 => ?_⟩
        have t14 := same_upd (o := .lst (cs.map V.int)) m14
        have hh14 : (upd H13 hd (.lst (cs.map V.int))) hd = some (.lst (cs.map V.int)) := upd_same
        have hdp := hp13.ne m14
        have hdD : hd ≠ D := (ne_of_none hD13 m14).symm
        generalize upd H13 hd (.lst (cs.map V.int)) = H14 at t14 hh14 ⊢
        refine ⟨_, rfl, fun x1 y1 nx1 ny1 ne1 => make_read nx1 ny1 ne1 (.inl (SqL.of hh14)) hg fun l1 H15 nl1 _ t15 L1 => ?_⟩
        refine ⟨_, rfl, fun x2 y2 nx2 ny2 ne2 => make_read nx2 ny2 ne2 (.inl (SqL.of (t15 _ _ hh14))) hg fun l2 H16 nl2 _ t16 L2 => ?_⟩
        refine ⟨_, rfl, D, _, rfl, .inl ⟨SqL.of (((t14.trans t15).trans t16) _ _ hD13), fun t3 m17 => ?_⟩⟩
        refine fun x3 y3 nx3 ny3 ne3 => make_read nx3 ny3 ne3 (.inr (SqT.of upd_same)) hg fun l3 H17 nl3 _ t17 L3 => ?_
        have t16b := same_upd (o := .tup (cs.map V.int)) m17
        -- what stands behind the three loads
        have nl21 : l2 ≠ l1 := (ne_of_none (L1.at) nl2).symm
        have nl31 : l3 ≠ l1 := (ne_of_none (t16b _ _ (t16 _ _ (L1.at))) nl3).symm
        have hdl1 : hd ≠ l1 := ne_of_none hh14 nl1
        have hdl2 : hd ≠ l2 := ne_of_none (t15 _ _ hh14) nl2
        have hdl3 : hd ≠ l3 := ne_of_none (t16b _ _ (t16 _ _ (t15 _ _ hh14))) nl3
        have Dl1 : D ≠ l1 := ne_of_none (t14 _ _ hD13) nl1
        have L1 := L1.same ((t16.trans t16b).trans t17)
        have L2 := L2.same (t16b.trans t17)
        have t1417 := ((t15.trans t16).trans t16b).trans t17
        have hD17 := (t14.trans t1417) _ _ hD13
        have hh17 := t1417 _ _ hh14
        have s17 := s13.trans (t14.trans t1417)
        have l10 : H l1 = none := (s13.trans t14).free nl1
        clear t14 t15 t16 t16b t17 t1417 hh14 hD13 m14 nl1 nl2 nl3 m17 s13 s1213 hp13
        refine ⟨_, rfl, _, rfl, x1, l1, D, cs, rfl, L1, hD17, hg, fun H18 t18 => ⟨_, rfl, iteF ?_⟩⟩
        refine ⟨_, rfl, _, rfl, x3, l3, D, cs, rfl, L3.same t18, t18 _ _ hD17, hg, fun H19 t19 => ⟨_, rfl, iteF ?_⟩⟩
        refine ⟨(by show 1 ≤ sizeLine; decide), fun b1 m20 => ⟨b1, 60, _, rfl, rfl, upd_same, by decide, by decide, ?_, fun b2 m21 => ?_⟩⟩
        · rw [sizeLine_eq]
          decide
        rw [rep_ints]
        have t20 := same_upd (o := .lst [V.int 0]) m20
        have t21 := same_upd (o := .lst ((List.replicate (60 : Int).toNat 0).map V.int)) m21
        have hg60 : good (List.replicate (60 : Int).toNat 0) := ⟨⟨by decide, by decide⟩, fun n hn => by rw [List.eq_of_mem_replicate hn]; exact Int.le_refl _⟩
        refine fun x4 y4 nx4 ny4 ne4 => make_read nx4 ny4 ne4 (.inl (SqL.of upd_same)) hg60 fun l4 H22 nl4 _ t22 L4 => ?_
        obtain ⟨d4, ha4, _⟩ := id L4
        refine ⟨x4, d4, _, rfl, ha4, x4, l4, _, rfl, L4, _, rfl, by rw [List.length_replicate]; decide, by rw [List.length_replicate]; decide, rfl, _, rfl, iteND (by rw [List.length_replicate]; rfl) ?_⟩
        have t1722 := (((t18.trans t19).trans t20).trans t21).trans t22
        have s22 := s17.trans t1722
        have L1 := L1.same t1722
        have L2 := L2.same t1722
        have L3 := L3.same t1722
        have hD22 := t1722 _ _ hD17
        have hh22 := t1722 _ _ hh17
        clear t18 t19 t20 t21 t22 t1722 hD17 hh17 s17 ha4 L4 nl4 m20 m21
        -- the deeds
        refine ⟨_, rfl, _, rfl, _, rfl, sa, ns, 1, rfl, Same.seq s22 hS, by decide, fun H23 p2 n23 t23 hp23 => ?_⟩
        have l1p : l1 ≠ p2 := ne_of_none L1.at n23
        have l2p : l2 ≠ p2 := ne_of_none L2.at n23
        have l3p : l3 ≠ p2 := ne_of_none L3.at n23
        have Dp2 : D ≠ p2 := ne_of_none hD22 n23
        have hdp2 : hd ≠ p2 := ne_of_none hh22 n23
        have p20 : H p2 = none := s22.free n23
        refine ⟨x1, l1, D, p2, cs, rfl, L1.same t23, t23 _ _ hD22, hp23, l1p, hg, fun H24 m ms m24 fr Lm hm gm em hp24 => ?_⟩
        have hL1 := (L1.same t23).at
        have L2 := (L2.same t23).fr fr nl21 l2p hL1 hp23
        have L3 := (L3.same t23).fr fr nl31 l3p hL1 hp23
        have hD24 := fr _ _ Dp2 Dl1 (t23 _ _ hD22)
        have hh24 := fr _ _ hdp2 hdl1 (t23 _ _ hh22)
        have mhd : m ≠ hd := fun e => by
          rw [e, t23 _ _ hh22] at m24
          cases m24
        have ml1 : m ≠ l1 := fun e => by
          rw [e, hL1] at m24
          cases m24
        have szm : ms.length = n := by omega
        clear hh22 hD22
        refine ⟨_, rfl, rfl, _, rfl, iteD (by intro z; cases z) ?_⟩
        refine ⟨_, rfl, _, rfl, _, _, rfl, rp_ints hh24 hD24 (by omega), _, rfl, iteF ?_⟩
        -- handed changes
        have hrn : inL cs (r : Int) := ⟨by omega, by omega⟩
        obtain ⟨zc, hzc⟩ := in_get hrn
        refine ⟨_, rfl, _, rfl, hd, _, _, _, rfl, rfl, SqL.of hh24, at_of hrn hzc, _, _, rfl, rfl, _, rfl, _, rfl, hd, _, _, r, rfl, rfl, hh24, ixN_nat' (by rw [List.length_map]; omega), ?_⟩
        refine ⟨_, rfl, .inl ⟨rfl, _, SqL.of upd_same⟩, hd, _, _, rfl, rfl, upd_same, ?_, ?_⟩
        · rw [List.length_set, List.length_map, sizeLine_eq]
          omega
        have e26 : Eqp hd H24 (upd (upd H24 hd (.lst ((cs.map V.int).set r (V.int (zc + 1))))) hd (.lst ((cs.map V.int).set r (V.int (zc + 1)) ++ [V.int 1]))) := fun b hb => by rw [upd_ne hb, upd_ne hb]
        dsimp only
        generalize (upd (upd H24 hd (.lst ((cs.map V.int).set r (V.int (zc + 1))))) hd (.lst ((cs.map V.int).set r (V.int (zc + 1)) ++ [V.int 1]))) = H26 at e26 ⊢
        have L1 := Lm.eqh e26 hdl1.symm hh24
        have L2 := L2.eqh e26 hdl2.symm hh24
        have L3 := L3.eqh e26 hdl3.symm hh24
        have hm26 := Pool.eq e26 mhd hm
        have hD26 := Pool.eq e26 hdD.symm hD24
        clear Lm e26 hm hD24 hh24
        refine ⟨_, rfl, _, rfl, x1, l1, m, ms, rfl, L1, hm26, gm, fun H27 t27 => ⟨_, rfl, iteF ?_⟩⟩
        refine ⟨_, rfl, _, rfl, x2, l2, D, cs, rfl, L2.same t27, t27 _ _ hD26, hg, fun H28 t28 => ⟨_, rfl, iteF ?_⟩⟩
        refine ⟨_, rfl, _, rfl, x3, l3, D, cs, rfl, (L3.same t27).same t28, (t27.trans t28) _ _ hD26, hg, fun H29 t29 => ⟨_, rfl, iteF ?_⟩⟩
        have t2629 := (t27.trans t28).trans t29
        have L1 := L1.same t2629
        have L2 := L2.same t2629
        have hm29 := t2629 _ _ hm26
        have hD29 := t2629 _ _ hD26
        clear t27 t28 t29 t2629 hm26 hD26 L3
        -- longer
        refine ⟨_, rfl, (by show 1 ≤ sizeLine; decide), fun b3 m30 => ?_⟩
        have t30 := same_upd (o := .lst [V.int 0]) m30
        refine ⟨m, b3, _, _, rfl, rfl, t30 _ _ hm29, upd_same, ?_, fun lg m31 => ?_⟩
        · rw [List.length_map, sizeLine_eq]
          show _ + 1 ≤ _
          omega
        have t31 := same_upd (o := .lst (ms.map V.int ++ [V.int 0])) m31
        have hlg : (upd (upd H29 b3 (.lst [V.int 0])) lg (.lst (ms.map V.int ++ [V.int 0]))) lg = some (.lst ((ms ++ [0]).map V.int)) := by
          rw [upd_same, List.map_append]
          rfl
        have t2931 := t30.trans t31
        generalize (upd (upd H29 b3 (.lst [V.int 0])) lg (.lst (ms.map V.int ++ [V.int 0]))) = H31 at t2931 hlg ⊢
        have L1 := L1.same t2931
        have L2 := L2.same t2931
        have hm31 := t2931 _ _ hm29
        have hD31 := t2931 _ _ hD29
        clear t30 t31 t2931 hm29 hD29
        refine ⟨_, rfl, rfl, _, rfl, iteDs (fun e60 => ?_) (fun e60 => ?_)⟩
        · have n60' : n = 60 := by
            have := V.int.inj e60
            omega
          refine ⟨_, rfl, _, rfl, m, _, rfl, SqL.of hm31, fun lg m33 => ?_⟩
          have ec : cutV (ms.map V.int) (some (1 : Int)) none = (ms.drop 1).map V.int := by
            rw [show (1 : Int) = ((1 : Nat) : Int) from rfl, cut_from _ _ (by rw [List.length_map]; omega), List.map_drop]
          rw [ec]
          have t33 := same_upd (o := .lst ((ms.drop 1).map V.int)) m33
          have hk : (upd H31 lg (.lst ((ms.drop 1).map V.int))) lg = some (.lst ((ms.drop 1).map V.int)) := upd_same
          generalize upd H31 lg (.lst ((ms.drop 1).map V.int)) = H33 at t33 hk ⊢
          have L1 := L1.same t33
          have L2 := L2.same t33
          have hm31 := t33 _ _ hm31
          have hD31 := t33 _ _ hD31
          have gk : good (ms.drop 1) := ⟨by rw [List.length_drop]; omega, fun z hz => gm.2 z (List.mem_of_mem_drop hz)⟩
          have nk : ms ≠ ms.drop 1 := fun e => by
            have := congrArg List.length e
            rw [List.length_drop] at this
            omega
          refine ⟨_, rfl, _, rfl, fun x5 y5 nx5 ny5 ne5 => make_read nx5 ny5 ne5 (.inl (SqL.of hk)) gk fun l5 H34 nl5 _ t34 L5 => ?_⟩
          refine eq_read (L1.same t34) L5 ?_
          refine ⟨false, by rw [decide_eq_false nk]; rfl, _, rfl, iteF ?_⟩
          have hrm : inL ms (r : Int) := ⟨by omega, by omega⟩
          refine ⟨_, rfl, _, rfl, _, rfl, m, ms, r, rfl, SqL.of (t34 _ _ hm31), hrm, gm.2, fun l6 H35 ms6 n6 t35 h6 e6 ne6 g6 => ?_⟩
          refine ⟨l6, _, rfl, .inl ⟨SqL.of h6, fun t7 n7 => ?_⟩⟩
          have t36 := same_upd (o := .tup (ms6.map V.int)) n7
          refine fun x7 y7 nx7 ny7 ne7 => make_read nx7 ny7 ne7 (.inr (SqT.of upd_same)) ⟨⟨by omega, by omega⟩, g6⟩ fun l7 H37 nl7 _ t37 L7 => ?_
          have t3137 := ((t34.trans t35).trans t36).trans t37
          refine eq_read (L1.same t3137) L7 ?_
          refine ⟨false, by rw [decide_eq_false ne6.symm]; rfl, _, rfl, iteF ?_⟩
          have hm37 := t3137 _ _ hm31
          refine ⟨_, rfl, _, rfl, m, _, rfl, .inl (SqL.of hm37), fun t8 n8 => ?_⟩
          have t38 := same_upd (o := .lst (ms.map V.int)) n8
          refine fun x9 y9 nx9 ny9 ne9 => make_read nx9 ny9 ne9 (.inl (SqL.of upd_same)) gm fun l9 H39 nl9 _ t39 L9 => ?_
          have t3139 := (t3137.trans t38).trans t39
          refine eq_read (L1.same t3139) L9 ?_
          refine ⟨true, by rw [decide_eq_true rfl]; rfl, true, rfl, iteT ?_⟩
          refine ⟨_, rfl, _, rfl, ?_⟩
          refine eq_read (L1.same t3139) (L2.same t3139) ?_
          refine ⟨_, rfl, _, rfl, ?_⟩
          refine rq_ints (SqL.of (t3139 _ _ hm31)) (SqL.of (t3139 _ _ hD31)) ?_
          exact ⟨_, rfl, q _⟩
        · have n60' : n ≠ 60 := fun e => e60 (by rw [e]; rfl)
          have hk := hlg
          have gk : good (ms ++ [0]) := ⟨by rw [List.length_append]; show _ ∧ _ + 1 ≤ 60; have : (ms.length + [(0 : Int)].length) = ms.length + 1 := rfl; omega, fun z hz => (List.mem_append.mp hz).elim (gm.2 z) fun h => by rw [List.mem_singleton.mp h]; exact Int.le_refl _⟩
          have nk : ms ≠ ms ++ [0] := fun e => by
            have := congrArg List.length e
            rw [List.length_append] at this
            have e2 : [(0 : Int)].length = 1 := rfl
            omega
          refine ⟨_, rfl, _, rfl, fun x5 y5 nx5 ny5 ne5 => make_read nx5 ny5 ne5 (.inl (SqL.of hk)) gk fun l5 H34 nl5 _ t34 L5 => ?_⟩
          refine eq_read (L1.same t34) L5 ?_
          refine ⟨false, by rw [decide_eq_false nk]; rfl, _, rfl, iteF ?_⟩
          have hrm : inL ms (r : Int) := ⟨by omega, by omega⟩
          refine ⟨_, rfl, _, rfl, _, rfl, m, ms, r, rfl, SqL.of (t34 _ _ hm31), hrm, gm.2, fun l6 H35 ms6 n6 t35 h6 e6 ne6 g6 => ?_⟩
          refine ⟨l6, _, rfl, .inl ⟨SqL.of h6, fun t7 n7 => ?_⟩⟩
          have t36 := same_upd (o := .tup (ms6.map V.int)) n7
          refine fun x7 y7 nx7 ny7 ne7 => make_read nx7 ny7 ne7 (.inr (SqT.of upd_same)) ⟨⟨by omega, by omega⟩, g6⟩ fun l7 H37 nl7 _ t37 L7 => ?_
          have t3137 := ((t34.trans t35).trans t36).trans t37
          refine eq_read (L1.same t3137) L7 ?_
          refine ⟨false, by rw [decide_eq_false ne6.symm]; rfl, _, rfl, iteF ?_⟩
          have hm37 := t3137 _ _ hm31
          refine ⟨_, rfl, _, rfl, m, _, rfl, .inl (SqL.of hm37), fun t8 n8 => ?_⟩
          have t38 := same_upd (o := .lst (ms.map V.int)) n8
          refine fun x9 y9 nx9 ny9 ne9 => make_read nx9 ny9 ne9 (.inl (SqL.of upd_same)) gm fun l9 H39 nl9 _ t39 L9 => ?_
          have t3139 := (t3137.trans t38).trans t39
          refine eq_read (L1.same t3139) L9 ?_
          refine ⟨true, by rw [decide_eq_true rfl]; rfl, true, rfl, iteT ?_⟩
          refine ⟨_, rfl, _, rfl, ?_⟩
          refine eq_read (L1.same t3139) (L2.same t3139) ?_
          refine ⟨_, rfl, _, rfl, ?_⟩
          refine rq_ints (SqL.of (t3139 _ _ hm31)) (SqL.of (t3139 _ _ hD31)) ?_
          exact ⟨_, rfl, q _⟩
end
end D0

namespace D0
open PySem L2
theorem all_mk {l : PySem.W.OpenLaw} {w : World} {K : PySem.W.Frag} {h : Heap} {mg : Str → Option Value} {fa : Addr} (X : K.In h) (G : h.Ns mainGlobals mg) (hfa : mg "law" = some (.ref fa)) {f0 f1 f2 f3 f4 f5 f6 f7 f8 f9 f10 f11 f12 f13 f14 f15 f16 f17 f18 f19 f20 f21 f22 f23 f24 f25 f26 f27 CLoad CDepotError CBadLoad CBadBook : Addr} {od0 an0 od1 an1 od2 an2 od3 an3 od4 an4 od5 an5 od6 an6 od7 an7 od8 an8 od9 an9 od10 an10 od11 an11 od12 an12 od13 an13 od14 an14 od15 an15 od16 an16 od17 an17 od18 an18 od19 an19 od20 an20 od21 an21 od22 an22 od23 an23 od24 an24 od25 an25 od26 an26 od27 an27 : Option Addr} {sl0 sl1 sl2 sl3 sl4 sl5 sl6 sl7 sl8 sl9 sl10 sl11 sl12 sl13 sl14 sl15 sl16 sl17 sl18 sl19 sl20 sl21 sl22 sl23 sl24 sl25 sl26 sl27 : Array (Option Value)} {oc0 kV0 dc0 pm0 cd0 ct0 oc1 kV1 dc1 pm1 cd1 ct1 oc2 kV2 dc2 pm2 cd2 ct2 oc3 kV3 dc3 pm3 cd3 ct3 oc4 kV4 dc4 pm4 cd4 ct4 oc5 kV5 dc5 pm5 cd5 ct5 oc6 kV6 dc6 pm6 cd6 ct6 oc7 kV7 dc7 pm7 cd7 ct7 oc8 kV8 dc8 pm8 cd8 ct8 oc9 kV9 dc9 pm9 cd9 ct9 oc10 kV10 dc10 pm10 cd10 ct10 oc11 kV11 dc11 pm11 cd11 ct11 oc12 kV12 dc12 pm12 cd12 ct12 oc13 kV13 dc13 pm13 cd13 ct13 oc14 kV14 dc14 pm14 cd14 ct14 oc15 kV15 dc15 pm15 cd15 ct15 oc16 kV16 dc16 pm16 cd16 ct16 oc17 kV17 dc17 pm17 cd17 ct17 oc18 kV18 dc18 pm18 cd18 ct18 oc19 kV19 dc19 pm19 cd19 ct19 oc20 kV20 dc20 pm20 cd20 ct20 oc21 kV21 dc21 pm21 cd21 ct21 oc22 kV22 dc22 pm22 cd22 ct22 oc23 kV23 dc23 pm23 cd23 ct23 oc24 kV24 dc24 pm24 cd24 ct24 oc25 kV25 dc25 pm25 cd25 ct25 oc26 kV26 dc26 pm26 cd26 ct26 oc27 kV27 dc27 pm27 cd27 ct27 : Value} {u_MOST_LENGTH : Tok}
    (k_MOST_LENGTH : PySem.W.nsIn K mainGlobals "MOST_LENGTH" = some (some (.int 60 u_MOST_LENGTH)))
    (z_len : PySem.W.nsIn K mainGlobals "len" = some none)
    (z_min : PySem.W.nsIn K mainGlobals "min" = some none)
    (z_list : PySem.W.nsIn K mainGlobals "list" = some none)
    (z_iter : PySem.W.nsIn K mainGlobals "iter" = some none)
    (z_any : PySem.W.nsIn K mainGlobals "any" = some none)
    (z_sum : PySem.W.nsIn K mainGlobals "sum" = some none)
    (z_abs : PySem.W.nsIn K mainGlobals "abs" = some none)
    (z_int : PySem.W.nsIn K mainGlobals "int" = some none)
    (z_bool : PySem.W.nsIn K mainGlobals "bool" = some none)
    (z_str : PySem.W.nsIn K mainGlobals "str" = some none)
    (z_isinstance : PySem.W.nsIn K mainGlobals "isinstance" = some none)
    (z_tuple : PySem.W.nsIn K mainGlobals "tuple" = some none)
    (z_range : PySem.W.nsIn K mainGlobals "range" = some none)
    (z_ValueError : PySem.W.nsIn K mainGlobals "ValueError" = some none)
    (a_Load : PySem.W.nsIn K mainGlobals "Load" = some (some (.ref CLoad)))
    (pg_Load : PySem.W.plainGet K CLoad Str.empty = true)
    (hd_Load : PySem.W.hasDictIn K CLoad = true)
    (po_Load : PySem.W.plainOver K CLoad = true)
    (sa_Load : PySem.W.findIn K (.ref CLoad) "__setattr__" = some (some (.builtin "object.__setattr__")))
    (mk_Load : PySem.W.makesIn K CLoad = true)
    (kc_Load : PySem.W.keepIn K (.ref CLoad) = true)
    (na_Load__counts : PySem.W.findIn K (.ref CLoad) "_counts" = some none)
    (a0 : PySem.W.nsIn K mainGlobals "check_length" = some (some (.ref f0)))
    (l0 : K.lookup f0 = some ⟨oc0, od0, .func (PySem.W.fnOf "check_length" "check_length" (defArgs sClen) (defBody sClen) (defScope sClen) .none kV0 dc0 pm0 an0 cd0 ct0), sl0⟩)
    (c0 : PySem.W.codeIn K cd0 "check_length" = true)
    (k0 : PySem.W.keepIn K (.ref f0) = true)
    (a1 : PySem.W.nsIn K mainGlobals "check_least" = some (some (.ref f1)))
    (l1 : K.lookup f1 = some ⟨oc1, od1, .func (PySem.W.fnOf "check_least" "check_least" (defArgs sClst) (defBody sClst) (defScope sClst) .none kV1 dc1 pm1 an1 cd1 ct1), sl1⟩)
    (c1 : PySem.W.codeIn K cd1 "check_least" = true)
    (k1 : PySem.W.keepIn K (.ref f1) = true)
    (a2 : PySem.W.findIn K (.ref CLoad) "__init__" = some (some (.ref f2)))
    (i2 : PySem.W.isFn K (.ref f2) = true)
    (l2 : K.lookup f2 = some ⟨oc2, od2, .func (PySem.W.fnOf "__init__" "Load.__init__" (defArgs sInit) (defBody sInit) (defScope sInit) .none kV2 dc2 pm2 an2 cd2 ct2), sl2⟩)
    (c2 : PySem.W.codeIn K cd2 "Load.__init__" = true)
    (k2 : PySem.W.keepIn K (.ref f2) = true)
    (a3 : PySem.W.findIn K (.ref CLoad) "_check_minute" = some (some (.ref f3)))
    (i3 : PySem.W.isFn K (.ref f3) = true)
    (l3 : K.lookup f3 = some ⟨oc3, od3, .func (PySem.W.fnOf "_check_minute" "Load._check_minute" (defArgs sCmin) (defBody sCmin) (defScope sCmin) .none kV3 dc3 pm3 an3 cd3 ct3), sl3⟩)
    (c3 : PySem.W.codeIn K cd3 "Load._check_minute" = true)
    (k3 : PySem.W.keepIn K (.ref f3) = true)
    (a4 : PySem.W.findIn K (.ref CLoad) "__len__" = some (some (.ref f4)))
    (i4 : PySem.W.isFn K (.ref f4) = true)
    (l4 : K.lookup f4 = some ⟨oc4, od4, .func (PySem.W.fnOf "__len__" "Load.__len__" (defArgs sLen) (defBody sLen) (defScope sLen) .none kV4 dc4 pm4 an4 cd4 ct4), sl4⟩)
    (c4 : PySem.W.codeIn K cd4 "Load.__len__" = true)
    (k4 : PySem.W.keepIn K (.ref f4) = true)
    (a5 : PySem.W.findIn K (.ref CLoad) "__iter__" = some (some (.ref f5)))
    (i5 : PySem.W.isFn K (.ref f5) = true)
    (l5 : K.lookup f5 = some ⟨oc5, od5, .func (PySem.W.fnOf "__iter__" "Load.__iter__" (defArgs sIter) (defBody sIter) (defScope sIter) .none kV5 dc5 pm5 an5 cd5 ct5), sl5⟩)
    (c5 : PySem.W.codeIn K cd5 "Load.__iter__" = true)
    (k5 : PySem.W.keepIn K (.ref f5) = true)
    (a6 : PySem.W.findIn K (.ref CLoad) "__getitem__" = some (some (.ref f6)))
    (i6 : PySem.W.isFn K (.ref f6) = true)
    (l6 : K.lookup f6 = some ⟨oc6, od6, .func (PySem.W.fnOf "__getitem__" "Load.__getitem__" (defArgs sGet) (defBody sGet) (defScope sGet) .none kV6 dc6 pm6 an6 cd6 ct6), sl6⟩)
    (c6 : PySem.W.codeIn K cd6 "Load.__getitem__" = true)
    (k6 : PySem.W.keepIn K (.ref f6) = true)
    (a7 : PySem.W.findIn K (.ref CLoad) "__setitem__" = some (some (.ref f7)))
    (i7 : PySem.W.isFn K (.ref f7) = true)
    (l7 : K.lookup f7 = some ⟨oc7, od7, .func (PySem.W.fnOf "__setitem__" "Load.__setitem__" (defArgs sSet) (defBody sSet) (defScope sSet) .none kV7 dc7 pm7 an7 cd7 ct7), sl7⟩)
    (c7 : PySem.W.codeIn K cd7 "Load.__setitem__" = true)
    (k7 : PySem.W.keepIn K (.ref f7) = true)
    (a8 : PySem.W.findIn K (.ref CLoad) "put" = some (some (.ref f8)))
    (i8 : PySem.W.isFn K (.ref f8) = true)
    (l8 : K.lookup f8 = some ⟨oc8, od8, .func (PySem.W.fnOf "put" "Load.put" (defArgs sPut) (defBody sPut) (defScope sPut) .none kV8 dc8 pm8 an8 cd8 ct8), sl8⟩)
    (c8 : PySem.W.codeIn K cd8 "Load.put" = true)
    (k8 : PySem.W.keepIn K (.ref f8) = true)
    (a9 : PySem.W.findIn K (.ref CLoad) "__contains__" = some (some (.ref f9)))
    (i9 : PySem.W.isFn K (.ref f9) = true)
    (l9 : K.lookup f9 = some ⟨oc9, od9, .func (PySem.W.fnOf "__contains__" "Load.__contains__" (defArgs sCon) (defBody sCon) (defScope sCon) .none kV9 dc9 pm9 an9 cd9 ct9), sl9⟩)
    (c9 : PySem.W.codeIn K cd9 "Load.__contains__" = true)
    (k9 : PySem.W.keepIn K (.ref f9) = true)
    (a10 : PySem.W.findIn K (.ref CLoad) "__bool__" = some (some (.ref f10)))
    (i10 : PySem.W.isFn K (.ref f10) = true)
    (l10 : K.lookup f10 = some ⟨oc10, od10, .func (PySem.W.fnOf "__bool__" "Load.__bool__" (defArgs sBoo) (defBody sBoo) (defScope sBoo) .none kV10 dc10 pm10 an10 cd10 ct10), sl10⟩)
    (c10 : PySem.W.codeIn K cd10 "Load.__bool__" = true)
    (k10 : PySem.W.keepIn K (.ref f10) = true)
    (a11 : PySem.W.findIn K (.ref CLoad) "__abs__" = some (some (.ref f11)))
    (i11 : PySem.W.isFn K (.ref f11) = true)
    (l11 : K.lookup f11 = some ⟨oc11, od11, .func (PySem.W.fnOf "__abs__" "Load.__abs__" (defArgs sAbs) (defBody sAbs) (defScope sAbs) .none kV11 dc11 pm11 an11 cd11 ct11), sl11⟩)
    (c11 : PySem.W.codeIn K cd11 "Load.__abs__" = true)
    (k11 : PySem.W.keepIn K (.ref f11) = true)
    (a12 : PySem.W.findIn K (.ref CLoad) "__eq__" = some (some (.ref f12)))
    (i12 : PySem.W.isFn K (.ref f12) = true)
    (l12 : K.lookup f12 = some ⟨oc12, od12, .func (PySem.W.fnOf "__eq__" "Load.__eq__" (defArgs sEq) (defBody sEq) (defScope sEq) .none kV12 dc12 pm12 an12 cd12 ct12), sl12⟩)
    (c12 : PySem.W.codeIn K cd12 "Load.__eq__" = true)
    (k12 : PySem.W.keepIn K (.ref f12) = true)
    (a13 : PySem.W.nsIn K mainGlobals "_law_cell" = some (some (.ref f13)))
    (l13 : K.lookup f13 = some ⟨oc13, od13, .func (PySem.W.fnOf "_law_cell" "_law_cell" (defArgs sCell) (defBody sCell) (defScope sCell) .none kV13 dc13 pm13 an13 cd13 ct13), sl13⟩)
    (c13 : PySem.W.codeIn K cd13 "_law_cell" = true)
    (k13 : PySem.W.keepIn K (.ref f13) = true)
    (a14 : PySem.W.nsIn K mainGlobals "_law_pool" = some (some (.ref f14)))
    (l14 : K.lookup f14 = some ⟨oc14, od14, .func (PySem.W.fnOf "_law_pool" "_law_pool" (defArgs sPool) (defBody sPool) (defScope sPool) .none kV14 dc14 pm14 an14 cd14 ct14), sl14⟩)
    (c14 : PySem.W.codeIn K cd14 "_law_pool" = true)
    (k14 : PySem.W.keepIn K (.ref f14) = true)
    (a15 : PySem.W.nsIn K mainGlobals "_law_take" = some (some (.ref f15)))
    (l15 : K.lookup f15 = some ⟨oc15, od15, .func (PySem.W.fnOf "_law_take" "_law_take" (defArgs sTake) (defBody sTake) (defScope sTake) .none kV15 dc15 pm15 an15 cd15 ct15), sl15⟩)
    (c15 : PySem.W.codeIn K cd15 "_law_take" = true)
    (k15 : PySem.W.keepIn K (.ref f15) = true)
    (a16 : PySem.W.nsIn K mainGlobals "_law_same" = some (some (.ref f16)))
    (l16 : K.lookup f16 = some ⟨oc16, od16, .func (PySem.W.fnOf "_law_same" "_law_same" (defArgs sSame) (defBody sSame) (defScope sSame) .none kV16 dc16 pm16 an16 cd16 ct16), sl16⟩)
    (c16 : PySem.W.codeIn K cd16 "_law_same" = true)
    (k16 : PySem.W.keepIn K (.ref f16) = true)
    (a17 : PySem.W.nsIn K mainGlobals "_law_size" = some (some (.ref f17)))
    (l17 : K.lookup f17 = some ⟨oc17, od17, .func (PySem.W.fnOf "_law_size" "_law_size" (defArgs sSize) (defBody sSize) (defScope sSize) .none kV17 dc17 pm17 an17 cd17 ct17), sl17⟩)
    (c17 : PySem.W.codeIn K cd17 "_law_size" = true)
    (k17 : PySem.W.keepIn K (.ref f17) = true)
    (a18 : PySem.W.nsIn K mainGlobals "_law_count" = some (some (.ref f18)))
    (l18 : K.lookup f18 = some ⟨oc18, od18, .func (PySem.W.fnOf "_law_count" "_law_count" (defArgs sCount) (defBody sCount) (defScope sCount) .none kV18 dc18 pm18 an18 cd18 ct18), sl18⟩)
    (c18 : PySem.W.codeIn K cd18 "_law_count" = true)
    (k18 : PySem.W.keepIn K (.ref f18) = true)
    (a19 : PySem.W.nsIn K mainGlobals "_law_minute" = some (some (.ref f19)))
    (l19 : K.lookup f19 = some ⟨oc19, od19, .func (PySem.W.fnOf "_law_minute" "_law_minute" (defArgs sMin) (defBody sMin) (defScope sMin) .none kV19 dc19 pm19 an19 cd19 ct19), sl19⟩)
    (c19 : PySem.W.codeIn K cd19 "_law_minute" = true)
    (k19 : PySem.W.keepIn K (.ref f19) = true)
    (a20 : PySem.W.nsIn K mainGlobals "_law_shows" = some (some (.ref f20)))
    (l20 : K.lookup f20 = some ⟨oc20, od20, .func (PySem.W.fnOf "_law_shows" "_law_shows" (defArgs sShw) (defBody sShw) (defScope sShw) .none kV20 dc20 pm20 an20 cd20 ct20), sl20⟩)
    (c20 : PySem.W.codeIn K cd20 "_law_shows" = true)
    (k20 : PySem.W.keepIn K (.ref f20) = true)
    (a21 : PySem.W.nsIn K mainGlobals "_law_refuses_counts" = some (some (.ref f21)))
    (l21 : K.lookup f21 = some ⟨oc21, od21, .func (PySem.W.fnOf "_law_refuses_counts" "_law_refuses_counts" (defArgs sRfc) (defBody sRfc) (defScope sRfc) .none kV21 dc21 pm21 an21 cd21 ct21), sl21⟩)
    (c21 : PySem.W.codeIn K cd21 "_law_refuses_counts" = true)
    (k21 : PySem.W.keepIn K (.ref f21) = true)
    (a22 : PySem.W.nsIn K mainGlobals "_law_refuses_read" = some (some (.ref f22)))
    (l22 : K.lookup f22 = some ⟨oc22, od22, .func (PySem.W.fnOf "_law_refuses_read" "_law_refuses_read" (defArgs sRfr) (defBody sRfr) (defScope sRfr) .none kV22 dc22 pm22 an22 cd22 ct22), sl22⟩)
    (c22 : PySem.W.codeIn K cd22 "_law_refuses_read" = true)
    (k22 : PySem.W.keepIn K (.ref f22) = true)
    (a23 : PySem.W.nsIn K mainGlobals "_law_put" = some (some (.ref f23)))
    (l23 : K.lookup f23 = some ⟨oc23, od23, .func (PySem.W.fnOf "_law_put" "_law_put" (defArgs sLput) (defBody sLput) (defScope sLput) .none kV23 dc23 pm23 an23 cd23 ct23), sl23⟩)
    (c23 : PySem.W.codeIn K cd23 "_law_put" = true)
    (k23 : PySem.W.keepIn K (.ref f23) = true)
    (a24 : PySem.W.nsIn K mainGlobals "_law_set" = some (some (.ref f24)))
    (l24 : K.lookup f24 = some ⟨oc24, od24, .func (PySem.W.fnOf "_law_set" "_law_set" (defArgs sLset) (defBody sLset) (defScope sLset) .none kV24 dc24 pm24 an24 cd24 ct24), sl24⟩)
    (c24 : PySem.W.codeIn K cd24 "_law_set" = true)
    (k24 : PySem.W.keepIn K (.ref f24) = true)
    (a25 : PySem.W.nsIn K mainGlobals "_law_deeds" = some (some (.ref f25)))
    (l25 : K.lookup f25 = some ⟨oc25, od25, .func (PySem.W.fnOf "_law_deeds" "_law_deeds" (defArgs sDds) (defBody sDds) (defScope sDds) .none kV25 dc25 pm25 an25 cd25 ct25), sl25⟩)
    (c25 : PySem.W.codeIn K cd25 "_law_deeds" = true)
    (k25 : PySem.W.keepIn K (.ref f25) = true)
    (a26 : PySem.W.nsIn K mainGlobals "_law_near" = some (some (.ref f26)))
    (l26 : K.lookup f26 = some ⟨oc26, od26, .func (PySem.W.fnOf "_law_near" "_law_near" (defArgs sNear) (defBody sNear) (defScope sNear) .none kV26 dc26 pm26 an26 cd26 ct26), sl26⟩)
    (c26 : PySem.W.codeIn K cd26 "_law_near" = true)
    (k26 : PySem.W.keepIn K (.ref f26) = true)
    (a27 : PySem.W.nsIn K mainGlobals "law" = some (some (.ref f27)))
    (l27 : K.lookup f27 = some ⟨oc27, od27, .func (PySem.W.fnOf "law" "law" (defArgs sLaw) (defBody sLaw) (defScope sLaw) .none kV27 dc27 pm27 an27 cd27 ct27), sl27⟩)
    (c27 : PySem.W.codeIn K cd27 "law" = true)
    (k27 : PySem.W.keepIn K (.ref f27) = true)
    (a_DepotError : PySem.W.nsIn K mainGlobals "DepotError" = some (some (.ref CDepotError)))
    (a_BadLoad : PySem.W.nsIn K mainGlobals "BadLoad" = some (some (.ref CBadLoad)))
    (a_BadBook : PySem.W.nsIn K mainGlobals "BadBook" = some (some (.ref CBadBook)))
    (h_xo_BadLoad : PySem.W.excIn K CBadLoad [.type "ValueError", .type "Exception", .type "BaseException", .type "object"] "ValueError.__new__" = true)
    (h_kp_BadLoad : PySem.W.keepIn K (.ref CBadLoad) = true)
    (h_ty_DepotError : PySem.W.typeIn K (.ref CDepotError) = some (.type "type"))
    (h_bs_DepotError : PySem.W.subIn K (.ref CDepotError) (.type "BaseException") = some true)
    (h_hd_DepotError : PySem.W.hasDictIn K CDepotError = true)
    (h_ty_BadLoad : PySem.W.typeIn K (.ref CBadLoad) = some (.type "type"))
    (h_bs_BadLoad : PySem.W.subIn K (.ref CBadLoad) (.type "BaseException") = some true)
    (h_hd_BadLoad : PySem.W.hasDictIn K CBadLoad = true)
    (h_ty_BadBook : PySem.W.typeIn K (.ref CBadBook) = some (.type "type"))
    (h_bs_BadBook : PySem.W.subIn K (.ref CBadBook) (.type "BaseException") = some true)
    (h_hd_BadBook : PySem.W.hasDictIn K CBadBook = true)
    (h_sb_BadLoad_DepotError : PySem.W.subIn K (.ref CBadLoad) (.ref CDepotError) = some true)
    (h_sb_BadLoad_BadBook : PySem.W.subIn K (.ref CBadLoad) (.ref CBadBook) = some false)
    (h_sb_BadLoad_self : PySem.W.subIn K (.ref CBadLoad) (.ref CBadLoad) = some true)
    (h_sb_BadLoad_ValueError : PySem.W.subIn K (.ref CBadLoad) (.type "ValueError") = some true)
    (h_ga_BadLoad : PySem.W.findIn K (.ref CBadLoad) "__getattribute__" = some (some (.builtin "BaseException.__getattribute__")))
    (h_gg_BadLoad : PySem.W.findIn K (.ref CBadLoad) "__getattr__" = some none)
    (h_cl_BadLoad : PySem.W.findIn K (.ref CBadLoad) "__class__" = some (some (.builtin "object.__class__")))
    (h_sp_class : PySem.W.specialIn K (.builtin "object.__class__") "__get__" = some (some (.builtin "getset_descriptor.__get__")))
    (h_tk_class : PySem.W.takesIn K (.builtin "object.__class__") = some true)
    (h_mr_BadLoad : PySem.W.mroIn K CBadLoad (.type "object") = some true)
    (h_ns_Load : PySem.W.noSeq K CLoad = true)
    (h_ic_Load : PySem.W.findIn K (.ref CLoad) "__class__" = some (some (.builtin "object.__class__")))
    (h_mr_Load : PySem.W.mroIn K CLoad (.type "object") = some true)
    (h_fng : PySem.W.fnIn K f6 = true) :
    ∃ fd : FuncData, (∀ (s : Shared) (v : Value), BindsTo s fd ⟨[v], []⟩ [("_law_script", v)]) ∧ ∀ base : Heap, K.In base → base.Ns mainGlobals mg → FnOk l.prog w K mg base CX0 12 fa fd ["_law_script"] (spLaw K) := by
  have e := hfa.symm.trans (PySem.W.mg_of X G a27)
  cases e
  have F0 := fun_mk (st := sClen) l0 c0 k0
  have b0 := F0.binds (ps := ["length"]) fun _ _ _ _ _ _ us hl => match us, hl with | [_], _ => rfl
  have F1 := fun_mk (st := sClst) l1 c1 k1
  have b1 := F1.binds (ps := ["number", "least"]) fun _ _ _ _ _ _ us hl => match us, hl with | [_, _], _ => rfl
  have F2 := fun_mk (st := sInit) l2 c2 k2
  have b2 := F2.binds (ps := ["self", "counts"]) fun _ _ _ _ _ _ us hl => match us, hl with | [_, _], _ => rfl
  have F3 := fun_mk (st := sCmin) l3 c3 k3
  have b3 := F3.binds (ps := ["self", "minute"]) fun _ _ _ _ _ _ us hl => match us, hl with | [_, _], _ => rfl
  have F4 := fun_mk (st := sLen) l4 c4 k4
  have b4 := F4.binds (ps := ["self"]) fun _ _ _ _ _ _ us hl => match us, hl with | [_], _ => rfl
  have F5 := fun_mk (st := sIter) l5 c5 k5
  have b5 := F5.binds (ps := ["self"]) fun _ _ _ _ _ _ us hl => match us, hl with | [_], _ => rfl
  have F6 := fun_mk (st := sGet) l6 c6 k6
  have b6 := F6.binds (ps := ["self", "at"]) fun _ _ _ _ _ _ us hl => match us, hl with | [_, _], _ => rfl
  have F7 := fun_mk (st := sSet) l7 c7 k7
  have b7 := F7.binds (ps := ["self", "at", "worth"]) fun _ _ _ _ _ _ us hl => match us, hl with | [_, _, _], _ => rfl
  have F8 := fun_mk (st := sPut) l8 c8 k8
  have b8 := F8.binds (ps := ["self", "minute", "count"]) fun _ _ _ _ _ _ us hl => match us, hl with | [_, _, _], _ => rfl
  have F9 := fun_mk (st := sCon) l9 c9 k9
  have b9 := F9.binds (ps := ["self", "x"]) fun _ _ _ _ _ _ us hl => match us, hl with | [_, _], _ => rfl
  have F10 := fun_mk (st := sBoo) l10 c10 k10
  have b10 := F10.binds (ps := ["self"]) fun _ _ _ _ _ _ us hl => match us, hl with | [_], _ => rfl
  have F11 := fun_mk (st := sAbs) l11 c11 k11
  have b11 := F11.binds (ps := ["self"]) fun _ _ _ _ _ _ us hl => match us, hl with | [_], _ => rfl
  have F12 := fun_mk (st := sEq) l12 c12 k12
  have b12 := F12.binds (ps := ["self", "other"]) fun _ _ _ _ _ _ us hl => match us, hl with | [_, _], _ => rfl
  have F13 := fun_mk (st := sCell) l13 c13 k13
  have b13 := F13.binds (ps := ["_law_script", "_law_k"]) fun _ _ _ _ _ _ us hl => match us, hl with | [_, _], _ => rfl
  have F14 := fun_mk (st := sPool) l14 c14 k14
  have b14 := F14.binds (ps := ["_law_script", "_law_k"]) fun _ _ _ _ _ _ us hl => match us, hl with | [_, _], _ => rfl
  have F15 := fun_mk (st := sTake) l15 c15 k15
  have b15 := F15.binds (ps := ["_law_pool_here", "_law_many"]) fun _ _ _ _ _ _ us hl => match us, hl with | [_, _], _ => rfl
  have F16 := fun_mk (st := sSame) l16 c16 k16
  have b16 := F16.binds (ps := ["_law_got", "_law_due"]) fun _ _ _ _ _ _ us hl => match us, hl with | [_, _], _ => rfl
  have F17 := fun_mk (st := sSize) l17 c17 k17
  have b17 := F17.binds (ps := ["_law_pool_here"]) fun _ _ _ _ _ _ us hl => match us, hl with | [_], _ => rfl
  have F18 := fun_mk (st := sCount) l18 c18 k18
  have b18 := F18.binds (ps := ["_law_pool_here"]) fun _ _ _ _ _ _ us hl => match us, hl with | [_], _ => rfl
  have F19 := fun_mk (st := sMin) l19 c19 k19
  have b19 := F19.binds (ps := ["_law_pool_here", "_law_size_here"]) fun _ _ _ _ _ _ us hl => match us, hl with | [_, _], _ => rfl
  have F20 := fun_mk (st := sShw) l20 c20 k20
  have b20 := F20.binds (ps := ["_law_load", "_law_counts"]) fun _ _ _ _ _ _ us hl => match us, hl with | [_, _], _ => rfl
  have F21 := fun_mk (st := sRfc) l21 c21 k21
  have b21 := F21.binds (ps := ["_law_counts"]) fun _ _ _ _ _ _ us hl => match us, hl with | [_], _ => rfl
  have F22 := fun_mk (st := sRfr) l22 c22 k22
  have b22 := F22.binds (ps := ["_law_load", "_law_minute_here"]) fun _ _ _ _ _ _ us hl => match us, hl with | [_, _], _ => rfl
  have F23 := fun_mk (st := sLput) l23 c23 k23
  have b23 := F23.binds (ps := ["_law_load", "_law_minute_here", "_law_count_here"]) fun _ _ _ _ _ _ us hl => match us, hl with | [_, _, _], _ => rfl
  have F24 := fun_mk (st := sLset) l24 c24 k24
  have b24 := F24.binds (ps := ["_law_load", "_law_minute_here", "_law_count_here"]) fun _ _ _ _ _ _ us hl => match us, hl with | [_, _, _], _ => rfl
  have F25 := fun_mk (st := sDds) l25 c25 k25
  have b25 := F25.binds (ps := ["_law_load", "_law_counts", "_law_pool_here"]) fun _ _ _ _ _ _ us hl => match us, hl with | [_, _, _], _ => rfl
  have F26 := fun_mk (st := sNear) l26 c26 k26
  have b26 := F26.binds (ps := ["_law_counts", "_law_place"]) fun _ _ _ _ _ _ us hl => match us, hl with | [_, _], _ => rfl
  have F27 := fun_mk (st := sLaw) l27 c27 k27
  have b27 := F27.binds (ps := ["_law_script"]) fun _ _ _ _ _ _ us hl => match us, hl with | [_], _ => rfl
  let T : Tx K mg := { t_MOST_LENGTH := _, c_MOST_LENGTH := PySem.W.mg_of X G k_MOST_LENGTH, z_len := PySem.W.mg_none_of X G z_len, z_min := PySem.W.mg_none_of X G z_min, z_list := PySem.W.mg_none_of X G z_list, z_iter := PySem.W.mg_none_of X G z_iter, z_any := PySem.W.mg_none_of X G z_any, z_sum := PySem.W.mg_none_of X G z_sum, z_abs := PySem.W.mg_none_of X G z_abs, z_int := PySem.W.mg_none_of X G z_int, z_bool := PySem.W.mg_none_of X G z_bool, z_str := PySem.W.mg_none_of X G z_str, z_isinstance := PySem.W.mg_none_of X G z_isinstance, z_tuple := PySem.W.mg_none_of X G z_tuple, z_range := PySem.W.mg_none_of X G z_range, z_ValueError := PySem.W.mg_none_of X G z_ValueError, C_Load := CLoad, g_Load := PySem.W.mg_of X G a_Load, cl_Load := ⟨pg_Load, hd_Load, po_Load, sa_Load⟩, na_Load__counts := na_Load__counts, fcheck_length := f0, dcheck_length := _, Fcheck_length := F0, bcheck_length := b0, gcheck_length := PySem.W.mg_of X G a0, fcheck_least := f1, dcheck_least := _, Fcheck_least := F1, bcheck_least := b1, gcheck_least := PySem.W.mg_of X G a1, fLoad_init := f2, dLoad_init := _, FLoad_init := F2, bLoad_init := b2, M_Load := ⟨mk_Load, a2, i2, kc_Load⟩, fLoad_check_minute := f3, dLoad_check_minute := _, FLoad_check_minute := F3, bLoad_check_minute := b3, m_Load_check_minute := ⟨a3, i3, k3⟩, fLoad_len := f4, dLoad_len := _, FLoad_len := F4, bLoad_len := b4, m_Load_len := ⟨a4, i4, k4⟩, fLoad_iter := f5, dLoad_iter := _, FLoad_iter := F5, bLoad_iter := b5, m_Load_iter := ⟨a5, i5, k5⟩, fLoad_getitem := f6, dLoad_getitem := _, FLoad_getitem := F6, bLoad_getitem := b6, m_Load_getitem := ⟨a6, i6, k6⟩, fLoad_setitem := f7, dLoad_setitem := _, FLoad_setitem := F7, bLoad_setitem := b7, m_Load_setitem := ⟨a7, i7, k7⟩, fLoad_put := f8, dLoad_put := _, FLoad_put := F8, bLoad_put := b8, m_Load_put := ⟨a8, i8, k8⟩, fLoad_contains := f9, dLoad_contains := _, FLoad_contains := F9, bLoad_contains := b9, m_Load_contains := ⟨a9, i9, k9⟩, fLoad_bool := f10, dLoad_bool := _, FLoad_bool := F10, bLoad_bool := b10, m_Load_bool := ⟨a10, i10, k10⟩, fLoad_abs := f11, dLoad_abs := _, FLoad_abs := F11, bLoad_abs := b11, m_Load_abs := ⟨a11, i11, k11⟩, fLoad_eq := f12, dLoad_eq := _, FLoad_eq := F12, bLoad_eq := b12, m_Load_eq := ⟨a12, i12, k12⟩, f_law_cell := f13, d_law_cell := _, F_law_cell := F13, b_law_cell := b13, g_law_cell := PySem.W.mg_of X G a13, f_law_pool := f14, d_law_pool := _, F_law_pool := F14, b_law_pool := b14, g_law_pool := PySem.W.mg_of X G a14, f_law_take := f15, d_law_take := _, F_law_take := F15, b_law_take := b15, g_law_take := PySem.W.mg_of X G a15, f_law_same := f16, d_law_same := _, F_law_same := F16, b_law_same := b16, g_law_same := PySem.W.mg_of X G a16, f_law_size := f17, d_law_size := _, F_law_size := F17, b_law_size := b17, g_law_size := PySem.W.mg_of X G a17, f_law_count := f18, d_law_count := _, F_law_count := F18, b_law_count := b18, g_law_count := PySem.W.mg_of X G a18, f_law_minute := f19, d_law_minute := _, F_law_minute := F19, b_law_minute := b19, g_law_minute := PySem.W.mg_of X G a19, f_law_shows := f20, d_law_shows := _, F_law_shows := F20, b_law_shows := b20, g_law_shows := PySem.W.mg_of X G a20, f_law_refuses_counts := f21, d_law_refuses_counts := _, F_law_refuses_counts := F21, b_law_refuses_counts := b21, g_law_refuses_counts := PySem.W.mg_of X G a21, f_law_refuses_read := f22, d_law_refuses_read := _, F_law_refuses_read := F22, b_law_refuses_read := b22, g_law_refuses_read := PySem.W.mg_of X G a22, f_law_put := f23, d_law_put := _, F_law_put := F23, b_law_put := b23, g_law_put := PySem.W.mg_of X G a23, f_law_set := f24, d_law_set := _, F_law_set := F24, b_law_set := b24, g_law_set := PySem.W.mg_of X G a24, f_law_deeds := f25, d_law_deeds := _, F_law_deeds := F25, b_law_deeds := b25, g_law_deeds := PySem.W.mg_of X G a25, f_law_near := f26, d_law_near := _, F_law_near := F26, b_law_near := b26, g_law_near := PySem.W.mg_of X G a26, flaw := fa, dlaw := _, Flaw := F27, blaw := b27, glaw := PySem.W.mg_of X G a27, C_DepotError := CDepotError, g_DepotError := PySem.W.mg_of X G a_DepotError, C_BadLoad := CBadLoad, g_BadLoad := PySem.W.mg_of X G a_BadLoad, C_BadBook := CBadBook, g_BadBook := PySem.W.mg_of X G a_BadBook, xo_BadLoad := h_xo_BadLoad, kp_BadLoad := h_kp_BadLoad, ty_DepotError := h_ty_DepotError, bs_DepotError := h_bs_DepotError, hd_DepotError := h_hd_DepotError, ty_BadLoad := h_ty_BadLoad, bs_BadLoad := h_bs_BadLoad, hd_BadLoad := h_hd_BadLoad, ty_BadBook := h_ty_BadBook, bs_BadBook := h_bs_BadBook, hd_BadBook := h_hd_BadBook, sb_BadLoad_DepotError := h_sb_BadLoad_DepotError, sb_BadLoad_BadBook := h_sb_BadLoad_BadBook, sb_BadLoad_self := h_sb_BadLoad_self, sb_BadLoad_ValueError := h_sb_BadLoad_ValueError, ga_BadLoad := h_ga_BadLoad, gg_BadLoad := h_gg_BadLoad, cl_BadLoad := h_cl_BadLoad, sp_class := h_sp_class, tk_class := h_tk_class, mr_BadLoad := h_mr_BadLoad, ns_Load := h_ns_Load, ic_Load := h_ic_Load, mr_Load := h_mr_Load, fn_Load_getitem := h_fng }
  exact ⟨_, fun s v => .of_eq rfl, fun base _ _ => ok_law T⟩
end D0
open PySem PySem.W PyProof.Rows
set_option maxRecDepth 100000 in
set_option maxHeartbeats 0 in
theorem PySem.Challenge.cw_depotday_k00_load_counts_holds : PySem.Challenge.rw_depotday_k00_load_counts.Holds := by
  w_on; o_law; k_head; (case hw => w_witness2)
  k_fill
  refine L2.walk_of (l := PySem.Challenge.rw_depotday_k00_load_counts) (n := 63) (k := 12) (x := "_law_script") (CX := fun _ => L2.CX0) (sp := fun w => D0.spLaw _) rfl (by decide) rfl ⟨rfl, by decide, by decide⟩ (fun w h Y => PySem.W.kIn_of Y) ?F (fun _ _ a ns hl _ hS => ⟨a, ns, rfl, hS, hl, fun _ => rfl⟩) (fun _ _ _ _ _ h => h)
  case F =>
    intro w mg fa h KX G hmg
    refine' D0.all_mk KX G hmg ?k_MOST_LENGTH ?z_len ?z_min ?z_list ?z_iter ?z_any ?z_sum ?z_abs ?z_int ?z_bool ?z_str ?z_isinstance ?z_tuple ?z_range ?z_ValueError ?a_Load ?pg_Load ?hd_Load ?po_Load ?sa_Load ?mk_Load ?kc_Load ?na_Load__counts ?a0 ?l0 ?c0 ?k0 ?a1 ?l1 ?c1 ?k1 ?a2 ?i2 ?l2 ?c2 ?k2 ?a3 ?i3 ?l3 ?c3 ?k3 ?a4 ?i4 ?l4 ?c4 ?k4 ?a5 ?i5 ?l5 ?c5 ?k5 ?a6 ?i6 ?l6 ?c6 ?k6 ?a7 ?i7 ?l7 ?c7 ?k7 ?a8 ?i8 ?l8 ?c8 ?k8 ?a9 ?i9 ?l9 ?c9 ?k9 ?a10 ?i10 ?l10 ?c10 ?k10 ?a11 ?i11 ?l11 ?c11 ?k11 ?a12 ?i12 ?l12 ?c12 ?k12 ?a13 ?l13 ?c13 ?k13 ?a14 ?l14 ?c14 ?k14 ?a15 ?l15 ?c15 ?k15 ?a16 ?l16 ?c16 ?k16 ?a17 ?l17 ?c17 ?k17 ?a18 ?l18 ?c18 ?k18 ?a19 ?l19 ?c19 ?k19 ?a20 ?l20 ?c20 ?k20 ?a21 ?l21 ?c21 ?k21 ?a22 ?l22 ?c22 ?k22 ?a23 ?l23 ?c23 ?k23 ?a24 ?l24 ?c24 ?k24 ?a25 ?l25 ?c25 ?k25 ?a26 ?l26 ?c26 ?k26 ?a27 ?l27 ?c27 ?k27 ?a_DepotError ?a_BadLoad ?a_BadBook ?h_xo_BadLoad ?h_kp_BadLoad ?h_ty_DepotError ?h_bs_DepotError ?h_hd_DepotError ?h_ty_BadLoad ?h_bs_BadLoad ?h_hd_BadLoad ?h_ty_BadBook ?h_bs_BadBook ?h_hd_BadBook ?h_sb_BadLoad_DepotError ?h_sb_BadLoad_BadBook ?h_sb_BadLoad_self ?h_sb_BadLoad_ValueError ?h_ga_BadLoad ?h_gg_BadLoad ?h_cl_BadLoad ?h_sp_class ?h_tk_class ?h_mr_BadLoad ?h_ns_Load ?h_ic_Load ?h_mr_Load ?h_fng
    (case k_MOST_LENGTH => k_is)
    (case z_len => k_is)
    (case z_min => k_is)
    (case z_list => k_is)
    (case z_iter => k_is)
    (case z_any => k_is)
    (case z_sum => k_is)
    (case z_abs => k_is)
    (case z_int => k_is)
    (case z_bool => k_is)
    (case z_str => k_is)
    (case z_isinstance => k_is)
    (case z_tuple => k_is)
    (case z_range => k_is)
    (case z_ValueError => k_is)
    (case a_Load => k_is)
    (case pg_Load => k_is)
    (case hd_Load => k_is)
    (case po_Load => k_is)
    (case sa_Load => k_is)
    (case mk_Load => k_is)
    (case kc_Load => k_is)
    (case na_Load__counts => k_is)
    (case a0 => k_is)
    (case l0 => k_is)
    (case c0 => k_is)
    (case k0 => k_is)
    (case a1 => k_is)
    (case l1 => k_is)
    (case c1 => k_is)
    (case k1 => k_is)
    (case a2 => k_is)
    (case i2 => k_is)
    (case l2 => k_is)
    (case c2 => k_is)
    (case k2 => k_is)
    (case a3 => k_is)
    (case i3 => k_is)
    (case l3 => k_is)
    (case c3 => k_is)
    (case k3 => k_is)
    (case a4 => k_is)
    (case i4 => k_is)
    (case l4 => k_is)
    (case c4 => k_is)
    (case k4 => k_is)
    (case a5 => k_is)
    (case i5 => k_is)
    (case l5 => k_is)
    (case c5 => k_is)
    (case k5 => k_is)
    (case a6 => k_is)
    (case i6 => k_is)
    (case l6 => k_is)
    (case c6 => k_is)
    (case k6 => k_is)
    (case a7 => k_is)
    (case i7 => k_is)
    (case l7 => k_is)
    (case c7 => k_is)
    (case k7 => k_is)
    (case a8 => k_is)
    (case i8 => k_is)
    (case l8 => k_is)
    (case c8 => k_is)
    (case k8 => k_is)
    (case a9 => k_is)
    (case i9 => k_is)
    (case l9 => k_is)
    (case c9 => k_is)
    (case k9 => k_is)
    (case a10 => k_is)
    (case i10 => k_is)
    (case l10 => k_is)
    (case c10 => k_is)
    (case k10 => k_is)
    (case a11 => k_is)
    (case i11 => k_is)
    (case l11 => k_is)
    (case c11 => k_is)
    (case k11 => k_is)
    (case a12 => k_is)
    (case i12 => k_is)
    (case l12 => k_is)
    (case c12 => k_is)
    (case k12 => k_is)
    (case a13 => k_is)
    (case l13 => k_is)
    (case c13 => k_is)
    (case k13 => k_is)
    (case a14 => k_is)
    (case l14 => k_is)
    (case c14 => k_is)
    (case k14 => k_is)
    (case a15 => k_is)
    (case l15 => k_is)
    (case c15 => k_is)
    (case k15 => k_is)
    (case a16 => k_is)
    (case l16 => k_is)
    (case c16 => k_is)
    (case k16 => k_is)
    (case a17 => k_is)
    (case l17 => k_is)
    (case c17 => k_is)
    (case k17 => k_is)
    (case a18 => k_is)
    (case l18 => k_is)
    (case c18 => k_is)
    (case k18 => k_is)
    (case a19 => k_is)
    (case l19 => k_is)
    (case c19 => k_is)
    (case k19 => k_is)
    (case a20 => k_is)
    (case l20 => k_is)
    (case c20 => k_is)
    (case k20 => k_is)
    (case a21 => k_is)
    (case l21 => k_is)
    (case c21 => k_is)
    (case k21 => k_is)
    (case a22 => k_is)
    (case l22 => k_is)
    (case c22 => k_is)
    (case k22 => k_is)
    (case a23 => k_is)
    (case l23 => k_is)
    (case c23 => k_is)
    (case k23 => k_is)
    (case a24 => k_is)
    (case l24 => k_is)
    (case c24 => k_is)
    (case k24 => k_is)
    (case a25 => k_is)
    (case l25 => k_is)
    (case c25 => k_is)
    (case k25 => k_is)
    (case a26 => k_is)
    (case l26 => k_is)
    (case c26 => k_is)
    (case k26 => k_is)
    (case a27 => k_is)
    (case l27 => k_is)
    (case c27 => k_is)
    (case k27 => k_is)
    (case a_DepotError => k_is)
    (case a_BadLoad => k_is)
    (case a_BadBook => k_is)
    (case h_xo_BadLoad => k_exc)
    (case h_kp_BadLoad => k_is)
    (case h_ty_DepotError => k_is)
    (case h_bs_DepotError => k_is)
    (case h_hd_DepotError => k_is)
    (case h_ty_BadLoad => k_is)
    (case h_bs_BadLoad => k_is)
    (case h_hd_BadLoad => k_is)
    (case h_ty_BadBook => k_is)
    (case h_bs_BadBook => k_is)
    (case h_hd_BadBook => k_is)
    (case h_sb_BadLoad_DepotError => k_is)
    (case h_sb_BadLoad_BadBook => k_is)
    (case h_sb_BadLoad_self => k_is)
    (case h_sb_BadLoad_ValueError => k_is)
    (case h_ga_BadLoad => k_is)
    (case h_gg_BadLoad => k_is)
    (case h_cl_BadLoad => k_is)
    (case h_sp_class => k_is)
    (case h_tk_class => k_is)
    (case h_mr_BadLoad => k_is)
    (case h_ns_Load => k_is)
    (case h_ic_Load => k_is)
    (case h_mr_Load => k_is)
    (case h_fng => k_is)
#print axioms PySem.Challenge.cw_depotday_k00_load_counts_holds
